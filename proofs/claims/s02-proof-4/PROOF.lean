import PyProof.Rows.All
import Wide.All
import OpenK.AllK
import Wide.FinOn
import PyProof.EqAt
import PyProof.EqKinds
import PyProof.TupleCall
import KE.BitLaws
import KE.OsGo
import Open.SpecLaws
import PyProof.Rows.SortShellAny
import PyProof.ListRange
import PySem.Challenge.RW_komadai_s02_sg_text
set_option Elab.async false
set_option linter.all false
set_option maxRecDepth 100000
/-! THE HAND LAYER, for ints, bools, texts, own classes, lists, tuples, dicts, comprehensions, walks over dicts, enumerate, zip, reversed, texts, calls, loops. Paste it whole ahead of your own text; what your proof does not reach may be deleted. -/
namespace L2
open PySem PySem.Spec PyProof.Rows
/-- a key: an int or a str -/
abbrev Key := Sum Int Str
def keyIs : Key → Value → Bool
  | .inl k, v => Value.isInt k v
  | .inr x, v => Value.isStrOf x v
def keyH (w : World) : Key → Int
  | .inl k => hashInt k
  | .inr x => hashStr w x
theorem keyIs_shape : ∀ {k : Key} {v : Value}, keyIs k v = true → (∃ i t, k = Sum.inl i ∧ v = Value.int i t) ∨ (∃ x t, k = Sum.inr x ∧ v = Value.str x t)
  | .inl i, v, h => by
    obtain ⟨t, e⟩ := Value.isInt_shape (k := i) (v := v) h
    exact .inl ⟨i, t, rfl, e⟩
  | .inr x, v, h => by
    obtain ⟨t, e⟩ := Value.isStrOf_shape (x := x) (v := v) h
    exact .inr ⟨x, t, rfl, e⟩
theorem keyIs_int (i : Int) (t : Tok) : keyIs (.inl i) (.int i t) = true := by simp [keyIs, Value.isInt]
theorem keyIs_str (x : Str) (t : Tok) : keyIs (.inr x) (.str x t) = true := by simp [keyIs, Value.isStrOf]
theorem key_ll (a b : Int) : decide ((Sum.inl a : Key) = Sum.inl b) = (a == b) := by
  by_cases e : a = b
  · subst e; simp
  · have h : ¬ (Sum.inl a : Key) = Sum.inl b := fun q => e (Sum.inl.inj q)
    rw [decide_eq_false h]
    exact (beq_eq_false_iff_ne.mpr e).symm
theorem key_rr (a b : Str) : decide ((Sum.inr a : Key) = Sum.inr b) = decide (a = b) := by
  by_cases e : a = b
  · subst e; simp
  · have h : ¬ (Sum.inr a : Key) = Sum.inr b := fun q => e (Sum.inr.inj q)
    rw [decide_eq_false h, decide_eq_false e]
theorem key_lr (a : Int) (b : Str) : decide ((Sum.inl a : Key) = Sum.inr b) = false := decide_eq_false (fun q => nomatch q)
theorem key_rl (a : Str) (b : Int) : decide ((Sum.inr a : Key) = Sum.inl b) = false := decide_eq_false (fun q => nomatch q)
def mixKind (prog : Program) (w : World) : PySem.KeyKind prog w Key where
  is := keyIs
  hash := keyH w
  inj := fun v a b ha hb => by
    rcases keyIs_shape ha with ⟨i, t, rfl, rfl⟩ | ⟨x, t, rfl, rfl⟩
    · rcases keyIs_shape hb with ⟨j, u, rfl, e⟩ | ⟨y, u, rfl, e⟩
      · injection e with e1 _; rw [e1]
      · exact nomatch e
    · rcases keyIs_shape hb with ⟨j, u, rfl, e⟩ | ⟨y, u, rfl, e⟩
      · exact nomatch e
      · injection e with e1 _; rw [e1]
  byValue := fun k v h => by
    rcases keyIs_shape h with ⟨i, t, rfl, rfl⟩ | ⟨x, t, rfl, rfl⟩ <;> rfl
  pyHash := fun hv h => by
    rcases keyIs_shape hv with ⟨i, t, rfl, rfl⟩ | ⟨x, t, rfl, rfl⟩
    · exact wpAny_pyHash_int h
    · exact wpAny_pyHash_str h
  eqBool := fun hu hv h => by
    rcases keyIs_shape hu with ⟨i, t, rfl, rfl⟩ | ⟨x, t, rfl, rfl⟩
    · rcases keyIs_shape hv with ⟨j, u, rfl, rfl⟩ | ⟨y, u, rfl, rfl⟩
      · rw [key_ll] at h; exact wpAny_eqBool_int h
      · rw [key_lr] at h; exact SeqAt.EqAt.int_str i t y u _ _ _ _ h
    · rcases keyIs_shape hv with ⟨j, u, rfl, rfl⟩ | ⟨y, u, rfl, rfl⟩
      · rw [key_rl] at h; exact SeqAt.EqAt.str_int x t j u _ _ _ _ h
      · rw [key_rr] at h; exact wpAny_eqBool_str h
  «strs» := fun k x t v h => by
    rcases keyIs_shape h with ⟨i, u, rfl, e⟩ | ⟨y, u, rfl, e⟩
    · exact nomatch e
    · injection e with e1 _
      subst e1
      cases v <;> rfl
theorem mixKind_int (prog : Program) (w : World) (i : Int) (t : Tok) : (mixKind prog w).is (.inl i) (.int i t) = true := keyIs_int i t
theorem mixKind_str (prog : Program) (w : World) (x : Str) (t : Tok) : (mixKind prog w).is (.inr x) (.str x t) = true := keyIs_str x t
end L2
namespace L2
open PySem PySem.Spec PyProof.Rows
/-- a value, without the heap -/
inductive V where
  | non | bl (b : Bool) | int (i : Int) | str (x : Str) | byt (b : Array UInt8) | flt (b : UInt64) | ref (a : Addr) | ty (n : String)
  deriving DecidableEq
def RelV : V → Value → Prop
  | .non, u => u = Value.none
  | .bl b, u => u = Value.bool b
  | .int i, u => ∃ t, u = Value.int i t
  | .str x, u => ∃ t, u = Value.str x t
  | .byt b, u => ∃ t, u = Value.bytes b t
  | .flt b, u => ∃ t, u = Value.float b t
  | .ref a, u => u = Value.ref a
  | .ty n, u => u = Value.type n
abbrev Vals : List V → List Value → Prop := Paired RelV
theorem Vals.length {xs : List V} {us : List Value} (r : Vals xs us) : xs.length = us.length := Paired.length r
theorem Vals.get : ∀ {xs : List V} {us : List Value} {i : Nat} {x : V}, Vals xs us → xs[i]? = some x → ∃ u, us[i]? = some u ∧ RelV x u
  | _, _, _, _, .nil, e => by simp at e
  | _, _, 0, _, .cons r _, e => by simp at e; subst e; exact ⟨_, rfl, r⟩
  | _, _, i + 1, x, .cons _ t, e => by
    obtain ⟨u, h1, h2⟩ := Vals.get (i := i) (x := x) t (by simpa using e)
    exact ⟨u, by simpa using h1, h2⟩
theorem Vals.set {x : V} {u : Value} (r : RelV x u) : ∀ {xs : List V} {us : List Value} (i : Nat), Vals xs us → Vals (xs.set i x) (us.set i u)
  | _, _, _, .nil => .nil
  | _, _, 0, .cons _ t => .cons r t
  | _, _, i + 1, .cons q t => .cons q (Vals.set r i t)
theorem Vals.append : ∀ {xs ys : List V} {us ws : List Value}, Vals xs us → Vals ys ws → Vals (xs ++ ys) (us ++ ws)
  | _, _, _, _, .nil, s => s
  | _, _, _, _, .cons r t, s => .cons r (Vals.append t s)
theorem Vals.take : ∀ {xs : List V} {us : List Value} (n : Nat), Vals xs us → Vals (xs.take n) (us.take n)
  | _, _, 0, _ => .nil
  | _, _, _ + 1, .nil => .nil
  | _, _, n + 1, .cons r t => .cons r (Vals.take n t)
theorem Vals.drop : ∀ {xs : List V} {us : List Value} (n : Nat), Vals xs us → Vals (xs.drop n) (us.drop n)
  | _, _, 0, r => r
  | _, _, _ + 1, .nil => .nil
  | _, _, n + 1, .cons _ t => Vals.drop n t
theorem Vals.none_of : ∀ {xs : List V} {us : List Value} {i : Nat}, Vals xs us → xs[i]? = none → us[i]? = none := fun {xs us i} r e => by
  have h1 := r.length
  have h2 : xs.length ≤ i := List.getElem?_eq_none_iff.mp e
  exact List.getElem?_eq_none_iff.mpr (by omega)
def RelO : Option V → Option Value → Prop
  | some v, some u => RelV v u
  | none, none => True
  | _, _ => False
def KV {κ : Type} : List (κ × V) → List (κ × Value) → Prop := Paired fun (p : κ × V) (q : κ × Value) => p.1 = q.1 ∧ RelV p.2 q.2
/-- a key of a dict (00_mix): an int or a text -/
def kV : Key → V
  | .inl i => .int i
  | .inr x => .str x
/-- what stands at a tracked address -/
inductive HO where
  /-- a list -/
  | lst (xs : List V)
  /-- a tuple (never changes) -/
  | tup (xs : List V)
  /-- a dict whose keys are ints and texts; one whose keys are tuples of ints and texts (the empty one is both) -/
  | dK (kvs : List (Key × V)) | dT (kvs : List (List Key × V))
  /-- a set of ints: its members, its size -/
  | set (S : Int → Bool) (n : Nat)
  /-- an instance of the class at C, its dict at dx, its attributes -/
  | ins (C dx : Addr) (fs : List (Str × V))
  /-- the dict of the instance at x -/
  | own (x : Addr)
  /-- the dict of an exception -/
  | xd (fs : List (Str × V))
  /-- a bound method, f of x -/
  | met (f x : Addr)
  /-- a range object lo, lo + 1, .. below hi -/
  | rng (lo hi : Int)
  /-- a thing that is known to the object (the script; a dict while a loop walks it): read, never written while it is so -/
  | frz (o : Obj) (u : HO)
  /-- a code object's table -/
  | tbl (ps : Array Value)
  /-- any other thing, by what is true of its one object (a def of one's own: SetO a S n := HO.ext fun h => ..) -/
  | ext (φ : Heap → Prop)
abbrev Hp := Addr → Option HO
def upd (H : Hp) (a : Addr) (o : HO) : Hp := fun b => if b = a then some o else H b
theorem upd_same {H : Hp} {a : Addr} {o : HO} : upd H a o a = some o := by unfold upd; rw [if_pos rfl]
theorem upd_ne {H : Hp} {a b : Addr} {o : HO} (h : b ≠ a) : upd H a o b = H b := by unfold upd; rw [if_neg h]
/-- two objects of different content stand apart -/
theorem ne_of {H : Hp} {a b : Addr} {o u : HO} (h : H a = some o) (h' : H b = some u) (d : o ≠ u) : a ≠ b := by
  intro e; subst e; rw [h] at h'; exact d (Option.some.inj h')
theorem ne_of_none {H : Hp} {a b : Addr} {o : HO} (h : H a = some o) (h' : H b = none) : a ≠ b := by
  intro e; subst e; rw [h] at h'; cases h'
section
variable (P : Program) (w : World)
def ObjOk (H : Hp) (h : Heap) (a : Addr) : HO → Prop
  | .lst xs => xs.length ≤ sizeLine ∧ ∃ (its : List Value) (n : Nat), Vals xs its ∧ h.get? a = some { cls := .type "list", data := .seq its.toArray n }
  | .tup xs => xs.length ≤ sizeLine ∧ ∃ its : List Value, Vals xs its ∧ IsTup h a its.toArray
  | .dK kvs => kvs.length ≤ sizeLine ∧ (a == sysModules) = false ∧ ∃ vs, KV kvs vs ∧ h.DictOf (mixKind P w) a vs
  | .dT kvs => kvs.length ≤ sizeLine ∧ (a == sysModules) = false ∧ ∃ xs : List (List Key × Addr × Value),
      Paired (fun (p : List Key × V) (q : List Key × Addr × Value) => p.1 = q.1 ∧ H q.2.1 = some (.tup (p.1.map kV)) ∧ RelV p.2 q.2.2) kvs xs ∧
      ∃ o es ep, h.get? a = some o ∧ o.ExactDict ∧ o.data = .dict es ep ∧ es.toList = xs.map (entryOfKey (tupleKind (mixKind P w))) ∧ (xs.map (·.1)).Nodup
  | .set S n => h.SetOf (intKind P w) a S n
  | .ins C dx fs => H dx = some (.own a) ∧ fs.length ≤ 1000 ∧ dx ≠ a ∧ h.get? a = some (PySem.W.instObj C dx) ∧
      ∃ mA, h.Ns1 dx mA ∧ (∀ f, RelO (fs.lookup f) (mA f)) ∧ PySem.Within mA (fs.map (·.1))
  | .own _ => ∃ o, h.get? a = some o
  | .xd fs => ∃ mA, h.Ns1 a mA ∧ ∀ f, RelO (fs.lookup f) (mA f)
  | .rng lo hi => ∃ t u v, h.get? a = some { cls := .type "range", data := .fields #[.int lo t, .int hi u, .int 1 v] }
  | .frz o u => h.get? a = some o ∧ ObjOk H h a u
  | .tbl ps => h.get? a = some { cls := .none, data := .fields ps }
  | .met f x => h.get? a = some (PySem.W.methodObj (.ref f) (.ref x))
  | .ext φ => φ h ∧ (∃ o, h.get? a = some o) ∧ ∀ h1 h2 : Heap, φ h1 → (∀ o, h1.get? a = some o → h2.get? a = some o) → φ h2
/-- the abstract heap is held -/
def HOk (H : Hp) (h : Heap) : Prop := ∀ a o, H a = some o → ObjOk P w H h a o
end
section
variable {P : Program} {w : World} {H H' : Hp} {h h' : Heap} {a : Addr} {o : HO}
theorem ObjOk.lt (x : ObjOk P w H h a o) : a < h.objs.size := by
  cases o with
  | lst xs => obtain ⟨_, _, _, _, e⟩ := x; exact Heap.lt_size e
  | tup xs => obtain ⟨_, _, _, p⟩ := x; exact p.lt
  | dK kvs => obtain ⟨_, _, _, _, o, _, _, e, _⟩ := x; exact Heap.lt_size e
  | dT kvs => obtain ⟨_, _, _, _, o, _, _, e, _⟩ := x; exact Heap.lt_size e
  | set S n => obtain ⟨o, _, _, _, e, _⟩ := x; exact Heap.lt_size e
  | ins C dx fs => obtain ⟨_, _, _, e, _⟩ := x; exact Heap.lt_size e
  | own y => obtain ⟨_, e⟩ := x; exact Heap.lt_size e
  | xd fs => obtain ⟨_, ⟨_, _, _, e, _⟩, _⟩ := x; exact Heap.lt_size e
  | rng lo hi => obtain ⟨_, _, _, e⟩ := x; exact Heap.lt_size e
  | frz ob u => obtain ⟨e, _⟩ := x; exact Heap.lt_size e
  | tbl ps => exact Heap.lt_size (show h.get? a = some _ from x)
  | met f y => exact Heap.lt_size (show h.get? a = some _ from x)
  | ext φ => obtain ⟨_, ⟨_, e⟩, _⟩ := x; exact Heap.lt_size e
theorem Paired.mapP {α β : Type} {F G : α → β → Prop} : ∀ {l₁ : List α} {l₂ : List β}, Paired F l₁ l₂ → (∀ a b, F a b → G a b) → Paired G l₁ l₂
  | _, _, .nil, _ => .nil
  | _, _, .cons r t, f => .cons (f _ _ r) (Paired.mapP t f)
/-- what an object's description leans on: its own object, its own dict, the tuples -/
theorem ObjOk.stay (x : ObjOk P w H h a o) (k : ∀ b u, (b = a ∨ H b = some (.own a)) → h.get? b = some u → h'.get? b = some u)
    (ho : ∀ b, H b = some (.own a) → H' b = some (.own a)) (ht : ∀ b xs, H b = some (.tup xs) → H' b = some (.tup xs)) : ObjOk P w H' h' a o := by
  induction o with
  | lst xs => obtain ⟨z, its, n, r, e⟩ := x; exact ⟨z, its, n, r, k _ _ (.inl rfl) e⟩
  | tup xs => obtain ⟨z, its, r, ob, e, c⟩ := x; exact ⟨z, its, r, ob, k _ _ (.inl rfl) e, c⟩
  | dK kvs => obtain ⟨z, y, vs, r, ob, es, ep, e, c⟩ := x; exact ⟨z, y, vs, r, ob, es, ep, k _ _ (.inl rfl) e, c⟩
  | dT kvs =>
    obtain ⟨z, y, xs, r, ob, es, ep, e, c⟩ := x
    exact ⟨z, y, xs, Paired.mapP r fun p q z => ⟨z.1, ht _ _ z.2.1, z.2.2⟩, ob, es, ep, k _ _ (.inl rfl) e, c⟩
  | set S n => obtain ⟨ob, es, ep, t, e, c⟩ := x; exact ⟨ob, es, ep, t, k _ _ (.inl rfl) e, c⟩
  | ins C dx fs =>
    obtain ⟨d, z, ne, e, mA, ⟨od, es, ep, e2, c⟩, r⟩ := x
    exact ⟨ho _ d, z, ne, k _ _ (.inl rfl) e, mA, ⟨od, es, ep, k _ _ (.inr d) e2, c⟩, r⟩
  | own y => obtain ⟨ob, e⟩ := x; exact ⟨ob, k _ _ (.inl rfl) e⟩
  | xd fs => obtain ⟨mA, ⟨od, es, ep, e, c⟩, r⟩ := x; exact ⟨mA, ⟨od, es, ep, k _ _ (.inl rfl) e, c⟩, r⟩
  | rng lo hi => obtain ⟨t, u, v, e⟩ := x; exact ⟨t, u, v, k _ _ (.inl rfl) e⟩
  | frz ob u ih => obtain ⟨e, q⟩ := x; exact ⟨k _ _ (.inl rfl) e, ih q⟩
  | tbl ps =>
    have e : h.get? a = some { cls := .none, data := .fields ps } := x
    show h'.get? a = some { cls := .none, data := .fields ps }
    exact k a _ (.inl rfl) e
  | met f y =>
    have e : h.get? a = some (PySem.W.methodObj (.ref f) (.ref y)) := x
    show h'.get? a = some (PySem.W.methodObj (.ref f) (.ref y))
    exact k a _ (.inl rfl) e
  | ext φ => obtain ⟨p, ⟨o, e⟩, st⟩ := x; exact ⟨st _ _ p fun o q => k _ _ (.inl rfl) q, ⟨o, k _ _ (.inl rfl) e⟩, st⟩
theorem HOk.lt (x : HOk P w H h) (e : H a = some o) : a < h.objs.size := (x a o e).lt
theorem HOk.fresh (x : HOk P w H h) (e : h.objs.size ≤ a) : H a = none := by
  cases q : H a with
  | none => rfl
  | some u => exact absurd (Nat.lt_of_lt_of_le (x.lt q) e) (Nat.lt_irrefl _)
/-- every object of the heap is kept -/
theorem HOk.kept (x : HOk P w H h) (k : ∀ b u, h.get? b = some u → h'.get? b = some u) : HOk P w H h' := fun a o e =>
  (x a o e).stay (fun b u _ q => k b u q) (fun _ q => q) fun _ _ q => q
/-- a new object is laid and tracked -/
theorem HOk.laid (x : HOk P w H h) (k : ∀ b u, h.get? b = some u → h'.get? b = some u) (hp : h.objs.size ≤ a) (new : ObjOk P w (upd H a o) h' a o) : HOk P w (upd H a o) h' := fun b u e => by
  have hn := x.fresh hp
  by_cases hb : b = a
  · subst hb; rw [upd_same] at e; cases e; exact new
  · rw [upd_ne hb] at e
    exact (x b u e).stay (fun c v _ q => k c v q) (fun c q => by rw [upd_ne (ne_of_none q hn)]; exact q) fun c xs q => by rw [upd_ne (ne_of_none q hn)]; exact q
end
/-- what may be read as u: it is u, or a known u -/
def Rd (H : Hp) (a : Addr) (u : HO) : Prop := H a = some u ∨ ∃ o, H a = some (.frz o u)
theorem Rd.ok {P : Program} {w : World} {H : Hp} {h : Heap} {a : Addr} {u : HO} (r : Rd H a u) (x : HOk P w H h) : ObjOk P w H h a u := by
  rcases r with r | ⟨o, r⟩
  · exact x a u r
  · obtain ⟨_, q⟩ := x a _ r
    exact q
/-- what may be written -/
def Mut : Option HO → Prop
  | some (.lst _) => True
  | some (.dK _) => True
  | some (.dT _) => True
  | some (.set _ _) => True
  | some (.ins _ _ _) => True
  | some (.ext _) => True
  | _ => False
section
variable {P : Program} {w : World} {H : Hp} {h h' : Heap} {x e : Addr} {o' : HO}
/-- the object at e is changed: x itself, or the dict of the instance x -/
theorem HOk.write (ok : HOk P w H h) (mu : Mut (H x)) (he : e = x ∨ H e = some (.own x)) (k : ∀ b u, b ≠ e → h.get? b = some u → h'.get? b = some u) (heo : ∃ u, h'.get? e = some u)
    (new : ObjOk P w (upd H x o') h' x o') : HOk P w (upd H x o') h' := fun b u q => by
  have nown : ∀ c y, H c = some (.own y) → c ≠ x := fun c y r z => by subst z; rw [r] at mu; exact mu
  have ntup : ∀ c xs, H c = some (.tup xs) → c ≠ x := fun c xs r z => by subst z; rw [r] at mu; exact mu
  by_cases hb : b = x
  · subst hb; rw [upd_same] at q; cases q; exact new
  · rw [upd_ne hb] at q
    by_cases hbe : b = e
    · have q' : H b = some (.own x) := by
        rcases he with z | z
        · exact absurd (hbe.trans z) hb
        · rw [hbe]; exact z
      rw [q] at q'; cases q'
      obtain ⟨v, hv⟩ := heo
      exact ⟨v, by rw [hbe]; exact hv⟩
    · refine (ok b u q).stay (fun c v hc r => k c v ?_ r) (fun c r => by rw [upd_ne (nown c b r)]; exact r) fun c xs r => by rw [upd_ne (ntup c xs r)]; exact r
      rcases hc with rfl | hc
      · exact hbe
      · rintro rfl
        rcases he with z | z
        · exact nown c b hc z
        · rw [hc] at z; cases z; exact hb rfl
end
/-! ### kept unless tracked; of the frames at fs (the callers') the slots may change (an exception that passes writes there); of the records at ex (iterators) nothing is said -/
structure Un (fs ex : List Addr) (H H' : Hp) (h h' : Heap) : Prop where
  keep : ∀ b o, h.get? b = some o → H b = none → b ∉ fs → b ∉ ex → h'.get? b = some o
  slot : ∀ b o, h.get? b = some o → H b = none → b ∈ fs → b ∉ ex → ∃ sl, h'.get? b = some { o with slots := sl }
  free : ∀ b o, h.get? b = some o → H b = none → b ∉ ex → H' b = none
  there : ∀ b o, h.get? b = some o → b ∉ ex → ∃ o', h'.get? b = some o'
  tups : ∀ b xs, H b = some (.tup xs) → H' b = some (.tup xs)
  frzs : ∀ b o u, H b = some (.frz o u) → H' b = some (.frz o u)
  tbls : ∀ b ps, H b = some (.tbl ps) → ∃ more, H' b = some (.tbl (ps ++ more))
section
variable {fs fs' ex ex' : List Addr} {H H1 H2 : Hp} {h h1 h2 h' : Heap} {a x e : Addr} {o : HO}
theorem Un.any (u : Un fs ex H H1 h h1) {b : Addr} {ob : Obj} (q : h.get? b = some ob) (n : H b = none) (hx : b ∉ ex) : ∃ sl, h1.get? b = some { ob with slots := sl } := by
  by_cases hb : b ∈ fs
  · exact u.slot b ob q n hb hx
  · exact ⟨ob.slots, u.keep b ob q n hb hx⟩
theorem Un.kept (k : ∀ b u, h.get? b = some u → h'.get? b = some u) : Un fs ex H H h h' :=
  ⟨fun b ob q _ _ _ => k b ob q, fun b ob q _ _ _ => ⟨ob.slots, k b ob q⟩, fun _ _ _ n _ => n, fun b ob q _ => ⟨ob, k b ob q⟩, fun _ _ q => q, fun _ _ _ q => q, fun _ ps q => ⟨#[], by rw [q]; simp⟩⟩
theorem Un.refl : Un fs ex H H h h := Un.kept fun _ _ q => q
theorem Un.laid (k : ∀ b u, h.get? b = some u → h'.get? b = some u) (hp : h.objs.size ≤ a) (hn : H a = none) : Un fs ex H (upd H a o) h h' where
  keep := fun b u q _ _ _ => k b u q
  slot := fun b u q _ _ _ => ⟨u.slots, k b u q⟩
  free := fun b u q n _ => by rw [upd_ne (Nat.ne_of_lt (Nat.lt_of_lt_of_le (Heap.lt_size q) hp))]; exact n
  there := fun b u q _ => ⟨u, k b u q⟩
  tups := fun b xs q => by rw [upd_ne (ne_of_none q hn)]; exact q
  frzs := fun b u xs q => by rw [upd_ne (ne_of_none q hn)]; exact q
  tbls := fun b ps q => ⟨#[], by rw [upd_ne (ne_of_none q hn), q]; simp⟩
theorem Un.write (mu : Mut (H x)) (he : e = x ∨ H e = some (.own x)) (k : ∀ b u, b ≠ e → h.get? b = some u → h'.get? b = some u) (heo : ∃ u, h'.get? e = some u) : Un fs ex H (upd H x o) h h' := by
  have hx : ∀ b, H b = none → b ≠ x := fun b n z => by subst z; rw [n] at mu; exact mu
  have hb : ∀ b, H b = none → b ≠ e := fun b n z => by
    subst z
    rcases he with r | r
    · exact hx b n r
    · rw [n] at r; cases r
  have hm : ∀ b u, H b = some u → ¬ Mut (some u) → b ≠ x := fun b u q nm z => by subst z; rw [q] at mu; exact nm mu
  refine ⟨fun b u q n _ _ => k b u (hb b n) q, fun b u q n _ _ => ⟨u.slots, k b u (hb b n) q⟩, fun b u q n _ => by rw [upd_ne (hx b n)]; exact n, fun b u q _ => ?_,
    fun b xs q => by rw [upd_ne (hm b _ q fun z => z)]; exact q, fun b u xs q => by rw [upd_ne (hm b _ q fun z => z)]; exact q, fun b ps q => ⟨#[], by rw [upd_ne (hm b _ q fun z => z), q]; simp⟩⟩
  by_cases hbe : b = e
  · subst hbe; exact heo
  · exact ⟨u, k b u hbe q⟩
end
/-! ### the heap without what is tracked -/
def trk (h : Heap) (H : Hp) : List Addr := (List.range h.objs.size).filter fun a => (H a).isSome
def hidT (h : Heap) (H : Hp) : Heap := PySem.W.hideAll h (trk h H)
theorem hidT_size (h : Heap) (H : Hp) : (hidT h H).objs.size = h.objs.size := PySem.W.hideAll_size _ _
theorem hidT_get {h : Heap} {H : Hp} {b : Addr} {o : Obj} (e : h.get? b = some o) (n : H b = none) : (hidT h H).get? b = some o :=
  PySem.W.hideAll_get _ e fun hm => by
    have q : (H b).isSome = true := (List.mem_filter.mp hm).2
    rw [n] at q; simp at q
theorem of_hidT {h : Heap} {H : Hp} {b : Addr} {o : Obj} (e : (hidT h H).get? b = some o) : h.get? b = some o ∧ H b = none := by
  have e' : h.get? b = some o := PySem.W.of_hideAll (trk h H) e
  refine ⟨e', ?_⟩
  cases q : H b with
  | none => rfl
  | some x =>
    have hm : b ∈ trk h H := List.mem_filter.mpr ⟨List.mem_range.mpr (Heap.lt_size e'), by simp [q]⟩
    have z : (hidT h H).get? b = none := PySem.W.hideAll_none (trk h H) hm
    rw [z] at e; cases e
/-! ### OpenK's ledger, filled with every new object but one -/
end L2
namespace L2
open PySem PySem.Spec PyProof.Rows
/-- the module's facts, over the base: the heap at the law's entry without what is tracked there -/
structure Mod (K : PySem.W.Frag) (mg : Str → Option Value) (base : Heap) : Prop where
  kin : K.In base
  glob : base.Ns mainGlobals mg
  blt : ∃ mb, base.Ns builtinsNs mb ∧ ∀ x : Str, x ≠ "__name__" → mb x = bootBuiltins x
  nolimit : base.NoLimit
/-- the context: a def's body (or a comprehension's block) running. base: fixed through the whole law; s₀, H₀: the entry; outer: the frames whose slots others may change (a def's callers); stack: all frames that run;
   ex: iterators that were made ahead of the entry and are walked here (a comprehension's); fn: the names whose cells were made at the entry (a def: all; a comprehension's block: its own); calm: not within an except suite; pn: pins that every state bears; xe: what is wanted of an exception that leaves the code -/
structure Cx where
  prog : Program
  w : World
  K : PySem.W.Frag
  mg : Str → Option Value
  base : Heap
  A : Around
  N : List Str
  s₀ : Shared
  H₀ : Hp
  env : Env
  outer : List Env
  stack : List Env
  ex : List Addr
  fn : Str → Bool
  calm : Bool
  pn : List (Addr × Obj)
  xe : Value → Shared → Prop
/-- the callers' frames -/
def frs (l : List Env) : List Addr := l.filterMap (·.frame)
abbrev Cx.fs (X : Cx) : List Addr := frs X.outer
def Vis (sc : Scope) (x : Str) : Prop := sc.names.lookup x = some .local ∨ sc.names.lookup x = some .cell ∨ sc.names.lookup x = some .free
def Loc (sc : Scope) (x : Str) : Prop := sc.names.lookup x = some .local ∨ sc.names.lookup x = some .cell
def Look (env : Env) (h : Heap) (m : Str → Option Value) (x : Str) (u : Value) : Prop :=
  (env.kindOf x = some .local ∧ m x = some u) ∨ ((env.kindOf x = some .cell ∨ env.kindOf x = some .free) ∧ ∃ c, env.cells.lookup x = some c ∧ h.IsCell c (some u))
structure Cx.Ok (X : Cx) : Prop where
  mod : Mod X.K X.mg X.base
  kind : X.env.scope.kind = .function
  glob : X.env.globals = mainGlobals
  blt : X.env.builtins = builtinsNs
  above : X.s₀.heap.objs.size ≤ X.env.locals
  inj : ∀ x y c, X.env.cells.lookup x = some c → X.env.cells.lookup y = some c → x = y
  has : ∀ x, (X.env.kindOf x = some .cell ∨ X.env.kindOf x = some .free) → ∃ c, X.env.cells.lookup x = some c
  cab : ∀ x c, X.fn x = true → X.env.cells.lookup x = some c → X.s₀.heap.objs.size ≤ c
  hd : X.calm = true → X.A.handled = none
  frames : X.A.frames = some X.stack
  stk : X.stack = X.outer ∨ (X.stack = X.env :: X.outer ∧ X.env.frame = some X.env.locals)
  exf : ∀ b ∈ X.ex, b ≠ X.env.locals ∧ ∀ x c, X.env.cells.lookup x = some c → c ≠ b
  bs : ∀ b o, X.base.get? b = some o → X.s₀.heap.get? b = some o ∧ X.H₀ b = none
  bsz : X.base.objs.size ≤ X.s₀.heap.objs.size
  noex : ∀ b o, X.base.get? b = some o → b ∉ X.ex
  exfs : ∀ b ∈ X.ex, b ∉ X.fs
  funs : X.s₀.heap.FunFrames X.base X.outer
  frf : ∀ b ∈ X.fs, X.H₀ b = none
structure Inv (X : Cx) (pins : List (Addr × Obj)) (σ : List (Option V)) (H : Hp) (s : Shared) : Prop where
  ok : X.Ok
  os : s.os = X.s₀.os
  bare : AllBare s.gens
  base : Un X.fs X.ex X.H₀ H X.s₀.heap s.heap
  loc : ∃ m, s.heap.Ns X.env.locals m ∧ ∀ (i : Nat) (x : Str) (v : V), X.N[i]? = some x → σ[i]? = some (some v) → Vis X.env.scope x → ∃ u, RelV v u ∧ Look X.env s.heap m x u
  cell : ∀ x c, X.env.cells.lookup x = some c → ∃ v, s.heap.IsCell c v
  free : H X.env.locals = none
  freeC : ∀ x c, X.env.cells.lookup x = some c → H c = none
  pin : ∀ p ∈ X.pn ++ pins, s.heap.get? p.1 = some p.2 ∧ H p.1 = none ∧ p.1 ≠ X.env.locals ∧ p.1 ∉ X.fs ∧ ∀ v, p.2.data ≠ .cell v
  hok : HOk X.prog X.w H s.heap
  len : σ.length = X.N.length
section
variable {X : Cx} {pins : List (Addr × Obj)} {σ : List (Option V)} {H H' : Hp} {s : Shared} {h' : Heap}
theorem Cx.Ok.nofr (ok : X.Ok) {b : Addr} {o : Obj} (e : X.base.get? b = some o) : b ∉ X.fs := fun hb => by
  have := (ok.funs.mem hb).1
  rw [e] at this; cases this
theorem Inv.bs (I : Inv X pins σ H s) : ∀ b o, X.base.get? b = some o → s.heap.get? b = some o ∧ H b = none := fun b o e =>
  ⟨I.base.keep b o (I.ok.bs b o e).1 (I.ok.bs b o e).2 (I.ok.nofr e) (I.ok.noex b o e), I.base.free b o (I.ok.bs b o e).1 (I.ok.bs b o e).2 (I.ok.noex b o e)⟩
theorem Inv.bk (I : Inv X pins σ H s) : ∀ b o, X.base.get? b = some o → s.heap.get? b = some o := fun b o e => (I.bs b o e).1
theorem Inv.mod (I : Inv X pins σ H s) : Mod X.K X.mg X.base := I.ok.mod
theorem Inv.kIn (I : Inv X pins σ H s) : X.K.In s.heap := I.ok.mod.kin.keeps I.bk
/-- the frame over the base: for OpenK's rules (K.In X.base is I.mod.kin) -/
theorem Inv.fr (I : Inv X pins σ H s) : ∃ m, Fr X.base X.env.locals s.heap m :=
  let ⟨m, hn, _⟩ := I.loc
  ⟨m, hn, I.bk, Nat.le_trans I.ok.bsz I.ok.above⟩
theorem Inv.lt (I : Inv X pins σ H s) : X.env.locals < s.heap.objs.size := let ⟨_, hn, _⟩ := I.loc; hn.lt
theorem Inv.sz (I : Inv X pins σ H s) : X.s₀.heap.objs.size ≤ s.heap.objs.size := Nat.le_trans I.ok.above (Nat.le_of_lt I.lt)
theorem Inv.nofs (I : Inv X pins σ H s) {a : Addr} (h : s.heap.objs.size ≤ a) : a ∉ X.fs := fun hb => by
  obtain ⟨_, o, ho, _⟩ := I.ok.funs.mem hb
  exact absurd (Nat.lt_of_lt_of_le (Heap.lt_size ho) (Nat.le_trans I.sz h)) (Nat.lt_irrefl _)
theorem Inv.cne (I : Inv X pins σ H s) : ∀ x c, X.env.cells.lookup x = some c → c ≠ X.env.locals := fun x c e z => by
  obtain ⟨v, o, ho, hd⟩ := I.cell x c e
  obtain ⟨m, ⟨o', es, ep, ho', hd', _⟩, _⟩ := I.loc
  rw [z, ho'] at ho; cases ho; rw [hd'] at hd; cases hd
theorem Inv.funs (I : Inv X pins σ H s) : s.heap.FunFrames X.base X.outer := by
  have all : ∀ (l : List Env), (∀ b ∈ frs l, b ∈ X.fs) → X.s₀.heap.FunFrames X.base l → s.heap.FunFrames X.base l := by
    intro l
    induction l with
    | nil => intro _ _; trivial
    | cons env r ih =>
      intro hs hl
      obtain ⟨hk, ⟨L, o, hf, hn, ho, hd⟩, hr⟩ := hl
      have hL : L ∈ X.fs := hs L (by unfold frs; rw [List.filterMap_cons, hf]; exact List.mem_cons_self)
      obtain ⟨sl, e⟩ := I.base.slot L o ho (I.ok.frf L hL) hL fun z => I.ok.exfs L z hL
      exact ⟨hk, ⟨L, _, hf, hn, e, hd⟩, ih (fun b hb => hs b (by unfold frs; rw [List.filterMap_cons, hf]; exact List.mem_cons_of_mem _ hb)) hr⟩
  exact all X.outer (fun _ hb => hb) I.ok.funs
/-- the frames that run, for a call -/
theorem Inv.stack (I : Inv X pins σ H s) : s.heap.FunFrames X.base X.stack := by
  rcases I.ok.stk with e | ⟨e, hf⟩
  · rw [e]; exact I.funs
  · rw [e]
    obtain ⟨m, hn, _⟩ := I.loc
    refine .cons (by rw [I.ok.kind]; decide) hf hn ?_ I.funs
    exact Heap.get?_none_of_le (Nat.le_trans I.ok.bsz I.ok.above)
theorem Inv.stkSub (I : Inv X pins σ H s) : ∀ b ∈ frs X.stack, b ∈ X.env.locals :: X.fs := fun b hb => by
  rcases I.ok.stk with e | ⟨e, hf⟩
  · rw [e] at hb; exact List.mem_cons_of_mem _ hb
  · rw [e] at hb
    unfold frs at hb
    rw [List.filterMap_cons, hf] at hb
    exact hb
theorem Inv.stkFree (I : Inv X pins σ H s) : ∀ b ∈ frs X.stack, H b = none := fun b hb => by
  rcases List.mem_cons.mp (I.stkSub b hb) with e | hb
  · rw [e]; exact I.free
  · obtain ⟨_, o, ho, _⟩ := I.ok.funs.mem hb
    exact I.base.free b o ho (I.ok.frf b hb) fun z => I.ok.exfs b z hb
/-- THE STEP: the untracked objects but the frame and the records at ch are kept (the callers' frames up to slots), the frame's map is kept, the new abstract heap is held -/
theorem Inv.step {g' : Array GenState} {t' : Nat} {d' : Drawn} {ch : List Addr} (I : Inv X pins σ H s)
    (hch : ∀ b ∈ ch, (b ∈ X.ex ∨ X.s₀.heap.objs.size ≤ b) ∧ b ≠ X.env.locals ∧ (∀ x c, X.env.cells.lookup x = some c → c ≠ b) ∧ ∀ p ∈ X.pn ++ pins, p.1 ≠ b)
    (keep : ∀ b o, b ≠ X.env.locals → b ∉ X.fs → b ∉ ch → s.heap.get? b = some o → H b = none → h'.get? b = some o)
    (slot : ∀ b o, b ≠ X.env.locals → b ∈ X.fs → b ∉ ch → s.heap.get? b = some o → H b = none → ∃ sl, h'.get? b = some { o with slots := sl }) (free : ∀ b o, b ∉ ch → s.heap.get? b = some o → H b = none → H' b = none)
    (there : ∀ b o, b ∉ ch → s.heap.get? b = some o → ∃ o', h'.get? b = some o')
    (tups : ∀ b xs, H b = some (.tup xs) → H' b = some (.tup xs)) (frzs : ∀ b o u, H b = some (.frz o u) → H' b = some (.frz o u)) (tbls : ∀ b ps, H b = some (.tbl ps) → ∃ more, H' b = some (.tbl (ps ++ more)))
    (ns : ∀ m, s.heap.Ns X.env.locals m → h'.Ns X.env.locals m) (hok : HOk X.prog X.w H' h') (hg : AllBare g') :
    Inv X pins σ H' { s with heap := h', gens := g', drawn := d', toks := t' } := by
  have neL : ∀ b o, X.s₀.heap.get? b = some o → b ≠ X.env.locals := fun b o e => Nat.ne_of_lt (Nat.lt_of_lt_of_le (Heap.lt_size e) I.ok.above)
  have neC : ∀ b o, X.s₀.heap.get? b = some o → b ∉ X.ex → b ∉ ch := fun b o e hx hb => by
    rcases (hch b hb).1 with z | z
    · exact hx z
    · exact absurd (Nat.lt_of_lt_of_le (Heap.lt_size e) z) (Nat.lt_irrefl _)
  have cellK : ∀ x c, X.env.cells.lookup x = some c → ∀ v, s.heap.IsCell c v → h'.IsCell c v := fun x c e v ⟨o, ho, hd⟩ => by
    have nch : c ∉ ch := fun z => (hch c z).2.2.1 x c e rfl
    by_cases hc : c ∈ X.fs
    · obtain ⟨sl, q⟩ := slot c o (I.cne x c e) hc nch ho (I.freeC x c e)
      exact ⟨_, q, hd⟩
    · exact ⟨o, keep c o (I.cne x c e) hc nch ho (I.freeC x c e), hd⟩
  refine ⟨I.ok, I.os, hg, ⟨fun b o e n hb hx => ?_, fun b o e n hb hx => ?_, fun b o e n hx => ?_, fun b o e hx => ?_, fun b xs e => tups b xs (I.base.tups b xs e), fun b o xs e => frzs b o xs (I.base.frzs b o xs e), fun b ps e => ?_⟩, ?_, fun x c e => ?_, ?_, fun x c e => ?_, fun p hp => ?_, hok, I.len⟩
  · exact keep b o (neL b o e) hb (neC b o e hx) (I.base.keep b o e n hb hx) (I.base.free b o e n hx)
  · obtain ⟨sl, e1⟩ := I.base.slot b o e n hb hx
    obtain ⟨sl', e2⟩ := slot b _ (neL b o e) hb (neC b o e hx) e1 (I.base.free b o e n hx)
    exact ⟨sl', e2⟩
  · obtain ⟨o', e1⟩ := I.base.there b o e hx
    exact free b o' (neC b o e hx) e1 (I.base.free b o e n hx)
  · obtain ⟨o', e1⟩ := I.base.there b o e hx
    exact there b o' (neC b o e hx) e1
  · obtain ⟨m1, e1⟩ := I.base.tbls b ps e
    obtain ⟨m2, e2⟩ := tbls b _ e1
    exact ⟨m1 ++ m2, by rw [e2, Array.append_assoc]⟩
  · obtain ⟨m, hn, hl⟩ := I.loc
    refine ⟨m, ns m hn, fun i x v e1 e2 e3 => ?_⟩
    obtain ⟨u, r, l⟩ := hl i x v e1 e2 e3
    refine ⟨u, r, ?_⟩
    rcases l with l | ⟨k, c, e, z⟩
    · exact .inl l
    · exact .inr ⟨k, c, e, cellK x c e _ z⟩
  · obtain ⟨v, z⟩ := I.cell x c e
    exact ⟨v, cellK x c e v z⟩
  · obtain ⟨m, ⟨o, _, _, ho, _⟩, _⟩ := I.loc
    exact free _ o (fun z => (hch _ z).2.1 rfl) ho I.free
  · obtain ⟨v, o, ho, hd⟩ := I.cell x c e
    exact free c o (fun z => (hch c z).2.2.1 x c e rfl) ho (I.freeC x c e)
  · obtain ⟨e, n, ne, nf, d⟩ := I.pin p hp
    have nch : p.1 ∉ ch := fun z => (hch p.1 z).2.2.2 p hp rfl
    exact ⟨keep p.1 p.2 ne nf nch e n, free p.1 p.2 nch e n, ne, nf, d⟩
/-- .. where the frame's own object is kept too -/
theorem Inv.un {t' : Nat} (I : Inv X pins σ H s) (u : Un X.fs [] H H' s.heap h') (hok : HOk X.prog X.w H' h') : Inv X pins σ H' { s with heap := h', toks := t' } := by
  obtain ⟨m, ⟨o, es, ep, ho, r⟩, _⟩ := id I.loc
  obtain ⟨sl, hL⟩ := u.any ho I.free (by simp)
  exact I.step (g' := s.gens) (d' := s.drawn) (ch := []) (fun _ z => nomatch z) (fun b o _ hb _ e n => u.keep b o e n hb (by simp)) (fun b o _ hb _ e n => u.slot b o e n hb (by simp)) (fun b o _ e n => u.free b o e n (by simp)) (fun b o _ e => u.there b o e (by simp)) u.tups u.frzs u.tbls (fun m' hm => by
    obtain ⟨o', es', ep', ho', r'⟩ := hm
    rw [ho] at ho'; cases ho'
    exact ⟨_, es', ep', hL, r'⟩) hok I.bare
/-- behind a call (or a comprehension's block): the slots of this frame may have changed too, the records at ch may have turned -/
theorem Inv.call {g' : Array GenState} {t' : Nat} {d' : Drawn} {ch : List Addr} (I : Inv X pins σ H s) (u : Un (frs X.stack) ch H H' s.heap h') (hok : HOk X.prog X.w H' h') (hg : AllBare g')
    (hch : ∀ b ∈ ch, (b ∈ X.ex ∨ X.s₀.heap.objs.size ≤ b) ∧ b ≠ X.env.locals ∧ (∀ x c, X.env.cells.lookup x = some c → c ≠ b) ∧ ∀ p ∈ X.pn ++ pins, p.1 ≠ b) :
    Inv X pins σ H' { s with heap := h', gens := g', drawn := d', toks := t' } := by
  obtain ⟨m, ⟨o, es, ep, ho, r⟩, _⟩ := id I.loc
  obtain ⟨sl, hL⟩ := u.any ho I.free fun z => (hch _ z).2.1 rfl
  exact I.step (ch := ch) hch (fun b o hL hb hc e n => u.keep b o e n (fun z => (List.mem_cons.mp (I.stkSub b z)).elim hL hb) hc) (fun b o _ _ hc e n => u.any e n hc) (fun b o hc e n => u.free b o e n hc) (fun b o hc e => u.there b o e hc) u.tups u.frzs u.tbls (fun m' hm => by
    obtain ⟨o', es', ep', ho', r'⟩ := hm
    rw [ho] at ho'; cases ho'
    exact ⟨_, es', ep', hL, r'⟩) hok hg
/-- an untracked record of ours (an iterator) has turned -/
theorem Inv.turned {t' : Nat} {it : Addr} (I : Inv X pins σ H s) (k : ∀ b o, b ≠ it → s.heap.get? b = some o → h'.get? b = some o) (hn : H it = none) (hL : it ≠ X.env.locals)
    (h1 : it ∈ X.ex ∨ X.s₀.heap.objs.size ≤ it) (h2 : ∀ x c, X.env.cells.lookup x = some c → c ≠ it) (h3 : ∀ p ∈ X.pn ++ pins, p.1 ≠ it) : Inv X pins σ H { s with heap := h', toks := t' } := by
  have nit : ∀ b u, H b = some u → b ≠ it := fun b u e z => by rw [z, hn] at e; cases e
  refine I.step (g' := s.gens) (d' := s.drawn) (ch := [it]) (fun b hb => ?_) (fun b o _ _ hc e _ => k b o (fun z => hc (by simp [z])) e) (fun b o _ _ hc e _ => ⟨o.slots, k b o (fun z => hc (by simp [z])) e⟩) (fun _ _ _ _ n => n)
    (fun b o hc e => ⟨o, k b o (fun z => hc (by simp [z])) e⟩) (fun _ _ e => e) (fun _ _ _ e => e) (fun b ps e => ⟨#[], by rw [e]; simp⟩) (fun m hm => ?_) (fun b u e => ?_) I.bare
  · have e : b = it := by simpa using hb
    subst e
    exact ⟨h1, hL, h2, h3⟩
  · obtain ⟨o, es, ep, ho, r⟩ := hm
    exact ⟨o, es, ep, k _ o (Ne.symm hL) ho, r⟩
  · refine (I.hok b u e).stay (fun c v hc q => k c v ?_ q) (fun _ q => q) fun _ _ q => q
    rcases hc with z | z
    · rw [z]; exact nit b u e
    · exact nit c _ z
theorem Inv.tok (I : Inv X pins σ H s) (t : Nat) : Inv X pins σ H { s with toks := t } := I.un (h' := s.heap) (t' := t) Un.refl I.hok
/-- all objects kept -/
theorem Inv.kept {t' : Nat} (I : Inv X pins σ H s) (k : ∀ b u, s.heap.get? b = some u → h'.get? b = some u) : Inv X pins σ H { s with heap := h', toks := t' } := I.un (Un.kept k) (I.hok.kept k)
/-- a new object laid and tracked -/
theorem Inv.laid {a : Addr} {o : HO} {t' : Nat} (I : Inv X pins σ H s) (k : ∀ b u, s.heap.get? b = some u → h'.get? b = some u) (hp : s.heap.objs.size ≤ a) (new : ObjOk X.prog X.w (upd H a o) h' a o) :
    Inv X pins σ (upd H a o) { s with heap := h', toks := t' } := I.un (Un.laid k hp (I.hok.fresh hp)) (I.hok.laid k hp new)
/-- an object written -/
theorem Inv.write {x e : Addr} {o : HO} {t' : Nat} (I : Inv X pins σ H s) (mu : Mut (H x)) (he : e = x ∨ H e = some (.own x)) (k : ∀ b u, b ≠ e → s.heap.get? b = some u → h'.get? b = some u) (heo : ∃ u, h'.get? e = some u)
    (new : ObjOk X.prog X.w (upd H x o) h' x o) : Inv X pins σ (upd H x o) { s with heap := h', toks := t' } := I.un (Un.write mu he k heo) (I.hok.write mu he k heo new)
/-- forgetting slots, pins -/
theorem Inv.weak {σ' : List (Option V)} (I : Inv X pins σ H s) (hl : σ'.length = σ.length) (w : ∀ (i : Nat) v, σ'[i]? = some (some v) → σ[i]? = some (some v)) : Inv X pins σ' H s :=
  ⟨I.ok, I.os, I.bare, I.base, let ⟨m, hn, hl'⟩ := I.loc; ⟨m, hn, fun i x v e1 e2 e3 => hl' i x v e1 (w i v e2) e3⟩, I.cell, I.free, I.freeC, I.pin, I.hok, hl.trans I.len⟩
theorem Inv.pins_of {pins' : List (Addr × Obj)} (I : Inv X pins σ H s) (h : ∀ p ∈ pins', s.heap.get? p.1 = some p.2 ∧ H p.1 = none ∧ p.1 ≠ X.env.locals ∧ p.1 ∉ X.fs ∧ ∀ v, p.2.data ≠ .cell v) : Inv X pins' σ H s :=
  ⟨I.ok, I.os, I.bare, I.base, I.loc, I.cell, I.free, I.freeC, fun p hp => (List.mem_append.mp hp).elim (fun z => I.pin p (List.mem_append_left _ z)) (h p), I.hok, I.len⟩
theorem nodup_ix {N : List Str} (hN : N.Nodup) {i j : Nat} {x : Str} (a : N[i]? = some x) (b : N[j]? = some x) : i = j := by
  obtain ⟨h1, e1⟩ := List.getElem?_eq_some_iff.mp a
  obtain ⟨h2, e2⟩ := List.getElem?_eq_some_iff.mp b
  exact (List.getElem_inj hN).mp (e1.trans e2.symm)
/-- a name is stored; what changed -/
theorem store_ok2 {M : Model} {A : Around} {E : Value → Shared → Prop} {i : Nat} {x : Str} {v : V} {u : Value} {Q : Unit → Shared → Prop} (I : Inv X pins σ H s) (hN : X.N.Nodup) (hi : X.N[i]? = some x) (hx : Loc X.env.scope x) (r : RelV v u)
    (h : ∀ s', Inv X pins (σ.set i (some v)) H s' → (∃ a, Heap.SameBut a s.heap s'.heap ∧ (a = X.env.locals ∨ X.env.cells.lookup x = some a)) → Q () s') (hf : X.fn x = true ∨ X.env.scope.names.lookup x = some .local := by first | exact .inl rfl | exact .inr rfl | assumption) : wpAny M A (storeName X.env x u) Q E s := by
  obtain ⟨m, hn, hl⟩ := id I.loc
  have hcls : (X.env.scope.kind == .class || (X.env.scope.kind == .module && X.env.locals != X.env.globals)) = false := by rw [I.ok.kind]; rfl
  have hiσ : i < σ.length := by rw [I.len]; exact (List.getElem?_eq_some_iff.mp hi).1
  have cne := I.cne
  have tracked : ∀ {a : Addr} {h' : Heap}, (∃ o, s.heap.get? a = some o ∧ H a = none) → Heap.SameBut a s.heap h' → HOk X.prog X.w H h' := fun {a h'} ha hs b ob e => by
    obtain ⟨_, _, hfree⟩ := ha
    refine (I.hok b ob e).stay (fun c w' hc q => (hs.2 c ?_).trans q) (fun _ q => q) fun _ _ q => q
    rintro rfl
    rcases hc with rfl | hc
    · rw [hfree] at e; cases e
    · rw [hfree] at hc; cases hc
  rcases hx with hk | hk
  · refine wpAny_storeName_local hk hn (fun h' hn' hs => ?_) hcls
    obtain ⟨oL, _, _, hoL, _⟩ := id hn
    refine h _ ⟨I.ok, I.os, I.bare, ⟨fun b o e n hb hx => ?_, fun b o e n hb hx => ?_, I.base.free, fun b o e hx => ?_, I.base.tups, I.base.frzs, I.base.tbls⟩, ⟨_, hn', fun j y v' e1 e2 e3 => ?_⟩, fun y c e => ?_, I.free, I.freeC, fun p hp => ?_, tracked ⟨oL, hoL, I.free⟩ hs, by simpa using I.len⟩ ⟨_, hs, .inl rfl⟩
    · exact (hs.2 b (Nat.ne_of_lt (Nat.lt_of_lt_of_le (Heap.lt_size e) I.ok.above))).trans (I.base.keep b o e n hb hx)
    · obtain ⟨sl, e1⟩ := I.base.slot b o e n hb hx
      exact ⟨sl, (hs.2 b (Nat.ne_of_lt (Nat.lt_of_lt_of_le (Heap.lt_size e) I.ok.above))).trans e1⟩
    · obtain ⟨o', e1⟩ := I.base.there b o e hx
      exact ⟨o', (hs.2 b (Nat.ne_of_lt (Nat.lt_of_lt_of_le (Heap.lt_size e) I.ok.above))).trans e1⟩
    · by_cases hj : j = i
      · subst hj
        rw [hi] at e1; cases e1
        rw [List.getElem?_set_self hiσ] at e2
        cases e2
        exact ⟨u, r, .inl ⟨hk, by simp⟩⟩
      · rw [List.getElem?_set_ne (Ne.symm hj)] at e2
        obtain ⟨u', r', q⟩ := hl j y v' e1 e2 e3
        refine ⟨u', r', ?_⟩
        rcases q with ⟨k, e⟩ | ⟨k, c, e, z⟩
        · refine .inl ⟨k, ?_⟩
          have : y ≠ x := fun e => hj (nodup_ix hN e1 (e ▸ hi))
          simp [this, e]
        · exact .inr ⟨k, c, e, z.sameBut hs (cne y c e)⟩
    · obtain ⟨w', z⟩ := I.cell y c e
      exact ⟨w', z.sameBut hs (cne y c e)⟩
    · obtain ⟨e, n, ne, nf, d⟩ := I.pin p hp
      exact ⟨(hs.2 p.1 ne).trans e, n, ne, nf, d⟩
  · have hfn : X.fn x = true := by
      rcases hf with z | z
      · exact z
      · rw [z] at hk; cases hk
    obtain ⟨c, hc⟩ := I.ok.has x (.inl hk)
    obtain ⟨w', z⟩ := I.cell x c hc
    refine wpAny_storeName_cell I.ok.kind hk hc z (fun h' hc' hs => ?_)
    obtain ⟨oc, hoc, hocd⟩ := id z
    refine h { s with heap := h' } ⟨I.ok, I.os, I.bare, ⟨fun b o e n hb hx => ?_, fun b o e n hb hx => ?_, I.base.free, fun b o e hx => ?_, I.base.tups, I.base.frzs, I.base.tbls⟩, ⟨m, hn.sameBut hs (Ne.symm (cne x c hc)), fun j y v' e1 e2 e3 => ?_⟩, fun y c' e => ?_, I.free, I.freeC, fun p hp => ?_, tracked ⟨oc, hoc, I.freeC x c hc⟩ hs, by simpa using I.len⟩ ⟨c, hs, .inr hc⟩
    · exact (hs.2 b (Nat.ne_of_lt (Nat.lt_of_lt_of_le (Heap.lt_size e) (I.ok.cab x c hfn hc)))).trans (I.base.keep b o e n hb hx)
    · obtain ⟨sl, e1⟩ := I.base.slot b o e n hb hx
      exact ⟨sl, (hs.2 b (Nat.ne_of_lt (Nat.lt_of_lt_of_le (Heap.lt_size e) (I.ok.cab x c hfn hc)))).trans e1⟩
    · obtain ⟨o', e1⟩ := I.base.there b o e hx
      exact ⟨o', (hs.2 b (Nat.ne_of_lt (Nat.lt_of_lt_of_le (Heap.lt_size e) (I.ok.cab x c hfn hc)))).trans e1⟩
    · by_cases hj : j = i
      · subst hj
        rw [hi] at e1; cases e1
        rw [List.getElem?_set_self hiσ] at e2
        cases e2
        exact ⟨u, r, .inr ⟨.inl hk, c, hc, hc'⟩⟩
      · rw [List.getElem?_set_ne (Ne.symm hj)] at e2
        obtain ⟨u', r', q⟩ := hl j y v' e1 e2 e3
        refine ⟨u', r', ?_⟩
        rcases q with q | ⟨k, c', e, z'⟩
        · exact .inl q
        · refine .inr ⟨k, c', e, z'.sameBut hs ?_⟩
          rintro rfl
          exact hj (nodup_ix hN e1 (I.ok.inj _ _ _ e hc ▸ hi))
    · by_cases hcc : c' = c
      · subst hcc; exact ⟨_, hc'⟩
      · obtain ⟨w2, z2⟩ := I.cell y c' e
        exact ⟨w2, z2.sameBut hs hcc⟩
    · obtain ⟨e, n, ne, nf, d⟩ := I.pin p hp
      refine ⟨(hs.2 p.1 ?_).trans e, n, ne, nf, d⟩
      intro q
      rw [q, hoc] at e
      have q' : oc = p.2 := Option.some.inj e
      exact d w' (by rw [← q']; exact hocd)
theorem store_ok {M : Model} {A : Around} {E : Value → Shared → Prop} {i : Nat} {x : Str} {v : V} {u : Value} {Q : Unit → Shared → Prop} (I : Inv X pins σ H s) (hN : X.N.Nodup) (hi : X.N[i]? = some x) (hx : Loc X.env.scope x) (r : RelV v u)
    (h : ∀ s', Inv X pins (σ.set i (some v)) H s' → Q () s') (hf : X.fn x = true ∨ X.env.scope.names.lookup x = some .local := by first | exact .inl rfl | exact .inr rfl | assumption) : wpAny M A (storeName X.env x u) Q E s :=
  store_ok2 I hN hi hx r (fun s' I' _ => h s' I') hf
/-- behind a call or a block, the state as it is -/
theorem Inv.call' {s' : Shared} {ch : List Addr} (I : Inv X pins σ H s) (ho : s'.os = s.os) (u : Un (frs X.stack) ch H H' s.heap s'.heap) (hok : HOk X.prog X.w H' s'.heap) (hg : AllBare s'.gens)
    (hch : ∀ b ∈ ch, (b ∈ X.ex ∨ X.s₀.heap.objs.size ≤ b) ∧ b ≠ X.env.locals ∧ (∀ x c, X.env.cells.lookup x = some c → c ≠ b) ∧ ∀ p ∈ X.pn ++ pins, p.1 ≠ b) : Inv X pins σ H' s' := by
  obtain ⟨h', g', d', t', o'⟩ := s'
  have e : o' = s.os := ho
  subst e
  exact I.call (g' := g') (t' := t') (d' := d') u hok hg hch
end
/-! ### the judgements -/
/-- an exception: its class, its own dict's address (where it has one), the abstract heap behind it -/
abbrev XK := Value → Option Addr → Hp → Prop
abbrev St := List (Option V)
abbrev VK := V → Hp → Prop
/-- an expression's reading; a test's; an argument list's -/
abbrev TE := St → Hp → VK → Prop
abbrev TT := St → Hp → (Bool → Hp → Prop) → Prop
abbrev TA := St → Hp → (List V → Hp → Prop) → Prop
/-- what is wanted behind a statement -/
structure Ends where
  nx : St → Hp → Prop
  rt : VK
  bk : St → Hp → Prop := fun _ _ => False
  ct : St → Hp → Prop := fun _ _ => False
abbrev TS := Ends → St → Hp → Prop
def EP (X : Cx) (pins : List (Addr × Obj)) (σ : St) (Q : VK) (u : Value) (s' : Shared) : Prop := ∃ v H', Inv X pins σ H' s' ∧ RelV v u ∧ Q v H'
def TP (X : Cx) (pins : List (Addr × Obj)) (σ : St) (Q : Bool → Hp → Prop) (b : Bool) (s' : Shared) : Prop := ∃ H', Inv X pins σ H' s' ∧ Q b H'
def AP (X : Cx) (pins : List (Addr × Obj)) (σ : St) (Q : List V → Hp → Prop) (us : List Value) (s' : Shared) : Prop := ∃ vs H', Inv X pins σ H' s' ∧ Vals vs us ∧ Q vs H'
def SP (X : Cx) (pins : List (Addr × Obj)) (D : Ends) (f : Flow) (s' : Shared) : Prop :=
  match f with
  | .next => ∃ σ' H', Inv X pins σ' H' s' ∧ D.nx σ' H'
  | .brk => ∃ σ' H', Inv X pins σ' H' s' ∧ D.bk σ' H'
  | .cont => ∃ σ' H', Inv X pins σ' H' s' ∧ D.ct σ' H'
  | .ret u => ∃ v σ' H', Inv X pins σ' H' s' ∧ RelV v u ∧ D.rt v H'
def PE (X : Cx) (e : Expr) (t : TE) : Prop :=
  ∀ (pins : List (Addr × Obj)) (s : Shared) (σ : St) (H : Hp) (Q : VK), Inv X pins σ H s → t σ H Q → wpAny (model X.prog X.w) X.A (eval e X.env) (EP X pins σ Q) X.xe s
def PT (X : Cx) (e : Expr) (t : TT) : Prop :=
  ∀ (pins : List (Addr × Obj)) (s : Shared) (σ : St) (H : Hp) (Q : Bool → Hp → Prop), Inv X pins σ H s → t σ H Q → wpAny (model X.prog X.w) X.A (isTrue e X.env (eval e X.env)) (TP X pins σ Q) X.xe s
/-- a test whatever its 'whole' is (and, or) -/
def PW (X : Cx) (e : Expr) (t : TT) : Prop :=
  ∀ (whole : Sem Value) (pins : List (Addr × Obj)) (s : Shared) (σ : St) (H : Hp) (Q : Bool → Hp → Prop), Inv X pins σ H s → t σ H Q → wpAny (model X.prog X.w) X.A (isTrue e X.env whole) (TP X pins σ Q) X.xe s
theorem PW.pt {X : Cx} {e : Expr} {t : TT} (h : PW X e t) : PT X e t := h _
/-- an argument list (no star), from the left -/
def PA (X : Cx) (es : List Expr) (t : TA) : Prop :=
  ∀ (pos : Pos) (pins : List (Addr × Obj)) (s : Shared) (σ : St) (H : Hp) (Q : List V → Hp → Prop), Inv X pins σ H s → t σ H Q → wpAny (model X.prog X.w) X.A (spliced (backTo pos (starEach es X.env))) (AP X pins σ Q) X.xe s
def PS (X : Cx) (st : Stmt) (t : TS) : Prop :=
  ∀ (pins : List (Addr × Obj)) (s : Shared) (σ : St) (H : Hp) (D : Ends), Inv X pins σ H s → t D σ H → wpAny (model X.prog X.w) X.A (exec st X.env) (SP X pins D) X.xe s
def PSs (X : Cx) (st : List Stmt) (t : TS) : Prop :=
  ∀ (pins : List (Addr × Obj)) (s : Shared) (σ : St) (H : Hp) (D : Ends), Inv X pins σ H s → t D σ H → wpAny (model X.prog X.w) X.A (execs st X.env) (SP X pins D) X.xe s
/-- weaken the end -/
theorem thn {α : Type} {t : Sem α} {Q Q' : α → Shared → Prop} {M : Model} {A : Around} {E : Value → Shared → Prop} {s : Shared} (h : wpAny M A t Q E s) (hQ : ∀ a s, Q a s → Q' a s) : wpAny M A t Q' E s := wpAny_mono h hQ fun _ _ x => x
end L2
namespace L2
open PySem PySem.Spec PyProof.Rows
section
variable {X : Cx}
/-- two expressions in a row -/
theorem bin {a b : Expr} {ta tb : TE} (ha : PE X a ta) (hb : PE X b tb) {pins : List (Addr × Obj)} {s : Shared} {σ : St} {H : Hp} {R : V → V → Hp → Prop} (I : Inv X pins σ H s) (h : ta σ H fun x H1 => tb σ H1 fun y H2 => R x y H2)
    {α : Type} {Q : α → Shared → Prop} {f : Value → Value → Sem α}
    (hf : ∀ v u s2 x y H2, Inv X pins σ H2 s2 → RelV x v → RelV y u → R x y H2 → wpAny (model X.prog X.w) X.A (f v u) Q X.xe s2) :
    wpAny (model X.prog X.w) X.A (eval a X.env) (fun v s₁ => wpAny (model X.prog X.w) X.A (eval b X.env) (fun u s₂ => wpAny (model X.prog X.w) X.A (f v u) Q X.xe s₂) X.xe s₁) X.xe s := by
  refine thn (ha pins s σ H _ I h) fun v s1 ⟨x, H1, I1, r1, q1⟩ => ?_
  refine thn (hb pins s1 σ H1 _ I1 q1) fun u s2 ⟨y, H2, I2, r2, q2⟩ => ?_
  exact hf v u s2 x y H2 I2 r1 r2 q2
/-! ### names and constants -/
def tVar (i : Nat) : TE := fun σ H Q => ∃ v, σ[i]? = some (some v) ∧ Q v H
def tC (v : V) : TE := fun _ H Q => Q v H
theorem pe_var {i : Nat} {x : Str} {pos : Pos} (hN : X.N[i]? = some x) (hv : Vis X.env.scope x) (hd : (x == ("__debug__" : Str)) = false := by decide) (hcd : (x == ("__classdict__" : Str)) = false := by decide) : PE X (.Name x pos) (tVar i) := by
  intro pins s σ H Q I h
  obtain ⟨v, e, h⟩ := h
  obtain ⟨m, hn, hl⟩ := I.loc
  obtain ⟨u, r, l⟩ := hl i x v hN e hv
  have fin : EP X pins σ Q u s := ⟨v, H, I, r, h⟩
  rcases l with ⟨hk, hm⟩ | ⟨hk, c, hc, hcell⟩
  · exact wpAny_Name (wpAny_loadName_local I.ok.kind hk hn hm fin) hd
  · rcases hk with hk | hk
    · exact wpAny_Name (wpAny_loadName_cell I.ok.kind hk hc hcell fin) hd
    · exact wpAny_Name (wpAny_loadName_free I.ok.kind hk hc hcell fin hcd) hd
theorem pe_int {i j pos} : PE X (.Constant (.int i) j pos) (tC (.int i)) := fun _ _ _ H _ I h => wpAny_Constant_int ⟨.int i, H, I.tok _, ⟨_, rfl⟩, h⟩
theorem pe_bl {b j pos} : PE X (.Constant (.bool b) j pos) (tC (.bl b)) := fun _ _ _ H _ I h => Constant_bool ⟨.bl b, H, I, rfl, h⟩
theorem pe_str {x j pos} : PE X (.Constant (.str x) j pos) (tC (.str x)) := fun _ _ _ H _ I h => Calls.Constant_str ⟨.str x, H, I.tok _, ⟨_, rfl⟩, h⟩
/-- a global name of the def -/
def Gl (X : Cx) (x : Str) : Prop := X.env.kindOf x = some .globalImplicit
theorem ld_glob {E : Value → Shared → Prop} {pins : List (Addr × Obj)} {s : Shared} {σ : St} {H : Hp} {x : Str} {u : Value} {pos : Pos} {Q : Value → Shared → Prop} (I : Inv X pins σ H s) (hg : Gl X x) (hm : X.mg x = some u) (h : Q u s)
    (hd : (x == ("__debug__" : Str)) = false := by decide) : wpAny (model X.prog X.w) X.A (eval (.Name x pos) X.env) Q E s :=
  Calls.Name_function_global I.ok.kind hg (Calls.loadGlobal_global (by rw [I.ok.glob]; exact I.mod.glob.keeps I.bk) hm h) hd
theorem ld_blt {E : Value → Shared → Prop} {pins : List (Addr × Obj)} {s : Shared} {σ : St} {H : Hp} {x : Str} {u : Value} {pos : Pos} {Q : Value → Shared → Prop} (I : Inv X pins σ H s) (hg : Gl X x) (hm : X.mg x = none) (hv : bootBuiltins x = some u) (h : Q u s)
    (hn : x ≠ "__name__" := by decide) (hd : (x == ("__debug__" : Str)) = false := by decide) : wpAny (model X.prog X.w) X.A (eval (.Name x pos) X.env) Q E s := by
  obtain ⟨mb, h1, h2⟩ := I.mod.blt
  exact Calls.Name_function_global I.ok.kind hg (Calls.loadGlobal_builtin (by rw [I.ok.glob]; exact I.mod.glob.keeps I.bk) hm (by rw [I.ok.blt]; exact h1.keeps I.bk) ((h2 x hn).trans hv) h) hd
/-- a module's constant, a class, a function, as a value -/
theorem pe_glob {x : Str} {v : V} {u : Value} {pos : Pos} (hg : Gl X x) (hm : X.mg x = some u) (r : RelV v u) (hd : (x == ("__debug__" : Str)) = false := by decide) : PE X (.Name x pos) (tC v) :=
  fun _ _ _ H _ I h => ld_glob I hg hm ⟨v, H, I, r, h⟩ hd
/-! ### arithmetic -/
variable {a b : Expr} {ta tb : TE} {pos : Pos}
/-! ### comparisons -/
/-! ### and, or, not -/
variable {tA tB' : TT} {rest : List Expr}
def tAnd (t u : TT) : TT := fun σ H Q => t σ H fun c H1 => if c = true then u σ H1 Q else Q false H1
def tOr (t u : TT) : TT := fun σ H Q => t σ H fun c H1 => if c = true then Q true H1 else u σ H1 Q
def tNot (t : TT) : TT := fun σ H Q => t σ H fun c H1 => Q (!c) H1
theorem pw_and1 (ha : PT X a tA) : PW X (.BoolOp .And [a] pos) tA := by
  intro wh pins s σ H Q I h
  refine isTrue_and (thn (ha pins s σ H Q I h) fun c s1 e => ?_)
  cases c with
  | true => exact isTrue_and_nil e
  | false => exact e
theorem pw_or1 (ha : PT X a tA) : PW X (.BoolOp .Or [a] pos) tA := by
  intro wh pins s σ H Q I h
  refine isTrue_or (thn (ha pins s σ H Q I h) fun c s1 e => ?_)
  cases c with
  | false => exact isTrue_or_nil e
  | true => exact e
theorem pw_and (ha : PT X a tA) (hb : PW X (.BoolOp .And (b :: rest) pos) tB') : PW X (.BoolOp .And (a :: b :: rest) pos) (tAnd tA tB') := by
  intro wh pins s σ H Q I h
  refine isTrue_and (thn (ha pins s σ H _ I h) fun c s1 ⟨H1, I1, q1⟩ => ?_)
  cases c with
  | true => exact hb wh pins s1 σ H1 Q I1 q1
  | false => exact ⟨H1, I1, q1⟩
theorem pw_or (ha : PT X a tA) (hb : PW X (.BoolOp .Or (b :: rest) pos) tB') : PW X (.BoolOp .Or (a :: b :: rest) pos) (tOr tA tB') := by
  intro wh pins s σ H Q I h
  refine isTrue_or (thn (ha pins s σ H _ I h) fun c s1 ⟨H1, I1, q1⟩ => ?_)
  cases c with
  | true => exact ⟨H1, I1, q1⟩
  | false => exact hb wh pins s1 σ H1 Q I1 q1
theorem pt_not (ha : PT X a tA) : PT X (.UnaryOp .Not a pos) (tNot tA) := by
  intro pins s σ H Q I h
  exact isTrue_not (ha pins s σ H (fun c H1 => Q (!c) H1) I h)
/-- .. as values (bools) -/
def tAndV (ta tb : TE) : TE := fun σ H Q => ta σ H fun x H1 => ∃ c, x = .bl c ∧ if c = true then tb σ H1 Q else Q (.bl false) H1
def tOrV (ta tb : TE) : TE := fun σ H Q => ta σ H fun x H1 => ∃ c, x = .bl c ∧ if c = true then Q (.bl true) H1 else tb σ H1 Q
def tNotV (ta : TE) : TE := fun σ H Q => ta σ H fun x H1 => ∃ c, x = .bl c ∧ Q (.bl (!c)) H1
theorem pe_one {op} {t : TE} (h : PE X a t) : PE X (.BoolOp op [a] pos) t := fun pins s σ H Q I hw => BoolOp_one (h pins s σ H Q I hw)
theorem pe_and (ha : PE X a ta) (hb : PE X (.BoolOp .And (b :: rest) pos) tb) : PE X (.BoolOp .And (a :: b :: rest) pos) (tAndV ta tb) := by
  intro pins s σ H Q I h
  refine BoolOp_and (thn (ha pins s σ H _ I h) fun v s1 ⟨x, H1, I1, r1, q1⟩ => ?_)
  obtain ⟨c, rfl, q1⟩ := q1
  cases r1
  refine wpAny_truthy_bool ?_
  cases c with
  | true => exact hb pins s1 σ H1 Q I1 q1
  | false => exact ⟨.bl false, H1, I1, rfl, q1⟩
theorem pe_or (ha : PE X a ta) (hb : PE X (.BoolOp .Or (b :: rest) pos) tb) : PE X (.BoolOp .Or (a :: b :: rest) pos) (tOrV ta tb) := by
  intro pins s σ H Q I h
  refine BoolOp_or (thn (ha pins s σ H _ I h) fun v s1 ⟨x, H1, I1, r1, q1⟩ => ?_)
  obtain ⟨c, rfl, q1⟩ := q1
  cases r1
  refine wpAny_truthy_bool ?_
  cases c with
  | false => exact hb pins s1 σ H1 Q I1 q1
  | true => exact ⟨.bl true, H1, I1, rfl, q1⟩
theorem pe_not (ha : PE X a ta) : PE X (.UnaryOp .Not a pos) (tNotV ta) := by
  intro pins s σ H Q I h
  refine UnaryOp_ (thn (ha pins s σ H _ I h) fun v s1 ⟨x, H1, I1, r1, q1⟩ => ?_)
  obtain ⟨c, rfl, q1⟩ := q1
  cases r1
  exact not_of (wpAny_truthy_bool ⟨.bl (!c), H1, I1, rfl, q1⟩)
/-- a if t else b -/
def tIf (t : TT) (ta tb : TE) : TE := fun σ H Q => t σ H fun c H1 => if c = true then ta σ H1 Q else tb σ H1 Q
theorem pe_ifExp {c : Expr} (hc : PT X c tA) (ha : PE X a ta) (hb : PE X b tb) : PE X (.IfExp c a b pos) (tIf tA ta tb) := by
  intro pins s σ H Q I h
  refine wpAny_IfExp (thn (hc pins s σ H _ I h) fun d s1 ⟨H1, I1, q1⟩ => ?_)
  cases d with
  | true => exact ha pins s1 σ H1 Q I1 q1
  | false => exact hb pins s1 σ H1 Q I1 q1
end
end L2
namespace L2
open PySem PySem.Spec PyProof.Rows
/-! ### a list, a tuple that is read: tracked, frozen, or an object of the module -/
def SqL (K : PySem.W.Frag) (H : Hp) (a : Addr) (xs : List V) : Prop :=
  Rd H a (.lst xs) ∨
    ∃ (o : Obj) (its : Array Value) (n : Nat), K.lookup a = some o ∧ o.cls = .type "list" ∧ o.dict = none ∧ o.data = .seq its n ∧ its.size ≤ sizeLine ∧ Vals xs its.toList
def SqT (K : PySem.W.Frag) (H : Hp) (a : Addr) (xs : List V) : Prop :=
  Rd H a (.tup xs) ∨
    ∃ (o : Obj) (its : Array Value) (n : Nat), K.lookup a = some o ∧ o.cls = .type "tuple" ∧ o.data = .seq its n ∧ its.size ≤ sizeLine ∧ Vals xs its.toList
def absV : Value → Option V
  | .none => some .non
  | .bool b => some (.bl b)
  | .int i _ => some (.int i)
  | .str x _ => some (.str x)
  | .bytes b _ => some (.byt b)
  | .float b _ => some (.flt b)
  | .ref a => some (.ref a)
  | .type n => some (.ty n)
  | _ => none
theorem RelV.abs {x : V} {u : Value} (r : RelV x u) : absV u = some x := by
  cases x with
  | non => cases r; rfl
  | bl _ => cases r; rfl
  | int _ => obtain ⟨t, rfl⟩ := r; rfl
  | str _ => obtain ⟨t, rfl⟩ := r; rfl
  | byt _ => obtain ⟨t, rfl⟩ := r; rfl
  | flt _ => obtain ⟨t, rfl⟩ := r; rfl
  | ref _ => cases r; rfl
  | ty _ => cases r; rfl
theorem RelV.inj {x y : V} {u : Value} (r : RelV x u) (q : RelV y u) : x = y := Option.some.inj (r.abs.symm.trans q.abs)
theorem Vals.inj : ∀ {xs ys : List V} {us : List Value}, Vals xs us → Vals ys us → xs = ys
  | _, _, _, .nil, .nil => rfl
  | _, _, _, .cons r t, .cons r' t' => by rw [r.inj r', Vals.inj t t']
section
variable {X : Cx} {pins : List (Addr × Obj)} {σ : St} {H : Hp} {s : Shared} {a : Addr} {xs ys : List V}
theorem SqL.of {K : PySem.W.Frag} (h : H a = some (.lst xs)) : SqL K H a xs := .inl (.inl h)
theorem SqT.of {K : PySem.W.Frag} (h : H a = some (.tup xs)) : SqT K H a xs := .inl (.inl h)
theorem Inv.list (I : Inv X pins σ H s) (h : SqL X.K H a xs) : ∃ its : List Value, Vals xs its ∧ PlainL s.heap a its.toArray ∧ xs.length ≤ sizeLine := by
  rcases h with h | ⟨o, its, n, hk, hc, hd, hs, hz, r⟩
  · obtain ⟨z, its, n, r, e⟩ := h.ok I.hok
    exact ⟨its, r, ⟨_, n, e, rfl, rfl, rfl⟩, z⟩
  · refine ⟨its.toList, r, ⟨o, n, I.kIn a o hk, hc, hd, by simpa using hs⟩, ?_⟩
    have e := r.length
    simp only [Array.length_toList] at e
    omega
theorem Inv.tuple (I : Inv X pins σ H s) (h : SqT X.K H a xs) : ∃ its : List Value, Vals xs its ∧ IsTup s.heap a its.toArray ∧ xs.length ≤ sizeLine := by
  rcases h with h | ⟨o, its, n, hk, hc, hs, hz, r⟩
  · obtain ⟨z, its, r, p⟩ := h.ok I.hok
    exact ⟨its, r, p, z⟩
  · refine ⟨its.toList, r, ⟨o, I.kIn a o hk, hc, n, by simpa using hs⟩, ?_⟩
    have e := r.length
    simp only [Array.length_toList] at e
    omega
theorem Inv.list_inj (I : Inv X pins σ H s) (h : SqL X.K H a xs) (h' : SqL X.K H a ys) : xs = ys := by
  obtain ⟨its, r, ⟨o, n, e, _, _, d⟩, _⟩ := I.list h
  obtain ⟨its', r', ⟨o', n', e', _, _, d'⟩, _⟩ := I.list h'
  rw [e] at e'; cases e'
  rw [d] at d'
  injection d' with d1 _
  have : its = its' := by simpa using congrArg Array.toList d1
  subst this
  exact r.inj r'
theorem Inv.tuple_inj (I : Inv X pins σ H s) (h : SqT X.K H a xs) (h' : SqT X.K H a ys) : xs = ys := by
  obtain ⟨its, r, ⟨o, e, _, n, d⟩, _⟩ := I.tuple h
  obtain ⟨its', r', ⟨o', e', _, n', d'⟩, _⟩ := I.tuple h'
  rw [e] at e'; cases e'
  rw [d] at d'
  injection d' with d1 _
  have : its = its' := by simpa using congrArg Array.toList d1
  subst this
  exact r.inj r'
end
/-! ### another wish about exceptions -/
abbrev Cx.wish (X : Cx) (E : Value → Shared → Prop) : Cx := { X with xe := E }
/-- no exception leaves -/
abbrev Cx.nox (X : Cx) : Cx := X.wish fun _ _ => False
theorem Cx.Ok.wish {X : Cx} (ok : X.Ok) (E : Value → Shared → Prop) : (X.wish E).Ok :=
  ⟨ok.mod, ok.kind, ok.glob, ok.blt, ok.above, ok.inj, ok.has, ok.cab, ok.hd, ok.frames, ok.stk, ok.exf, ok.bs, ok.bsz, ok.noex, ok.exfs, ok.funs, ok.frf⟩
theorem Cx.Ok.unwish {X : Cx} {E : Value → Shared → Prop} (ok : (X.wish E).Ok) : X.Ok :=
  ⟨ok.mod, ok.kind, ok.glob, ok.blt, ok.above, ok.inj, ok.has, ok.cab, ok.hd, ok.frames, ok.stk, ok.exf, ok.bs, ok.bsz, ok.noex, ok.exfs, ok.funs, ok.frf⟩
section
variable {X : Cx} {pins : List (Addr × Obj)} {σ : St} {H : Hp} {s : Shared} {E : Value → Shared → Prop}
theorem Inv.wish (I : Inv X pins σ H s) (E : Value → Shared → Prop) : Inv (X.wish E) pins σ H s := ⟨I.ok.wish E, I.os, I.bare, I.base, I.loc, I.cell, I.free, I.freeC, I.pin, I.hok, I.len⟩
theorem Inv.unwish (I : Inv (X.wish E) pins σ H s) : Inv X pins σ H s := ⟨I.ok.unwish, I.os, I.bare, I.base, I.loc, I.cell, I.free, I.freeC, I.pin, I.hok, I.len⟩
theorem SP.unwish {D : Ends} {f : Flow} {s' : Shared} (h : SP (X.wish E) pins D f s') : SP X pins D f s' := by
  cases f with
  | next => obtain ⟨σ', H', I, q⟩ := h; exact ⟨σ', H', I.unwish, q⟩
  | brk => obtain ⟨σ', H', I, q⟩ := h; exact ⟨σ', H', I.unwish, q⟩
  | cont => obtain ⟨σ', H', I, q⟩ := h; exact ⟨σ', H', I.unwish, q⟩
  | ret u => obtain ⟨v, σ', H', I, r, q⟩ := h; exact ⟨v, σ', H', I.unwish, r, q⟩
theorem PSs.nox {st : List Stmt} {t : TS} (h : PSs X.nox st t) : PSs X st t := fun pins s σ H D I hw =>
  wpAny_mono (h pins s σ H D (I.wish _) hw) (fun _ _ q => q.unwish) fun _ _ z => False.elim z
end
/-! ### blocks and small statements -/
section
variable {X : Cx} {st : Stmt} {rest : List Stmt} {t u : TS} {e : Expr} {te : TE} {pos : Pos}
def tNext : TS := fun D σ H => D.nx σ H
def tSeq (t u : TS) : TS := fun D σ H => t { D with nx := u D } σ H
theorem pss_nil : PSs X [] tNext := fun _ _ σ H _ I h => wpAny_execs_nil ⟨σ, H, I, h⟩
theorem pss_cons (h1 : PS X st t) (h2 : PSs X rest u) : PSs X (st :: rest) (tSeq t u) := by
  intro pins s σ H D I h
  refine wpAny_execs_cons (thn (h1 pins s σ H { D with nx := u D } I h) fun f s1 q => ?_)
  cases f with
  | next =>
    obtain ⟨σ', H', I', q⟩ := q
    exact h2 pins s1 σ' H' D I' q
  | ret v => exact q
  | brk => exact q
  | cont => exact q
theorem pss_one (h1 : PS X st t) : PSs X [st] t := by
  intro pins s σ H D I h
  refine wpAny_execs_cons (thn (h1 pins s σ H D I h) fun f s1 q => ?_)
  cases f with
  | next => exact wpAny_execs_nil q
  | ret v => exact q
  | brk => exact q
  | cont => exact q
def tBreak : TS := fun D σ H => D.bk σ H
theorem ps_break : PS X (.Break pos) tBreak := fun _ _ σ H _ I h => wpAny_Break ⟨σ, H, I, h⟩
/-- in a def's body nothing is shown -/
theorem Inv.quiet {pins : List (Addr × Obj)} {σ : St} {H : Hp} {s : Shared} (I : Inv X pins σ H s) : interactive X.env = false := by simp [interactive, I.ok.kind]
/-- an expression whose value is dropped -/
def tDrop (te : TE) : TS := fun D σ H => te σ H fun _ H1 => D.nx σ H1
theorem ps_expr (he : PE X e te) (hs : swapsWith e none pos.line X.env = pure false := by rfl) : PS X (.Expr e pos) (tDrop te) := by
  intro pins s σ H D I h
  exact wpAny_Expr_any (thn (he pins s σ H _ I h) fun v s1 ⟨x, H1, I1, r1, q1⟩ => ⟨σ, H1, I1, q1⟩) I.quiet hs
def tRet (te : TE) : TS := fun D σ H => te σ H D.rt
theorem ps_ret (he : PE X e te) : PS X (.Return (some e) pos) (tRet te) := by
  intro pins s σ H D I h
  exact wpAny_Return_some (thn (he pins s σ H _ I h) fun v s1 ⟨x, H1, I1, r1, q1⟩ => ⟨x, σ, H1, I1, r1, q1⟩)
def tIfS (c : TT) (t u : TS) : TS := fun D σ H => c σ H fun b H1 => if b = true then t D σ H1 else u D σ H1
theorem ps_if {c : Expr} {a b : List Stmt} {tc : TT} (hc : PT X c tc) (ha : PSs X a t) (hb : PSs X b u) : PS X (.If c a b pos) (tIfS tc t u) := by
  intro pins s σ H D I h
  refine wpAny_If (thn (hc pins s σ H _ I h) fun d s1 ⟨H1, I1, q1⟩ => ?_)
  cases d with
  | true => exact ha pins s1 σ H1 D I1 q1
  | false => exact hb pins s1 σ H1 D I1 q1
end
/-! ### targets -/
abbrev TG := V → St → Hp → (St → Hp → Prop) → Prop
abbrev TGs := List V → St → Hp → (St → Hp → Prop) → Prop
def PG (X : Cx) (target : Expr) (t : TG) : Prop :=
  ∀ (pins : List (Addr × Obj)) (s : Shared) (σ : St) (H : Hp) (v : V) (u : Value) (Q : St → Hp → Prop), Inv X pins σ H s → RelV v u → t v σ H Q →
    wpAny (model X.prog X.w) X.A (assign target X.env u) (fun _ s' => ∃ σ' H', Inv X pins σ' H' s' ∧ Q σ' H') X.xe s
/-- several targets, one after another -/
def PGs (X : Cx) (ts : List Expr) (t : TGs) : Prop :=
  ∀ (pins : List (Addr × Obj)) (s : Shared) (σ : St) (H : Hp) (vs : List V) (us : List Value) (Q : St → Hp → Prop), Inv X pins σ H s → Vals vs us → t vs σ H Q →
    wpAny (model X.prog X.w) X.A (assignInOrder ((assignEach ts X.env).map (·.2)) us) (fun _ s' => ∃ σ' H', Inv X pins σ' H' s' ∧ Q σ' H') X.xe s
/-- o[i] = v, by values -/
abbrev TSet := V → V → V → Hp → (Hp → Prop) → Prop
def PSet (X : Cx) (t : TSet) : Prop :=
  ∀ (pins : List (Addr × Obj)) (s : Shared) (σ : St) (H : Hp) (o i v : V) (ov iv u : Value) (Q : Hp → Prop), Inv X pins σ H s → RelV o ov → RelV i iv → RelV v u → t o i v H Q →
    wpAny (model X.prog X.w) X.A (setItem ov iv u) (fun _ s' => ∃ H', Inv X pins σ H' s' ∧ Q H') X.xe s
/-- a op= b, by values -/
abbrev TIp := V → V → Hp → VK → Prop
def PIp (X : Cx) (op : Operator) (t : TIp) : Prop :=
  ∀ (pins : List (Addr × Obj)) (s : Shared) (σ : St) (H : Hp) (x y : V) (v u : Value) (Q : VK), Inv X pins σ H s → RelV x v → RelV y u → t x y H Q →
    wpAny (model X.prog X.w) X.A (inplaceOp op v u) (EP X pins σ Q) X.xe s
section
variable {X : Cx} {pos : Pos}
def gName (i : Nat) : TG := fun v σ H Q => Q (σ.set i (some v)) H
theorem pg_name {i : Nat} {x : Str} (hN : X.N.Nodup) (hi : X.N[i]? = some x) (hx : Loc X.env.scope x) (hf : X.fn x = true ∨ X.env.scope.names.lookup x = some .local := by first | exact .inl rfl | exact .inr rfl | assumption) : PG X (.Name x pos) (gName i) := by
  intro pins s σ H v u Q I r h
  exact wpAny_assign_Name (store_ok I hN hi hx r (fun s' I' => ⟨_, H, I', h⟩) hf)
def gNil : TGs := fun vs σ H Q => vs = [] ∧ Q σ H
def gCons (t : TG) (u : TGs) : TGs := fun vs σ H Q => ∃ v r, vs = v :: r ∧ t v σ H fun σ' H' => u r σ' H' Q
theorem pgs_nil : PGs X [] gNil := by
  intro pins s σ H vs us Q I r h
  obtain ⟨e, h⟩ := h
  subst e
  cases r
  exact assignInOrder_nil ⟨σ, H, I, h⟩
theorem pgs_cons {e : Expr} {es : List Expr} {t : TG} {u : TGs} (h1 : PG X e t) (h2 : PGs X es u)
    (hs : (assignEach (e :: es) X.env).map (·.2) = assign e X.env :: (assignEach es X.env).map (·.2) := by rfl) : PGs X (e :: es) (gCons t u) := by
  intro pins s σ H vs us Q I r h
  obtain ⟨v, vr, e1, h⟩ := h
  subst e1
  cases r with
  | cons r rr =>
    rw [hs]
    refine assignInOrder_cons (thn (h1 pins s σ H _ _ _ I r h) fun _ s1 ⟨σ1, H1, I1, q1⟩ => ?_)
    exact h2 pins s1 σ1 H1 _ _ Q I1 rr q1
/-- (a, b, ..) = a tuple of that length -/
def gTup (K : PySem.W.Frag) (n : Nat) (t : TGs) : TG := fun v σ H Q => ∃ a xs, v = .ref a ∧ SqT K H a xs ∧ xs.length = n ∧ t xs σ H Q
theorem pg_tup {es : List Expr} {k : Nat} {t : TGs} {n : Nat} (hc : X.calm = true) (h : PGs X es t)
    (hn : (assignEach es X.env).length = n := by rfl) (hst : (assignEach es X.env).findIdx? (·.1) = none := by rfl) : PG X (.Tuple es k pos) (gTup X.K n t) := by
  intro pins s σ H v u Q I r hw
  obtain ⟨a, xs, e1, hq, hl, hw⟩ := hw
  subst e1
  cases r
  obtain ⟨its, rv, ht, hz⟩ := I.tuple hq
  refine assign_Tuple_tuple (I.ok.hd hc) ht (by simp [hn, ← hl, rv.length]) hst fun h' hx => ?_
  have I1 : Inv X pins σ H { s with heap := h' } := I.kept (t' := s.toks) fun b o e => hx b o (Nat.ne_of_lt (Heap.lt_size e)) e
  exact h pins _ σ H xs _ Q I1 (by simpa using rv) hw
/-- target = value -/
def tAsg (te : TE) (g : TG) : TS := fun D σ H => te σ H fun x H1 => g x σ H1 D.nx
/-- name = value -/
theorem ps_set {i : Nat} {x : Str} {e : Expr} {te : TE} {pos' : Pos} (hN : X.N.Nodup) (hi : X.N[i]? = some x) (hx : Loc X.env.scope x) (he : PE X e te) (hs : swapsWith e (some (.Name x pos')) pos.line X.env = pure false := by rfl) (hf : X.fn x = true ∨ X.env.scope.names.lookup x = some .local := by first | exact .inl rfl | exact .inr rfl | assumption) :
    PS X (.Assign [.Name x pos'] e pos) (tAsg te (gName i)) := by
  intro pins s σ H D I h
  refine wpAny_Assign_Name (thn (he pins s σ H _ I h) fun v s1 ⟨y, H1, I1, r1, q1⟩ => ?_) hs
  exact store_ok I1 hN hi hx r1 (fun s2 I2 => ⟨_, H1, I2, q1⟩) hf
/-- name op= e -/
def tAug (i : Nat) (te : TE) (ti : TIp) : TS := fun D σ H => ∃ x, σ[i]? = some (some x) ∧ te σ H fun y H1 => ti x y H1 fun z H2 => D.nx (σ.set i (some z)) H2
theorem ps_aug {i : Nat} {x : Str} {e : Expr} {te : TE} {op : Operator} {ti : TIp} {pos' : Pos} (hN : X.N.Nodup) (hi : X.N[i]? = some x) (hx : Loc X.env.scope x) (he : PE X e te) (ho : PIp X op ti) (hf : X.fn x = true ∨ X.env.scope.names.lookup x = some .local := by first | exact .inl rfl | exact .inr rfl | assumption) :
    PS X (.AugAssign (.Name x pos') op e pos) (tAug i te ti) := by
  intro pins s σ H D I h
  obtain ⟨v, e1, h⟩ := h
  obtain ⟨m, hn, hl⟩ := I.loc
  have vis : Vis X.env.scope x := by rcases hx with k | k; exact .inl k; exact .inr (.inl k)
  obtain ⟨u, r, l⟩ := hl i x v hi e1 vis
  refine wpAny_AugAssign_Name ?_
  have go : wpAny (model X.prog X.w) X.A (eval e X.env) (fun w s₂ => wpAny (model X.prog X.w) X.A (inplaceOp op u w) (fun r s₃ => wpAny (model X.prog X.w) X.A (storeName X.env x r) (fun _ => SP X pins D .next) X.xe s₃) X.xe s₂) X.xe s := by
    refine thn (he pins s σ H _ I h) fun w s1 ⟨y, H1, I1, r1, q1⟩ => ?_
    refine thn (ho pins s1 σ H1 v y u w _ I1 r r1 q1) fun z s2 ⟨zv, H2, I2, r2, q2⟩ => ?_
    exact store_ok I2 hN hi hx r2 (fun s3 I3 => ⟨_, H2, I3, q2⟩) hf
  rcases l with ⟨hk, hm⟩ | ⟨hk, c, hc, hcell⟩
  · exact wpAny_loadName_local I.ok.kind hk hn hm go
  · rcases hk with hk | hk
    · exact wpAny_loadName_cell I.ok.kind hk hc hcell go
    · rcases hx with k | k
      · have : X.env.scope.names.lookup x = some .free := hk
        rw [k] at this; cases this
      · have : X.env.scope.names.lookup x = some .free := hk
        rw [k] at this; cases this
/-- o[i] op= e -/
def tAugS (to ti te : TE) (tget : V → V → Hp → VK → Prop) (tip : TIp) (tset : TSet) : TS := fun D σ H => to σ H fun o H1 => ti σ H1 fun i H2 => tget o i H2 fun x H3 => te σ H3 fun y H4 => tip x y H4 fun z H5 => tset o i z H5 fun H6 => D.nx σ H6
/-- o[i], by values -/
def PGet (X : Cx) (t : V → V → Hp → VK → Prop) : Prop :=
  ∀ (pins : List (Addr × Obj)) (s : Shared) (σ : St) (H : Hp) (o i : V) (ov iv : Value) (Q : VK), Inv X pins σ H s → RelV o ov → RelV i iv → t o i H Q →
    wpAny (model X.prog X.w) X.A (getItem ov iv) (EP X pins σ Q) X.xe s
theorem ps_augS {o i e : Expr} {to ti te : TE} {tget : V → V → Hp → VK → Prop} {tip : TIp} {tset : TSet} {op : Operator} {tpos : Pos} (ho : PE X o to) (hi : PE X i ti) (hg : PGet X tget) (he : PE X e te) (hp : PIp X op tip) (hs : PSet X tset)
    (ha : ∀ ov iv new, augStore i ov iv new = (do holding [new, ov, iv] (setItem ov iv new); release [new, ov, iv] []; pure .next) := by intros; rfl) : PS X (.AugAssign (.Subscript o i tpos) op e pos) (tAugS to ti te tget tip tset) := by
  intro pins s σ H D I h
  refine wpAny_AugAssign_SubscriptAny (thn (ho pins s σ H _ I h) fun ov s1 ⟨x1, H1, I1, r1, q1⟩ => ?_) ha
  refine thn (hi pins s1 σ H1 _ I1 q1) fun iv s2 ⟨x2, H2, I2, r2, q2⟩ => ?_
  refine thn (hg pins s2 σ H2 x1 x2 ov iv _ I2 r1 r2 q2) fun old s3 ⟨x3, H3, I3, r3, q3⟩ => ?_
  refine thn (he pins s3 σ H3 _ I3 q3) fun v s4 ⟨x4, H4, I4, r4, q4⟩ => ?_
  refine thn (hp pins s4 σ H4 x3 x4 old v _ I4 r3 r4 q4) fun new s5 ⟨x5, H5, I5, r5, q5⟩ => ?_
  exact thn (hs pins s5 σ H5 x1 x2 x5 ov iv new _ I5 r1 r2 r5 q5) fun _ s6 ⟨H6, I6, q6⟩ => ⟨σ, H6, I6, q6⟩
/-- ints -/
def ipI (f : Int → Int → Int) : TIp := fun x y H Q => ∃ i j, x = .int i ∧ y = .int j ∧ Q (.int (f i j)) H
theorem ip_add : PIp X .Add (ipI fun i j => i + j) := by
  intro pins s σ H x y v u Q I r1 r2 h
  obtain ⟨i, j, e1, e2, q⟩ := h
  subst e1; subst e2
  obtain ⟨t, rfl⟩ := r1
  obtain ⟨t', rfl⟩ := r2
  exact iadd_int ⟨.int _, H, I.tok _, ⟨_, rfl⟩, q⟩
end
/-! ### while -/
section
variable {X : Cx} {pos : Pos}
/-- the invariant W with its measure -/
def tWhile (c : TT) (tb : TS) : TS := fun D σ H => ∃ W : Nat → St → Hp → Prop, (∃ m, W m σ H) ∧ ∀ m σ H, W m σ H →
  c σ H fun b H1 => if b = true then ∃ N : St → Hp → Prop, (∀ σ' H', N σ' H' → ∃ m', m' < m ∧ W m' σ' H') ∧ tb { D with nx := N, ct := N, bk := D.nx } σ H1 else D.nx σ H1
theorem ps_while {c : Expr} {body : List Stmt} {tc : TT} {tb : TS} (hp : PassesOwn (model X.prog X.w) X.A X.env X.xe) (hc : PT X c tc) (hb : PSs X body tb) : PS X (.While c body [] pos) (tWhile tc tb) := by
  intro pins s σ H D I h
  obtain ⟨W, ⟨m0, w0⟩, turn⟩ := h
  refine wpAny_While (codeAny_whileLoop (fun n s' => ∃ σ' H', Inv X pins σ' H' s' ∧ W n σ' H') ?_ m0 ⟨σ, H, I, w0⟩)
  rintro n s1 ⟨σ1, H1, I1, w1⟩
  refine wpAny_passesOwn hp (thn (hc pins s1 σ1 H1 _ I1 (turn n σ1 H1 w1)) fun b s2 ⟨H2, I2, q2⟩ => ?_)
  cases b with
  | true =>
    obtain ⟨N, hN, q2⟩ := q2
    rw [if_pos rfl]
    refine wpAny_passesOwn hp (thn (hb pins s2 σ1 H2 _ I2 q2) fun f s3 q3 => ?_)
    cases f with
    | next =>
      obtain ⟨σ3, H3, I3, n3⟩ := q3
      obtain ⟨m', hm, w3⟩ := hN σ3 H3 n3
      exact ⟨m', hm, σ3, H3, I3, w3⟩
    | cont =>
      obtain ⟨σ3, H3, I3, n3⟩ := q3
      obtain ⟨m', hm, w3⟩ := hN σ3 H3 n3
      exact ⟨m', hm, σ3, H3, I3, w3⟩
    | brk => exact q3
    | ret v => exact q3
  | false =>
    rw [if_neg Bool.false_ne_true]
    exact wpAny_execs_nil ⟨σ1, H2, I2, q2⟩
end
/-! ### what a loop or a comprehension walks -/
/-- at turn i: it yields x (the heap may grow), or it stops -/
structure It where
  go : Nat → Hp → Prop
  yld : Nat → Hp → V → Hp → Prop
  stop : Nat → Hp → Prop
/-- the iterator's own objects may turn: they are not the frame's, not pinned, younger than the entry (or a comprehension's own) -/
def FpOk (X : Cx) (pins : List (Addr × Obj)) (H : Hp) (b : Addr) : Prop :=
  H b = none ∧ b ≠ X.env.locals ∧ b ∉ X.fs ∧ (b ∈ X.ex ∨ X.s₀.heap.objs.size ≤ b) ∧ (∀ x c, X.env.cells.lookup x = some c → c ≠ b) ∧ ∀ p ∈ X.pn ++ pins, p.1 ≠ b
theorem Inv.fpOk {X : Cx} {pins : List (Addr × Obj)} {σ : St} {H H' : Hp} {s : Shared} {b : Addr} (I : Inv X pins σ H s) (hb : s.heap.objs.size ≤ b) (hn : H' b = none) : FpOk X pins H' b := by
  refine ⟨hn, Nat.ne_of_gt (Nat.lt_of_lt_of_le I.lt hb), I.nofs hb, .inr (Nat.le_trans I.sz hb), fun x c e z => ?_, fun p hp z => ?_⟩
  · obtain ⟨v, q⟩ := I.cell x c e
    exact absurd (Nat.lt_of_lt_of_le q.lt (by rw [z]; exact hb)) (Nat.lt_irrefl _)
  · exact absurd (Nat.lt_of_lt_of_le (Heap.lt_size (I.pin p hp).1) (by rw [z]; exact hb)) (Nat.lt_irrefl _)
structure Turn (P : Program) (w : World) (K : PySem.W.Frag) (tg : Expr) (J : It) (fp : List Addr) (it : Addr) (tn : Nat → Heap → Prop) : Prop where
  mem : it ∈ fp
  obj : ∀ i h, tn i h → ∀ b ∈ fp, ∃ o, h.get? b = some o ∧ ∀ v, o.data ≠ .cell v
  keep : ∀ i h h', tn i h → (∀ b ∈ fp, ∀ o, h.get? b = some o → h'.get? b = some o) → tn i h'
  item : ∀ (X : Cx), X.prog = P → X.w = w → X.K = K → X.calm = true → ∀ (i : Nat) (pins : List (Addr × Obj)) (s : Shared) (σ : St) (H : Hp) (E : Value → Shared → Prop), Inv X pins σ H s → (∀ b ∈ fp, FpOk X pins H b) → tn i s.heap → J.go i H →
    wpAny (model P w) X.A (pyNext (.ref it)) (fun r s1 => ∃ u, r = some u ∧
      wpAny (model P w) X.A (letOwnedTupleGo tg (.ref it) u) (fun _ s2 => ∃ x H', Inv X pins σ H' s2 ∧ RelV x u ∧ J.yld i H x H' ∧ tn (i + 1) s2.heap ∧ ∀ b ∈ fp, H' b = none) E s1) E s
  done : ∀ (X : Cx), X.prog = P → X.w = w → X.K = K → X.calm = true → ∀ (i : Nat) (pins : List (Addr × Obj)) (s : Shared) (σ : St) (H : Hp) (E : Value → Shared → Prop), Inv X pins σ H s → (∀ b ∈ fp, FpOk X pins H b) → tn i s.heap → J.stop i H →
    wpAny (model P w) X.A (pyNext (.ref it)) (fun r s1 => r = none ∧ Inv X pins σ H s1) E s
  self : ∀ (A : Around) (i : Nat) (s : Shared) (Q : Value → Shared → Prop) (E : Value → Shared → Prop), tn i s.heap → Q (.ref it) s → wpAny (model P w) A (pyIter (.ref it)) Q E s
abbrev TI := St → Hp → (It → Hp → Prop) → Prop
/-- an iterator has come -/
def PIE (X : Cx) (pins : List (Addr × Obj)) (σ : St) (tg : Expr) (R : It → Hp → Prop) (itv : Value) (s2 : Shared) : Prop :=
  ∃ (it : Addr) (fp : List Addr) (tn : Nat → Heap → Prop) (J : It) (H' : Hp), itv = .ref it ∧ Inv X pins σ H' s2 ∧ Turn X.prog X.w X.K tg J fp it tn ∧ tn 0 s2.heap ∧ (∀ b ∈ fp, FpOk X pins H' b) ∧ R J H'
def PI (X : Cx) (tg iter : Expr) (wi : TI) : Prop :=
  ∀ (pins : List (Addr × Obj)) (s : Shared) (σ : St) (H : Hp) (R : It → Hp → Prop), Inv X pins σ H s → wi σ H R →
    wpAny (model X.prog X.w) X.A (eval iter X.env) (fun v s1 => wpAny (model X.prog X.w) X.A (pyIter v) (PIE X pins σ tg R) X.xe s1) X.xe s
/-- the step ahead of the store is nothing for an iterator that keeps no tuple -/
theorem go_of {M : Model} {A : Around} {E : Value → Shared → Prop} {s : Shared} {tg : Expr} {it : Addr} {u : Value} {o : Obj} {n : String} {vs : Array Value} {Q : Unit → Shared → Prop} (ho : s.heap.get? it = some o) (hc : o.cls = .type n) (hd : o.data = .fields vs)
    (hn : ["enumerate", "zip", "dict_itemiterator", "dict_reverseitemiterator", "odict_iterator", "itertools.zip_longest", "itertools.pairwise"].contains n = false) (hQ : Q () s) : wpAny M A (letOwnedTupleGo tg (.ref it) u) Q E s := by
  unfold letOwnedTupleGo
  cases tg <;> first
    | exact wpAny_pure hQ
    | (cases u <;> first
        | exact wpAny_pure hQ
        | (refine wpAny_bind (wpAny_load ho ?_)
           rw [hc, hd]
           show wpAny M A (if (["enumerate", "zip", "dict_itemiterator", "dict_reverseitemiterator", "odict_iterator", "itertools.zip_longest", "itertools.pairwise"].contains n && vs[0]? == some (rawInt _)) = true then _ else _) Q E s
           rw [if_neg (by intro h; rw [hn, Bool.false_and] at h; cases h)]
           exact wpAny_pure hQ))
/-- the list at a, as it stands at each turn (a loop may append to it) -/
def Itl (K : PySem.W.Frag) (a : Addr) : It :=
  ⟨fun i H => ∃ xs x, SqL K H a xs ∧ xs[i]? = some x, fun i H x H' => H' = H ∧ ∀ xs, SqL K H a xs → xs[i]? = some x, fun i H => ∃ xs, SqL K H a xs ∧ xs.length ≤ i⟩
def Itt (K : PySem.W.Frag) (a : Addr) : It :=
  ⟨fun i H => ∃ xs x, SqT K H a xs ∧ xs[i]? = some x, fun i H x H' => H' = H ∧ ∀ xs, SqT K H a xs → xs[i]? = some x, fun i H => ∃ xs, SqT K H a xs ∧ xs.length ≤ i⟩
/-- lo, lo + 1, .. (n of them) -/
def Itr (lo : Int) (n : Nat) : It := ⟨fun i _ => i < n, fun i H x H' => H' = H ∧ x = .int (lo + i), fun i _ => n ≤ i⟩
theorem turn_list {P : Program} {w : World} {K : PySem.W.Frag} {tg : Expr} (a it : Addr) : Turn P w K tg (Itl K a) [it] it (fun i h => h.IsListIter it a i) where
  mem := by simp
  obj := fun i h st b hb => by
    have e : b = it := by simpa using hb
    subst e
    obtain ⟨o, e, c, d⟩ := st
    exact ⟨o, e, fun v z => by rw [d] at z; cases z⟩
  keep := fun i h h' st k => st.at fun o e => k it (by simp) o e
  item := by
    intro X hP hw hK hc i pins s σ H E I hf st hg
    subst hP hw hK
    obtain ⟨xs, x, hq, hx⟩ := hg
    obtain ⟨its, rv, p, hz⟩ := I.list hq
    obtain ⟨u, hu, ru⟩ := rv.get hx
    obtain ⟨f0, f1, f2, f3, f4, f5⟩ := hf it (by simp)
    refine wpAny_pyNext_list_item st p.isList (x := u) (by simpa using hu) fun h' st' sb => ?_
    have I1 : Inv X pins σ H { s with heap := h' } := I.turned (t' := s.toks) (fun b o hb e => (sb.2 b hb).trans e) f0 f1 f3 f4 f5
    obtain ⟨o, e, c, d⟩ := id st'
    exact ⟨u, rfl, go_of (s := { s with heap := h' }) e c d (by decide) ⟨x, H, I1, ru, ⟨rfl, fun ys hy => by rw [I.list_inj hy hq]; exact hx⟩, st', fun b hb => (hf b hb).1⟩⟩
  done := by
    intro X hP hw hK hc i pins s σ H E I hf st hg
    subst hP hw hK
    obtain ⟨xs, hq, hx⟩ := hg
    obtain ⟨its, rv, p, hz⟩ := I.list hq
    obtain ⟨f0, f1, f2, f3, f4, f5⟩ := hf it (by simp)
    have hl := rv.length
    exact wpAny_pyNext_list_end (I.ok.hd hc) st p.isList (by simp; omega) fun h' eb => ⟨rfl, I.turned (t' := s.toks) (fun b o hb e => eb b o hb e) f0 f1 f3 f4 f5⟩
  self := fun _ _ _ _ _ st h => wpAny_pyIter_listiter st h
theorem turn_tuple {P : Program} {w : World} {K : PySem.W.Frag} {tg : Expr} (a it : Addr) : Turn P w K tg (Itt K a) [it] it (fun i h => h.IsTupleIter it a i) where
  mem := by simp
  obj := fun i h st b hb => by
    have e : b = it := by simpa using hb
    subst e
    obtain ⟨o, e, c, d⟩ := st
    exact ⟨o, e, fun v z => by rw [d] at z; cases z⟩
  keep := fun i h h' st k => st.at fun o e => k it (by simp) o e
  item := by
    intro X hP hw hK hc i pins s σ H E I hf st hg
    subst hP hw hK
    obtain ⟨xs, x, hq, hx⟩ := hg
    obtain ⟨its, rv, p, hz⟩ := I.tuple hq
    obtain ⟨u, hu, ru⟩ := rv.get hx
    obtain ⟨f0, f1, f2, f3, f4, f5⟩ := hf it (by simp)
    refine wpAny_pyNext_tuple_item st (show s.heap.IsTuple a its.toArray from p) (x := u) (by simpa using hu) fun h' st' sb => ?_
    have I1 : Inv X pins σ H { s with heap := h' } := I.turned (t' := s.toks) (fun b o hb e => (sb.2 b hb).trans e) f0 f1 f3 f4 f5
    obtain ⟨o, e, c, d⟩ := id st'
    exact ⟨u, rfl, go_of (s := { s with heap := h' }) e c d (by decide) ⟨x, H, I1, ru, ⟨rfl, fun ys hy => by rw [I.tuple_inj hy hq]; exact hx⟩, st', fun b hb => (hf b hb).1⟩⟩
  done := by
    intro X hP hw hK hc i pins s σ H E I hf st hg
    subst hP hw hK
    obtain ⟨xs, hq, hx⟩ := hg
    obtain ⟨its, rv, p, hz⟩ := I.tuple hq
    obtain ⟨f0, f1, f2, f3, f4, f5⟩ := hf it (by simp)
    have hl := rv.length
    exact wpAny_pyNext_tuple_end (I.ok.hd hc) st (show s.heap.IsTuple a its.toArray from p) (by simp; omega) fun h' eb => ⟨rfl, I.turned (t' := s.toks) (fun b o hb e => eb b o hb e) f0 f1 f3 f4 f5⟩
  self := fun _ _ _ _ _ st h => wpAny_pyIter_tupleiter st h
theorem turn_range {P : Program} {w : World} {K : PySem.W.Frag} {tg : Expr} (it : Addr) (lo : Int) (n : Nat) : Turn P w K tg (Itr lo n) [it] it (fun i h => IsRangeIter h it (lo + (i : Nat) * 1) ((n : Int) - (i : Nat)) 1) where
  mem := by simp
  obj := fun i h st b hb => by
    have e : b = it := by simpa using hb
    subst e
    exact ⟨_, st, fun v z => by
      have z' : Data.fields _ = Data.cell v := z
      cases z'⟩
  keep := fun i h h' st k => k it (by simp) _ st
  item := by
    intro X hP hw hK hc i pins s σ H E I hf st hg
    subst hP hw hK
    obtain ⟨f0, f1, f2, f3, f4, f5⟩ := hf it (by simp)
    have W := Walks.range (prog := X.prog) (w := X.w) (I.ok.hd hc) it lo 1 n
    refine W.item i s _ _ hg st fun v h' tk hv st' kk => ?_
    obtain ⟨t, rfl⟩ := hv
    have I1 : Inv X pins σ H { s with heap := h', toks := tk } := I.turned (fun b o hb e => kk b o (by simpa using hb) e) f0 f1 f3 f4 f5
    refine ⟨_, rfl, go_of (s := { s with heap := h', toks := tk }) (n := "range_iterator") st' rfl rfl (by decide) ⟨.int (lo + i), H, I1, ⟨t, ?_⟩, ⟨rfl, rfl⟩, st', fun b hb => (hf b hb).1⟩⟩
    rw [Int.mul_one]
  done := by
    intro X hP hw hK hc i pins s σ H E I hf st hg
    subst hP hw hK
    obtain ⟨f0, f1, f2, f3, f4, f5⟩ := hf it (by simp)
    exact wpAny_pyNext_range_end (I.ok.hd hc) st (by have : n ≤ i := hg; omega) fun h' eb => ⟨rfl, I.turned (t' := s.toks) (fun b o hb e => eb b o hb e) f0 f1 f3 f4 f5⟩
  self := fun _ _ _ _ _ st h => wpAny_pyIter_rangeiter st h
end L2
namespace L2
open PySem PySem.Spec PyProof.Rows
section
variable {X : Cx} {tg : Expr}
def iList (K : PySem.W.Frag) (tl : TE) : TI := fun σ H R => tl σ H fun x H1 => ∃ a, x = .ref a ∧ (∃ xs, SqL K H1 a xs) ∧ R (Itl K a) H1
def iTup (K : PySem.W.Frag) (tl : TE) : TI := fun σ H R => tl σ H fun x H1 => ∃ a, x = .ref a ∧ (∃ xs, SqT K H1 a xs) ∧ R (Itt K a) H1
theorem pi_list {l : Expr} {tl : TE} (hl : PE X l tl) : PI X tg l (iList X.K tl) := by
  intro pins s σ H R I h
  refine thn (hl pins s σ H _ I h) fun v s1 ⟨x, H1, I1, r1, q1⟩ => ?_
  obtain ⟨a, e, ⟨xs, hq⟩, q⟩ := q1
  subst e
  cases r1
  obtain ⟨its, rv, p, hz⟩ := I1.list hq
  refine wpAny_pyIter_list p.isList ?_
  refine ⟨s1.heap.objs.size, [s1.heap.objs.size], _, _, H1, rfl, I1.kept (t' := s1.toks) fun b o e => Heap.get?_push_of_some _ e, turn_list a _, ⟨_, Heap.get?_push_size _ rfl, rfl, rfl⟩, fun b hb => ?_, q⟩
  have e : b = s1.heap.objs.size := by simpa using hb
  subst e
  exact I1.fpOk (Nat.le_refl _) (I1.hok.fresh (Nat.le_refl _))
theorem pi_tup {l : Expr} {tl : TE} (hl : PE X l tl) : PI X tg l (iTup X.K tl) := by
  intro pins s σ H R I h
  refine thn (hl pins s σ H _ I h) fun v s1 ⟨x, H1, I1, r1, q1⟩ => ?_
  obtain ⟨a, e, ⟨xs, hq⟩, q⟩ := q1
  subst e
  cases r1
  obtain ⟨its, rv, p, hz⟩ := I1.tuple hq
  refine wpAny_pyIter_tuple (show s1.heap.IsTuple a its.toArray from p) ?_
  refine ⟨s1.heap.objs.size, [s1.heap.objs.size], _, _, H1, rfl, I1.kept (t' := s1.toks) fun b o e => Heap.get?_push_of_some _ e, turn_tuple a _, ⟨_, Heap.get?_push_size _ rfl, rfl, rfl⟩, fun b hb => ?_, q⟩
  have e : b = s1.heap.objs.size := by simpa using hb
  subst e
  exact I1.fpOk (Nat.le_refl _) (I1.hok.fresh (Nat.le_refl _))
/-- a range object just made, walked -/
theorem range_it {pins : List (Addr × Obj)} {σ : St} {H : Hp} {s : Shared} {R : It → Hp → Prop} {E : Value → Shared → Prop} {lo hi : Int} {t u v : Tok} {tk : Nat} (I : Inv X pins σ H s) (h1 : -(2 ^ 62) ≤ lo) (h2 : lo < 2 ^ 62) (h3 : -(2 ^ 62) ≤ hi) (h4 : hi < 2 ^ 62)
    (q : R (Itr lo (hi - lo).toNat) H) : wpAny (model X.prog X.w) X.A (pyIter (.ref s.heap.objs.size)) (PIE X pins σ tg R) E { s with heap := s.heap.push { cls := .type "range", data := .fields #[.int lo t, .int hi u, .int 1 v] }, toks := tk } := by
  refine wpAny_pyIter_range (IsRange.new ..) (small_one h1 h2 h3 h4) ?_
  have I1 : Inv X pins σ H { s with heap := s.heap.push { cls := .type "range", data := .fields #[.int lo t, .int hi u, .int 1 v] }, toks := tk } := I.kept fun b o e => Heap.get?_push_of_some _ e
  refine ⟨(s.heap.push { cls := .type "range", data := .fields #[.int lo t, .int hi u, .int 1 v] }).objs.size, [(s.heap.push { cls := .type "range", data := .fields #[.int lo t, .int hi u, .int 1 v] }).objs.size], _, _, H, rfl,
    I1.kept (t' := tk) fun b o e => Heap.get?_push_of_some _ e, turn_range _ lo (hi - lo).toNat, ?_, fun b hb => ?_, q⟩
  · have e1 : lo + ((0 : Nat) : Int) * 1 = lo := by simp
    have e2 : (((hi - lo).toNat : Nat) : Int) - ((0 : Nat) : Int) = Builtin.Range.rangeSize lo hi 1 := by rw [rangeSize_one]; split <;> omega
    show IsRangeIter _ _ (lo + ((0 : Nat) : Int) * 1) ((((hi - lo).toNat : Nat) : Int) - ((0 : Nat) : Int)) 1
    rw [e1, e2]
    exact Heap.get?_push_size _ rfl
  · have e : b = (s.heap.push { cls := .type "range", data := .fields #[.int lo t, .int hi u, .int 1 v] }).objs.size := by simpa using hb
    subst e
    exact I1.fpOk (Nat.le_refl _) (I1.hok.fresh (Nat.le_refl _))
def iRng1 (ta : TA) : TI := fun σ H R => ta σ H fun vs H1 => ∃ j : Int, vs = [.int j] ∧ -(2 ^ 62) ≤ j ∧ j < 2 ^ 62 ∧ R (Itr 0 j.toNat) H1
theorem pi_range1 {a : Expr} {ta : TA} {p pos : Pos} (hg : Gl X "range") (hm : X.mg "range" = none) (ha : PA X [a] ta) (hs : starEach [a] X.env = [(false, eval a X.env)] := by rfl) : PI X tg (.Call (.Name "range" p) [a] [] pos) (iRng1 ta) := by
  intro pins s σ H R I h
  refine Call_ (ld_blt I hg hm boot_range (PyProof.Rows.callWith_type1 (thn (ha pos pins s σ H _ I h) fun us s1 ⟨vs, H1, I1, r1, q1⟩ => ?_) hs rfl))
  obtain ⟨j, e, q1, q2, q⟩ := q1
  subst e
  cases r1 with
  | cons r rr =>
    cases rr
    obtain ⟨t, rfl⟩ := r
    exact call_range_1 (range_it I1 (by omega) (by omega) q1 q2 (by simpa using q))
/-! ### for -/
/-- W: the invariant by the turn and a measure; N: what the body is to reach -/
def tFor (wi : TI) (g : TG) (tb : TS) : TS := fun D σ H => wi σ H fun J H1 => ∃ W : Nat → Nat → St → Hp → Prop, (∃ m, W 0 m σ H1) ∧ ∀ i m σ H, W i m σ H →
  (J.stop i H ∧ D.nx σ H) ∨ (J.go i H ∧ ∃ N : St → Hp → Prop, (∀ σ' H', N σ' H' → ∃ m', m' < m ∧ W (i + 1) m' σ' H') ∧ ∀ x H', J.yld i H x H' → g x σ H' fun σ2 H2 => tb { D with nx := N, ct := N, bk := D.nx } σ2 H2)
/-- the records at fp as they stand -/
def pinsAt (fp : List Addr) (h : Heap) : List (Addr × Obj) := fp.filterMap fun b => (h.get? b).map fun o => (b, o)
theorem mem_pinsAt {fp : List Addr} {h : Heap} {b : Addr} {o : Obj} (hb : b ∈ fp) (e : h.get? b = some o) : (b, o) ∈ pinsAt fp h := List.mem_filterMap.mpr ⟨b, hb, by rw [e]; rfl⟩
theorem of_pinsAt {fp : List Addr} {h : Heap} {p : Addr × Obj} (hp : p ∈ pinsAt fp h) : p.1 ∈ fp ∧ h.get? p.1 = some p.2 := by
  obtain ⟨b, hb, e⟩ := List.mem_filterMap.mp hp
  cases q : h.get? b with
  | none => rw [q] at e; cases e
  | some o =>
    rw [q] at e
    have e' : (b, o) = p := Option.some.inj e
    subst e'
    exact ⟨hb, q⟩
theorem Inv.pinned {pins : List (Addr × Obj)} {σ : St} {H : Hp} {s : Shared} {fp : List Addr} (I : Inv X pins σ H s) (hf : ∀ b ∈ fp, FpOk X pins H b) (ho : ∀ b ∈ fp, ∃ o, s.heap.get? b = some o ∧ ∀ v, o.data ≠ .cell v) : Inv X (pins ++ pinsAt fp s.heap) σ H s :=
  I.pins_of fun p hp => (List.mem_append.mp hp).elim (fun z => I.pin p (List.mem_append_right _ z)) fun z => by
    obtain ⟨hb, e⟩ := of_pinsAt z
    obtain ⟨f0, f1, f2, _⟩ := hf p.1 hb
    obtain ⟨o, e', d⟩ := ho p.1 hb
    rw [e] at e'; cases e'
    exact ⟨e, f0, f1, f2, d⟩
theorem Inv.unpinned {pins pl : List (Addr × Obj)} {σ : St} {H : Hp} {s : Shared} (I : Inv X (pins ++ pl) σ H s) : Inv X pins σ H s := I.pins_of fun p hp => I.pin p (List.mem_append_right _ (List.mem_append_left _ hp))
theorem ps_for {iter : Expr} {body : List Stmt} {wi : TI} {g : TG} {tb : TS} {pos : Pos} (hp : PassesOwn (model X.prog X.w) X.A X.env X.xe) (hc : X.calm = true) (hi : PI X tg iter wi) (hg : PG X tg g) (hb : PSs X body tb)
    (hs : ∀ x, foldedSetIterable iter X.env x = pure x := by intro _; rfl) : PS X (.For tg iter body [] pos) (tFor wi g tb) := by
  intro pins s σ H D I h
  refine wpAny_For (thn (hi pins s σ H _ I h) fun v s1 h1 => thn h1 fun itv s2 h2 => ?_) hs
  obtain ⟨it, fp, tn, J, H2, e, I2, T, st2, f2, W, ⟨m0, w0⟩, turn⟩ := h2
  subst e
  -- what stays true of the iterator's objects through the loop
  have stat : ∀ {H' : Hp}, (∀ b ∈ fp, H' b = none) → ∀ b ∈ fp, FpOk X pins H' b := fun hn b hb => ⟨hn b hb, (f2 b hb).2⟩
  refine codeAny_forLoop_any (fun n s' => ∃ i σ' H', Inv X pins σ' H' s' ∧ tn i s'.heap ∧ (∀ b ∈ fp, H' b = none) ∧ W i n σ' H') ?_ m0 ⟨0, σ, H2, I2, st2, fun b hb => (f2 b hb).1, w0⟩
  rintro n s3 ⟨i, σ3, H3, I3, st3, fr3, w3⟩
  rcases turn i n σ3 H3 w3 with ⟨stop, qn⟩ | ⟨go, N, hN, step⟩
  · refine wpAny_passesOwn hp (thn (T.done X rfl rfl rfl hc i pins s3 σ3 H3 X.xe I3 (stat fr3) st3 stop) fun r s4 ⟨hr, I4⟩ => ?_)
    subst hr
    exact wpAny_execs_nil ⟨σ3, H3, I4, qn⟩
  · refine wpAny_passesOwn hp (thn (T.item X rfl rfl rfl hc i pins s3 σ3 H3 X.xe I3 (stat fr3) st3 go) fun r s4 ⟨u, hr, h4⟩ => ?_)
    subst hr
    refine wpAny_passesOwn hp (thn h4 fun _ s5 ⟨x, H5, I5, r5, y5, st5, fr5⟩ => ?_)
    have I5' := I5.pinned (stat fr5) (T.obj _ _ st5)
    refine wpAny_passesOwn hp (thn (hg _ s5 σ3 H5 x u _ I5' r5 (step x H5 y5)) fun _ s6 ⟨σ6, H6, I6, q6⟩ => ?_)
    refine wpAny_passesOwn hp (thn (hb _ s6 σ6 H6 _ I6 q6) fun f s7 q7 => ?_)
    have again : ∀ {σ7 : St} {H7 : Hp}, Inv X (pins ++ pinsAt fp s5.heap) σ7 H7 s7 → N σ7 H7 → ∃ m, m < n ∧ ∃ i σ' H', Inv X pins σ' H' s7 ∧ tn i s7.heap ∧ (∀ b ∈ fp, H' b = none) ∧ W i m σ' H' := fun {σ7 H7} I7 n7 => by
      obtain ⟨m', hm, w7⟩ := hN σ7 H7 n7
      refine ⟨m', hm, i + 1, σ7, H7, I7.unpinned, T.keep _ _ _ st5 fun b hb o e => (I7.pin (b, o) (List.mem_append_right _ (List.mem_append_right _ (mem_pinsAt hb e)))).1, fun b hb => ?_, w7⟩
      obtain ⟨o, e, d⟩ := T.obj _ _ st5 b hb
      exact (I7.pin (b, o) (List.mem_append_right _ (List.mem_append_right _ (mem_pinsAt hb e)))).2.1
    cases f with
    | next => obtain ⟨σ7, H7, I7, n7⟩ := q7; exact again I7 n7
    | cont => obtain ⟨σ7, H7, I7, n7⟩ := q7; exact again I7 n7
    | brk => obtain ⟨σ7, H7, I7, q7⟩ := q7; exact ⟨σ7, H7, I7.unpinned, q7⟩
    | ret v => obtain ⟨x7, σ7, H7, I7, r7, q7⟩ := q7; exact ⟨x7, σ7, H7, I7.unpinned, r7, q7⟩
end
/-! ### the forms one uses -/
/-- over a list that the body leaves as it is -/
theorem for_list {K : PySem.W.Frag} {a : Addr} {xs : List V} {g : TG} {tb : TS} {D : Ends} {σ : St} {H : Hp} (Pv : Nat → St → Hp → Prop) (h0 : Pv 0 σ H) (hl : ∀ i σ H, i ≤ xs.length → Pv i σ H → SqL K H a xs)
    (hs : ∀ i x σ H, xs[i]? = some x → Pv i σ H → g x σ H fun σ2 H2 => tb { D with nx := Pv (i + 1), ct := Pv (i + 1), bk := D.nx } σ2 H2) (hd : ∀ σ H, Pv xs.length σ H → D.nx σ H) :
    ∃ W : Nat → Nat → St → Hp → Prop, (∃ m, W 0 m σ H) ∧ ∀ i m σ H, W i m σ H →
      ((Itl K a).stop i H ∧ D.nx σ H) ∨ ((Itl K a).go i H ∧ ∃ N : St → Hp → Prop, (∀ σ' H', N σ' H' → ∃ m', m' < m ∧ W (i + 1) m' σ' H') ∧ ∀ x H', (Itl K a).yld i H x H' → g x σ H' fun σ2 H2 => tb { D with nx := N, ct := N, bk := D.nx } σ2 H2) := by
  refine ⟨fun i m σ H => m = xs.length - i ∧ i ≤ xs.length ∧ Pv i σ H, ⟨xs.length, by simp, Nat.zero_le _, h0⟩, ?_⟩
  rintro i m σ H ⟨rfl, hi, p⟩
  have q := hl i σ H hi p
  by_cases hlt : i < xs.length
  · refine .inr ⟨⟨xs, xs[i], q, by simp [hlt]⟩, Pv (i + 1), fun σ' H' p' => ⟨xs.length - (i + 1), by omega, rfl, hlt, p'⟩, fun x H' y => ?_⟩
    obtain ⟨e, y⟩ := y
    subst e
    exact hs i x σ _ (y xs q) p
  · have e : i = xs.length := by omega
    subst e
    exact .inl ⟨⟨xs, q, Nat.le_refl _⟩, hd σ H p⟩
theorem for_tup {K : PySem.W.Frag} {a : Addr} {xs : List V} {g : TG} {tb : TS} {D : Ends} {σ : St} {H : Hp} (Pv : Nat → St → Hp → Prop) (h0 : Pv 0 σ H) (hl : ∀ i σ H, i ≤ xs.length → Pv i σ H → SqT K H a xs)
    (hs : ∀ i x σ H, xs[i]? = some x → Pv i σ H → g x σ H fun σ2 H2 => tb { D with nx := Pv (i + 1), ct := Pv (i + 1), bk := D.nx } σ2 H2) (hd : ∀ σ H, Pv xs.length σ H → D.nx σ H) :
    ∃ W : Nat → Nat → St → Hp → Prop, (∃ m, W 0 m σ H) ∧ ∀ i m σ H, W i m σ H →
      ((Itt K a).stop i H ∧ D.nx σ H) ∨ ((Itt K a).go i H ∧ ∃ N : St → Hp → Prop, (∀ σ' H', N σ' H' → ∃ m', m' < m ∧ W (i + 1) m' σ' H') ∧ ∀ x H', (Itt K a).yld i H x H' → g x σ H' fun σ2 H2 => tb { D with nx := N, ct := N, bk := D.nx } σ2 H2) := by
  refine ⟨fun i m σ H => m = xs.length - i ∧ i ≤ xs.length ∧ Pv i σ H, ⟨xs.length, by simp, Nat.zero_le _, h0⟩, ?_⟩
  rintro i m σ H ⟨rfl, hi, p⟩
  have q := hl i σ H hi p
  by_cases hlt : i < xs.length
  · refine .inr ⟨⟨xs, xs[i], q, by simp [hlt]⟩, Pv (i + 1), fun σ' H' p' => ⟨xs.length - (i + 1), by omega, rfl, hlt, p'⟩, fun x H' y => ?_⟩
    obtain ⟨e, y⟩ := y
    subst e
    exact hs i x σ _ (y xs q) p
  · have e : i = xs.length := by omega
    subst e
    exact .inl ⟨⟨xs, q, Nat.le_refl _⟩, hd σ H p⟩
theorem for_range {lo : Int} {n : Nat} {g : TG} {tb : TS} {D : Ends} {σ : St} {H : Hp} (Pv : Nat → St → Hp → Prop) (h0 : Pv 0 σ H)
    (hs : ∀ i σ H, i < n → Pv i σ H → g (.int (lo + i)) σ H fun σ2 H2 => tb { D with nx := Pv (i + 1), ct := Pv (i + 1), bk := D.nx } σ2 H2) (hd : ∀ σ H, Pv n σ H → D.nx σ H) :
    ∃ W : Nat → Nat → St → Hp → Prop, (∃ m, W 0 m σ H) ∧ ∀ i m σ H, W i m σ H →
      ((Itr lo n).stop i H ∧ D.nx σ H) ∨ ((Itr lo n).go i H ∧ ∃ N : St → Hp → Prop, (∀ σ' H', N σ' H' → ∃ m', m' < m ∧ W (i + 1) m' σ' H') ∧ ∀ x H', (Itr lo n).yld i H x H' → g x σ H' fun σ2 H2 => tb { D with nx := N, ct := N, bk := D.nx } σ2 H2) := by
  refine ⟨fun i m σ H => m = n - i ∧ i ≤ n ∧ Pv i σ H, ⟨n, by simp, Nat.zero_le _, h0⟩, ?_⟩
  rintro i m σ H ⟨rfl, hi, p⟩
  by_cases hlt : i < n
  · refine .inr ⟨hlt, Pv (i + 1), fun σ' H' p' => ⟨n - (i + 1), by omega, rfl, hlt, p'⟩, fun x H' y => ?_⟩
    obtain ⟨e, y⟩ := y
    subst e y
    exact hs i σ _ hlt p
  · have e : i = n := by omega
    subst e
    exact .inl ⟨Nat.le_refl _, hd σ H p⟩
end L2
namespace L2
open PySem PySem.Spec PyProof.Rows
abbrev R2 := V → V → Hp → VK → Prop
/-- a two-place operation on values: f is binaryOp op, inplaceOp op or compareOp op -/
def OpR (X : Cx) (f : Value → Value → Sem Value) (r : R2) : Prop :=
  ∀ (pins : List (Addr × Obj)) (s : Shared) (σ : St) (H : Hp) (x y : V) (v u : Value) (Q : VK), Inv X pins σ H s → RelV x v → RelV y u → r x y H Q →
    wpAny (model X.prog X.w) X.A (f v u) (EP X pins σ Q) X.xe s
/-- a one-place operation -/
def UnR (X : Cx) (f : Value → Sem Value) (r : V → Hp → VK → Prop) : Prop :=
  ∀ (pins : List (Addr × Obj)) (s : Shared) (σ : St) (H : Hp) (x : V) (v : Value) (Q : VK), Inv X pins σ H s → RelV x v → r x H Q →
    wpAny (model X.prog X.w) X.A (f v) (EP X pins σ Q) X.xe s
/-- a call of a value that is known (a builtin, a type) with values -/
def CallR (X : Cx) (f : Value) (r : List V → Hp → VK → Prop) : Prop :=
  ∀ (pins : List (Addr × Obj)) (s : Shared) (σ : St) (H : Hp) (xs : List V) (us : List Value) (Q : VK), Inv X pins σ H s → Vals xs us → r xs H Q →
    wpAny (model X.prog X.w) X.A (call f us) (EP X pins σ Q) X.xe s
/-- a value's truth -/
def TruR (X : Cx) (r : V → Hp → (Bool → Hp → Prop) → Prop) : Prop :=
  ∀ (pins : List (Addr × Obj)) (s : Shared) (σ : St) (H : Hp) (x : V) (v : Value) (Q : Bool → Hp → Prop), Inv X pins σ H s → RelV x v → r x H Q →
    wpAny (model X.prog X.w) X.A (truthy v) (TP X pins σ Q) X.xe s
def tOp (r : R2) (ta tb : TE) : TE := fun σ H Q => ta σ H fun x H1 => tb σ H1 fun y H2 => r x y H2 Q
def tUn (r : V → Hp → VK → Prop) (ta : TE) : TE := fun σ H Q => ta σ H fun x H1 => r x H1 Q
/-- ints in, under C, and a value out -/
def rI (C : Int → Int → Prop) (g : Int → Int → V) : R2 := fun x y H Q => ∃ i j, x = .int i ∧ y = .int j ∧ C i j ∧ Q (g i j) H
def rI0 (g : Int → Int → V) : R2 := fun x y H Q => ∃ i j, x = .int i ∧ y = .int j ∧ Q (g i j) H
def rU (g : Int → V) : V → Hp → VK → Prop := fun x H Q => ∃ i, x = .int i ∧ Q (g i) H
section
variable {X : Cx} {a b c : Expr} {ta tb tc : TE} {pos : Pos}
theorem binT (ha : PE X a ta) (hb : PE X b tb) {pins : List (Addr × Obj)} {s : Shared} {σ : St} {H : Hp} {R : V → V → Hp → Prop} (I : Inv X pins σ H s)
    (h : ta σ H fun x H1 => tb σ H1 fun y H2 => R x y H2) {Q : Value → Shared → Prop} {f : Value → Value → Sem Value}
    (hf : ∀ v u s2 x y H2, Inv X pins σ H2 s2 → RelV x v → RelV y u → R x y H2 → wpAny (model X.prog X.w) X.A (f v u) Q X.xe s2) :
    wpAny (model X.prog X.w) X.A (eval a X.env) (fun v s₁ => wpAny (model X.prog X.w) X.A (eval b X.env) (fun u s₂ => wpAny (model X.prog X.w) X.A (f v u) Q X.xe s₂) X.xe s₁) X.xe s := by
  refine thn (ha pins s σ H _ I h) fun v s1 ⟨x, H1, I1, r1, q1⟩ => ?_
  refine thn (hb pins s1 σ H1 _ I1 q1) fun u s2 ⟨y, H2, I2, r2, q2⟩ => ?_
  exact hf v u s2 x y H2 I2 r1 r2 q2
theorem pe_op {op : Operator} {r : R2} (ho : OpR X (binaryOp op) r) (ha : PE X a ta) (hb : PE X b tb) : PE X (.BinOp a op b pos) (tOp r ta tb) := by
  intro pins s σ H Q I h
  exact wpAny_BinOp (binT ha hb I h fun v u s2 x y H2 I2 rx ry q => ho pins s2 σ H2 x y v u Q I2 rx ry q)
theorem pe_un {op : UnaryOp} {r : V → Hp → VK → Prop} (ho : UnR X (unaryOp op) r) (ha : PE X a ta) : PE X (.UnaryOp op a pos) (tUn r ta) := by
  intro pins s σ H Q I h
  exact UnaryOp_ (thn (ha pins s σ H _ I h) fun v s1 ⟨x, H1, I1, r1, q1⟩ => ho pins s1 σ H1 x v Q I1 r1 q1)
/-! ### ints -/
theorem opI {f : Value → Value → Sem Value} {C : Int → Int → Prop} {g : Int → Int → Int}
    (rule : ∀ (i j : Int) (t u : Tok) (s : Shared) (Q : Value → Shared → Prop) (E : Value → Shared → Prop), C i j → Q (.int (g i j) s.toks) { s with toks := s.toks + 1 } → wpAny (model X.prog X.w) X.A (f (.int i t) (.int j u)) Q E s) :
    OpR X f (rI C fun i j => .int (g i j)) := by
  intro pins s σ H x y v u Q I rx ry h
  obtain ⟨i, j, rfl, rfl, hc, q⟩ := h
  obtain ⟨t, rfl⟩ := rx
  obtain ⟨t', rfl⟩ := ry
  exact rule i j t t' s _ _ hc ⟨.int (g i j), H, I.tok _, ⟨_, rfl⟩, q⟩
theorem opI0 {f : Value → Value → Sem Value} {g : Int → Int → Int}
    (rule : ∀ (i j : Int) (t u : Tok) (s : Shared) (Q : Value → Shared → Prop) (E : Value → Shared → Prop), Q (.int (g i j) s.toks) { s with toks := s.toks + 1 } → wpAny (model X.prog X.w) X.A (f (.int i t) (.int j u)) Q E s) :
    OpR X f (rI0 fun i j => .int (g i j)) := by
  intro pins s σ H x y v u Q I rx ry h
  obtain ⟨i, j, rfl, rfl, q⟩ := h
  obtain ⟨t, rfl⟩ := rx
  obtain ⟨t', rfl⟩ := ry
  exact rule i j t t' s _ _ ⟨.int (g i j), H, I.tok _, ⟨_, rfl⟩, q⟩
theorem opB0 {f : Value → Value → Sem Value} {g : Int → Int → Bool}
    (rule : ∀ (i j : Int) (t u : Tok) (s : Shared) (Q : Value → Shared → Prop) (E : Value → Shared → Prop), Q (.bool (g i j)) s → wpAny (model X.prog X.w) X.A (f (.int i t) (.int j u)) Q E s) :
    OpR X f (rI0 fun i j => .bl (g i j)) := by
  intro pins s σ H x y v u Q I rx ry h
  obtain ⟨i, j, rfl, rfl, q⟩ := h
  obtain ⟨t, rfl⟩ := rx
  obtain ⟨t', rfl⟩ := ry
  exact rule i j t t' s _ _ ⟨.bl (g i j), H, I, rfl, q⟩
def CDiv (i j : Int) : Prop := 0 < j ∧ j < 1073741824
def CMul (i j : Int) : Prop := (-(2 ^ 64) < i ∧ i < 2 ^ 64) ∨ (-(2 ^ 64) < j ∧ j < 2 ^ 64)
theorem CMul.ok {i j : Int} (h : CMul i j) : IntMulOk i j := by
  rcases h with ⟨h1, h2⟩ | ⟨h1, h2⟩
  · exact .of_left (intBits_le_64 h1 h2)
  · exact .of_right (intBits_le_64 h1 h2)
theorem op_add : OpR X (binaryOp .Add) (rI0 fun i j => .int (i + j)) := opI0 fun _ _ _ _ _ _ _ q => add_int q
theorem op_sub : OpR X (binaryOp .Sub) (rI0 fun i j => .int (i - j)) := opI0 fun _ _ _ _ _ _ _ q => sub_int q
theorem op_mul : OpR X (binaryOp .Mult) (rI CMul fun i j => .int (i * j)) := opI fun _ _ _ _ _ _ _ hc q => mul_int q hc.ok
/-- // by a positive divisor -/
theorem op_fdiv : OpR X (binaryOp .FloorDiv) (rI CDiv fun i j => .int (i / j)) := opI fun i j _ _ _ _ _ hc q => by
  have h1 : (0 : Int) < j := hc.1
  have h2 : j < 1073741824 := hc.2
  exact floordiv_int (by omega) (by rw [Int.fdiv_eq_ediv_of_nonneg i (by omega)]; exact q) (.inl (PyProof.noPylong_small (by omega)))
/-- % by a positive divisor of any size -/
theorem op_mod : OpR X (binaryOp .Mod) (rI (fun _ j => 0 < j) fun i j => .int (i % j)) := opI fun i j _ _ _ _ _ hc q => by
  have h1 : (0 : Int) < j := hc
  exact mod_int' (by omega) (by rw [Int.fmod_eq_emod_of_nonneg i (by omega)]; exact q)
theorem unI {f : Value → Sem Value} {g : Int → Int}
    (rule : ∀ (i : Int) (t : Tok) (s : Shared) (Q : Value → Shared → Prop) (E : Value → Shared → Prop), Q (.int (g i) s.toks) { s with toks := s.toks + 1 } → wpAny (model X.prog X.w) X.A (f (.int i t)) Q E s) :
    UnR X f (rU fun i => .int (g i)) := by
  intro pins s σ H x v Q I rx h
  obtain ⟨i, rfl, q⟩ := h
  obtain ⟨t, rfl⟩ := rx
  exact rule i t s _ _ ⟨.int (g i), H, I.tok _, ⟨_, rfl⟩, q⟩
theorem un_neg : UnR X (unaryOp .USub) (rU fun i => .int (-i)) := unI fun _ _ _ _ _ q => neg_int q
/-! ### bools among ints: n += (a < b) -/
end
/-! ### comparisons -/
/-- the scalars that == tells apart as data does -/
def scal : V → V → Bool
  | .non, .non => true | .non, .int _ => true | .int _, .non => true | .non, .bl _ => true | .bl _, .non => true | .non, .str _ => true | .str _, .non => true
  | .int _, .int _ => true | .bl _, .bl _ => true | .str _, .str _ => true | .byt _, .byt _ => true
  | .int _, .str _ => true | .str _, .int _ => true | .bl _, .str _ => true | .str _, .bl _ => true
  | _, _ => false
def rEq : R2 := fun x y H Q => scal x y = true ∧ Q (.bl (decide (x = y))) H
def rNe : R2 := fun x y H Q => scal x y = true ∧ Q (.bl (!decide (x = y))) H
theorem dec_int {i j : Int} : decide (V.int i = V.int j) = (i == j) := by
  rw [Bool.eq_iff_iff]
  simp
theorem dec_bl {i j : Bool} : decide (V.bl i = V.bl j) = (i == j) := by
  rw [Bool.eq_iff_iff]
  simp
theorem dec_str {i j : Str} : decide (V.str i = V.str j) = (i == j) := by
  rw [Bool.eq_iff_iff]
  simp
theorem dec_byt {i j : Array UInt8} : decide (V.byt i = V.byt j) = (i.toList == j.toList) := by
  rw [Bool.eq_iff_iff]
  cases i
  cases j
  simp
section
variable {X : Cx} {a b c : Expr} {ta tb tc : TE} {pos : Pos}
theorem fin_bl {pins : List (Addr × Obj)} {σ : St} {H : Hp} {s : Shared} {Q : VK} {k k' : Bool} (I : Inv X pins σ H s) (q : Q (.bl k) H) (e : k = k') : EP X pins σ Q (.bool k') s := by
  subst e
  exact ⟨.bl k, H, I, rfl, q⟩
theorem op_eq : OpR X (compareOp .Eq) rEq := by
  intro pins s σ H x y v u Q I rx ry h
  obtain ⟨hs, q⟩ := h
  cases x with
  | non =>
    cases rx
    cases y with
    | non => cases ry; exact PySem.EqNone.eq_none_none (fin_bl I q (by simp))
    | bl j => cases ry; exact PySem.EqNone.eq_none_bool (fin_bl I q (by simp))
    | int j => obtain ⟨t', rfl⟩ := ry; exact PySem.EqNone.eq_none_int (fin_bl I q (by simp))
    | str j => obtain ⟨t', rfl⟩ := ry; exact PySem.EqNone.eq_none_str (fin_bl I q (by simp))
    | _ => exact absurd (show false = true from hs) Bool.false_ne_true
  | bl i =>
    cases rx
    cases y with
    | non => cases ry; exact PySem.EqNone.eq_bool_none (fin_bl I q (by simp))
    | bl j => cases ry; exact eq_bool (fin_bl I q dec_bl)
    | str j => obtain ⟨t', rfl⟩ := ry; exact PySem.EqMixed.eq_bool_str (fin_bl I q (by simp))
    | _ => exact absurd (show false = true from hs) Bool.false_ne_true
  | int i =>
    obtain ⟨t, rfl⟩ := rx
    cases y with
    | non => cases ry; exact PySem.EqNone.eq_int_none (fin_bl I q (by simp))
    | int j => obtain ⟨t', rfl⟩ := ry; exact eq_int (fin_bl I q dec_int)
    | str j => obtain ⟨t', rfl⟩ := ry; exact PySem.EqMixed.eq_int_str (fin_bl I q (by simp))
    | _ => exact absurd (show false = true from hs) Bool.false_ne_true
  | str i =>
    obtain ⟨t, rfl⟩ := rx
    cases y with
    | non => cases ry; exact PySem.EqNone.eq_str_none (fin_bl I q (by simp))
    | bl j => cases ry; exact PySem.EqMixed.eq_str_bool (fin_bl I q (by simp))
    | int j => obtain ⟨t', rfl⟩ := ry; exact PySem.EqMixed.eq_str_int (fin_bl I q (by simp))
    | str j => obtain ⟨t', rfl⟩ := ry; exact eq_str (fin_bl I q dec_str)
    | _ => exact absurd (show false = true from hs) Bool.false_ne_true
  | byt i =>
    obtain ⟨t, rfl⟩ := rx
    cases y with
    | byt j => obtain ⟨t', rfl⟩ := ry; exact PySem.W.eq_bytes (fin_bl I q dec_byt)
    | _ => exact absurd (show false = true from hs) Bool.false_ne_true
  | _ => cases y <;> exact absurd (show false = true from hs) Bool.false_ne_true
theorem op_ne : OpR X (compareOp .NotEq) rNe := by
  intro pins s σ H x y v u Q I rx ry h
  obtain ⟨hs, q⟩ := h
  cases x with
  | non =>
    cases rx
    cases y with
    | non => cases ry; exact PySem.EqNone.ne_none_none (fin_bl I q (by simp))
    | bl j => cases ry; exact PySem.EqNone.ne_none_bool (fin_bl I q (by simp))
    | int j => obtain ⟨t', rfl⟩ := ry; exact PySem.EqNone.ne_none_int (fin_bl I q (by simp))
    | str j => obtain ⟨t', rfl⟩ := ry; exact PySem.EqNone.ne_none_str (fin_bl I q (by simp))
    | _ => exact absurd (show false = true from hs) Bool.false_ne_true
  | bl i =>
    cases rx
    cases y with
    | non => cases ry; exact PySem.EqNone.ne_bool_none (fin_bl I q (by simp))
    | bl j => cases ry; exact ne_bool (fin_bl I q (congrArg not dec_bl))
    | str j => obtain ⟨t', rfl⟩ := ry; exact PySem.EqMixed.ne_bool_str (fin_bl I q (by simp))
    | _ => exact absurd (show false = true from hs) Bool.false_ne_true
  | int i =>
    obtain ⟨t, rfl⟩ := rx
    cases y with
    | non => cases ry; exact PySem.EqNone.ne_int_none (fin_bl I q (by simp))
    | int j => obtain ⟨t', rfl⟩ := ry; exact ne_int (fin_bl I q (congrArg not dec_int))
    | str j => obtain ⟨t', rfl⟩ := ry; exact PySem.EqMixed.ne_int_str (fin_bl I q (by simp))
    | _ => exact absurd (show false = true from hs) Bool.false_ne_true
  | str i =>
    obtain ⟨t, rfl⟩ := rx
    cases y with
    | non => cases ry; exact PySem.EqNone.ne_str_none (fin_bl I q (by simp))
    | bl j => cases ry; exact PySem.EqMixed.ne_str_bool (fin_bl I q (by simp))
    | int j => obtain ⟨t', rfl⟩ := ry; exact PySem.EqMixed.ne_str_int (fin_bl I q (by simp))
    | str j => obtain ⟨t', rfl⟩ := ry; exact ne_str (fin_bl I q (congrArg not dec_str))
    | _ => exact absurd (show false = true from hs) Bool.false_ne_true
  | byt i =>
    obtain ⟨t, rfl⟩ := rx
    cases y with
    | byt j => obtain ⟨t', rfl⟩ := ry; exact PySem.W.ne_bytes (fin_bl I q (congrArg not dec_byt))
    | _ => exact absurd (show false = true from hs) Bool.false_ne_true
  | _ => cases y <;> exact absurd (show false = true from hs) Bool.false_ne_true
theorem op_lt : OpR X (compareOp .Lt) (rI0 fun i j => .bl (decide (i < j))) := opB0 fun _ _ _ _ _ _ _ q => lt_int q
theorem op_le : OpR X (compareOp .LtE) (rI0 fun i j => .bl (decide (i ≤ j))) := opB0 fun _ _ _ _ _ _ _ q => le_int q
theorem op_gt : OpR X (compareOp .Gt) (rI0 fun i j => .bl (decide (j < i))) := opB0 fun _ _ _ _ _ _ _ q => gt_int q
theorem op_ge : OpR X (compareOp .GtE) (rI0 fun i j => .bl (decide (j ≤ i))) := opB0 fun _ _ _ _ _ _ _ q => ge_int q
theorem nomark (b : Expr) {op : CmpOp} (h : op ≠ .In := by decide) (h2 : op ≠ .NotIn := by decide) : behindInMarks op b = false := by
  have e1 : (op == CmpOp.In) = false := by cases op <;> first | rfl | exact absurd rfl h
  have e2 : (op == CmpOp.NotIn) = false := by cases op <;> first | rfl | exact absurd rfl h2
  cases b <;> simp [behindInMarks, e1, e2]
/-- a comparison as a value; hm: nomark b, or (for in, not in) by with_unfolding_all rfl -/
theorem pe_cmpR {op : CmpOp} {r : R2} (ho : OpR X (compareOp op) r) (ha : PE X a ta) (hb : PE X b tb) (hm : behindInMarks op b = false) : PE X (.Compare a [op] [b] pos) (tOp r ta tb) := by
  intro pins s σ H Q I h
  exact wpAny_Compare1 (binT ha hb I h fun v u s2 x y H2 I2 rx ry q => ho pins s2 σ H2 x y v u Q I2 rx ry q) hm
/-- a reading of a value as a test -/
def tTest (t : TE) : TT := fun σ H Q => t σ H fun x H' => ∃ k, x = .bl k ∧ Q k H'
theorem pt_cmpR {op : CmpOp} {r : R2} (ho : OpR X (compareOp op) r) (ha : PE X a ta) (hb : PE X b tb) (hm : behindInMarks op b = false) : PT X (.Compare a [op] [b] pos) (tTest (tOp r ta tb)) := by
  intro pins s σ H Q I h
  refine wpAny_isTrue_Compare1 (thn (ha pins s σ H _ I h) fun v s1 ⟨x, H1, I1, r1, q1⟩ => thn (hb pins s1 σ H1 _ I1 q1) fun u s2 ⟨y, H2, I2, r2, q2⟩ =>
    thn (ho pins s2 σ H2 x y v u _ I2 r1 r2 q2) fun c s3 ⟨z, H3, I3, r3, k, e, q3⟩ => ?_) hm
  subst e
  cases r3
  exact wpAny_truthy_bool ⟨H3, I3, q3⟩
/-- a op1 b op2 c -/
def tChain (r r' : R2) (ta tb tc : TE) : TE := fun σ H Q => ta σ H fun x H1 => tb σ H1 fun y H2 => r x y H2 fun z H3 => ∃ k, z = .bl k ∧
  (if k = true then tc σ H3 fun w' H4 => r' y w' H4 Q else Q (.bl false) H3)
theorem pt_chain {op op' : CmpOp} {r r' : R2} (ho : OpR X (compareOp op) r) (ho' : OpR X (compareOp op') r') (ha : PE X a ta) (hb : PE X b tb) (hc : PE X c tc)
    (hm : lastMarks [op, op'] [b, c] = false := by with_unfolding_all rfl) : PT X (.Compare a [op, op'] [b, c] pos) (tTest (tChain r r' ta tb tc)) := by
  intro pins s σ H Q I h
  refine isTrue_chain (thn (ha pins s σ H _ I h) fun v s1 ⟨x, H1, I1, r1, q1⟩ => test_link (thn (hb pins s1 σ H1 _ I1 q1) fun u s2 ⟨y, H2, I2, r2, q2⟩ =>
    thn (ho pins s2 σ H2 x y v u _ I2 r1 r2 q2) fun d s3 ⟨z, H3, I3, r3, k, e, q3⟩ => ?_)) hm
  subst e
  cases r3
  refine wpAny_truthy_bool ?_
  cases k with
  | false =>
    obtain ⟨k', e', q'⟩ := q3
    cases e'
    exact ite_ff ⟨H3, I3, q'⟩
  | true =>
    refine ite_tt (test_last (thn (hc pins s3 σ H3 _ I3 q3) fun w' s4 ⟨z', H4, I4, r4, q4⟩ => thn (ho' pins s4 σ H4 y z' u w' _ I4 r2 r4 q4) fun d' s5 ⟨z2, H5, I5, r5, k2, e2, q5⟩ => ?_))
    subst e2
    cases r5
    exact wpAny_truthy_bool ⟨H5, I5, q5⟩
/-! ### truth -/
/-- a value's truth by the abstract heap -/
def TruV (K : PySem.W.Frag) (x : V) (H : Hp) (k : Bool) : Prop :=
  match x with
  | .non => k = false
  | .bl b => k = b
  | .int i => k = (i != 0)
  | .str y => y.length ≤ sizeLine ∧ k = ((y.length : Int) != 0)
  | .byt y => y.size ≤ sizeLine ∧ k = ((y.size : Int) != 0)
  | .ref p => (∃ xs, SqL K H p xs ∧ k = !xs.isEmpty) ∨ (∃ xs, SqT K H p xs ∧ k = !xs.isEmpty) ∨ ∃ kvs, H p = some (.dK kvs) ∧ k = !kvs.isEmpty
  | _ => False
theorem isEmpty_kv {κ : Type} {kvs : List (κ × V)} {vs : List (κ × Value)} (r : KV kvs vs) : (!vs.isEmpty) = !kvs.isEmpty := by
  cases r <;> rfl
theorem isEmpty_of {xs : List V} {its : List Value} (r : Vals xs its) : (!its.toArray.isEmpty) = !xs.isEmpty := by
  cases r <;> simp
theorem line63 : (sizeLine : Nat) < 2 ^ 63 := by rw [sizeLine_eq]; decide
theorem tru_ok : TruR X (fun x H Q => ∃ k, TruV X.K x H k ∧ Q k H) := by
  intro pins s σ H x v Q I rx h
  obtain ⟨k, e, q⟩ := h
  have hl := line63
  have hs : sizeLine = 16777216 := sizeLine_eq
  cases x with
  | non =>
    cases rx
    have e' : k = false := e
    subst e'
    exact truthy_none ⟨H, I, q⟩
  | bl b =>
    cases rx
    have e' : k = b := e
    subst e'
    exact wpAny_truthy_bool ⟨H, I, q⟩
  | int i =>
    obtain ⟨t, rfl⟩ := rx
    have e' : k = (i != 0) := e
    subst e'
    exact PySem.P.truthy_int ⟨H, I, q⟩
  | str y =>
    obtain ⟨t, rfl⟩ := rx
    obtain ⟨hy, e'⟩ : y.length ≤ sizeLine ∧ k = ((y.length : Int) != 0) := e
    subst e'
    exact PySem.P.truthy_str (by omega) ⟨H, I.tok _, q⟩
  | byt y =>
    obtain ⟨t, rfl⟩ := rx
    obtain ⟨hy, e'⟩ : y.size ≤ sizeLine ∧ k = ((y.size : Int) != 0) := e
    subst e'
    exact PySem.W.truthy_bytes (by omega) ⟨H, I.tok _, q⟩
  | ref p =>
    cases rx
    have e' : (∃ xs, SqL X.K H p xs ∧ k = !xs.isEmpty) ∨ (∃ xs, SqT X.K H p xs ∧ k = !xs.isEmpty) ∨ ∃ kvs, H p = some (.dK kvs) ∧ k = !kvs.isEmpty := e
    rcases e' with ⟨xs, hx, e'⟩ | ⟨xs, hx, e'⟩ | ⟨kvs, hx, e'⟩
    · subst e'
      obtain ⟨its, r, pl, hz⟩ := I.list hx
      have hlen := r.length
      exact wpAny_truthy_list pl.isList (by simp only [List.size_toArray]; omega) ⟨H, I.tok _, by rw [isEmpty_of r]; exact q⟩
    · subst e'
      obtain ⟨its, r, pl, hz⟩ := I.tuple hx
      have hlen := r.length
      exact truthy_tuple pl (by simp only [List.size_toArray]; omega) ⟨H, I.tok _, by rw [isEmpty_of r]; exact q⟩
    · subst e'
      obtain ⟨hz, hS, vs, r, m⟩ : kvs.length ≤ sizeLine ∧ (p == sysModules) = false ∧ ∃ vs, KV kvs vs ∧ s.heap.DictOf (mixKind X.prog X.w) p vs := I.hok p _ hx
      have hlen : kvs.length = vs.length := Paired.length r
      exact wpAny_truthy_dict hS m (by omega) ⟨H, I.tok _, by rw [isEmpty_kv r]; exact q⟩
  | _ => exact (show False from e).elim
/-- any expression whose test is its value's truth (a name, a call, a subscript, a field ..: he by fun _ => rfl) -/
theorem pt_truth (ha : PE X a ta) (he : ∀ whole, isTrue a X.env whole = (do let v ← whole; standAt a.pos; holding [v] (truthy v))) :
    PT X a (fun σ H Q => ta σ H fun x H' => ∃ k, TruV X.K x H' k ∧ Q k H') := by
  intro pins s σ H Q I h
  exact isTrue_plain (thn (ha pins s σ H _ I h) fun v s1 ⟨x, H1, I1, r1, q1⟩ => tru_ok pins s1 σ H1 x v Q I1 r1 q1) (he _)
/-! ### strs and bytes -/
theorem op_add_str : OpR X (binaryOp .Add) (fun x y H Q => ∃ i j, x = .str i ∧ y = .str j ∧ i.length + j.length ≤ sizeLine ∧ Q (.str (i ++ j)) H) := by
  intro pins s σ H x y v u Q I rx ry h
  obtain ⟨i, j, rfl, rfl, hz, q⟩ := h
  obtain ⟨t, rfl⟩ := rx
  obtain ⟨t', rfl⟩ := ry
  exact add_str (fun t' tk => ⟨.str (i ++ j), H, I.tok _, ⟨_, rfl⟩, q⟩) hz
theorem iop_add_str : OpR X (inplaceOp .Add) (fun x y H Q => ∃ i j, x = .str i ∧ y = .str j ∧ i.length + j.length ≤ sizeLine ∧ Q (.str (i ++ j)) H) := by
  intro pins s σ H x y v u Q I rx ry h
  obtain ⟨i, j, rfl, rfl, hz, q⟩ := h
  obtain ⟨t, rfl⟩ := rx
  obtain ⟨t', rfl⟩ := ry
  exact iadd_str (fun t' tk => ⟨.str (i ++ j), H, I.tok _, ⟨_, rfl⟩, q⟩) hz
/-! ### scalar builtins, by CallR -/
theorem vals1 {x : V} {us : List Value} (r : Vals [x] us) : ∃ u, us = [u] ∧ RelV x u := by
  cases r with
  | cons r1 r2 => cases r2; exact ⟨_, rfl, r1⟩
theorem vals2 {x y : V} {us : List Value} (r : Vals [x, y] us) : ∃ u w', us = [u, w'] ∧ RelV x u ∧ RelV y w' := by
  cases r with
  | cons r1 r2 =>
    cases r2 with
    | cons r3 r4 => cases r4; exact ⟨_, _, rfl, r1, r3⟩
theorem call_str_int : CallR X (.type "str") (fun xs H Q => ∃ i, xs = [.int i] ∧ i.natAbs.log2 < 1920 ∧ Q (.str (toString i)) H) := by
  intro pins s σ H xs us Q I r h
  obtain ⟨i, rfl, hz, q⟩ := h
  obtain ⟨u, rfl, t, rfl⟩ := vals1 r
  exact PySem.P.str_of_int hz ⟨.str _, H, I.tok _, ⟨_, rfl⟩, q⟩
theorem call_ord : CallR X (.builtin "ord") (fun xs H Q => ∃ x, xs = [.str x] ∧ x.length = 1 ∧ Q (.int (x.cps.getD 0 0 : Nat)) H) := by
  intro pins s σ H xs us Q I r h
  obtain ⟨x, rfl, hz, q⟩ := h
  obtain ⟨u, rfl, t, rfl⟩ := vals1 r
  exact ord_of_one hz ⟨.int _, H, I.tok _, ⟨_, rfl⟩, q⟩
end
end L2
namespace L2
open PySem PySem.Spec PyProof.Rows
/-! ### an instance, its attributes a map -/
section
variable {prog : Program} {w : World} {A : Around} {E : Value → Shared → Prop} {s : Shared} {K : PySem.W.Frag} {x dx C f : Addr} {mA : Str → Option Value} {name : Str} {v : Value}
end
/-! ### the attributes as a list of pairs -/
theorem RelO.some_of {v : V} {o : Option Value} (r : RelO (some v) o) : ∃ u, o = some u ∧ RelV v u := by
  cases o with
  | none => exact (show False from r).elim
  | some u => exact ⟨u, rfl, r⟩
section
variable {P : Program} {w : World} {H H' : Hp} {h h' : Heap} {a C dx : Addr} {fs fs' : List (Str × V)}
end
/-! ### what of the text a class must have -/
section
variable {X : Cx} {pins : List (Addr × Obj)} {σ : St} {H : Hp} {s : Shared} {a C dx : Addr} {fs : List (Str × V)} {f : Str} {v : V} {A : Around} {E : Value → Shared → Prop}
end
/-! ### readings and rules -/
section
variable {X : Cx} {o e value : Expr} {f : Str} {pos pos' tpos : Pos} {ta tv : TE}
end
/-! ### isinstance -/
section
variable {X : Cx} {pins : List (Addr × Obj)} {σ : St} {H : Hp} {s : Shared} {A : Around} {E : Value → Shared → Prop} {Q : Value → Shared → Prop} {c : Value} {b : Bool}
end
end L2
namespace L2
open PySem PySem.Spec PyProof.Rows
/-! ### room -/
structure Room (k : Nat) (A : Around) : Prop where
  hd : A.handled = none
  dp : A.depth + 3 * k + 5 < recursionLimit
  un : A.units + 16 * k + 200 < cLine
theorem Room.mono {j k : Nat} {A : Around} (r : Room k A) (h : j ≤ k) : Room j A := ⟨r.hd, by have := r.dp; omega, by have := r.un; omega⟩
theorem Room.deeper {k : Nat} {A : Around} (r : Room (k + 1) A) (env : Env) : Room k (A.deeper env) :=
  ⟨r.hd, by have := r.dp; show A.depth + 1 + 3 * k + 5 < _; omega, by have := r.un; show A.units + 3 + 16 * k + 200 < _; omega⟩
theorem Room.depth {k : Nat} {A : Around} (r : Room k A) : A.depth < recursionLimit := by have := r.dp; omega
theorem Room.units {k : Nat} {A : Around} (r : Room k A) : A.units + 64 < cLine := by have := r.un; omega
/-! ### argument lists and displays -/
def tNil : TA := fun _ H Q => Q [] H
def tCons (ta : TE) (tr : TA) : TA := fun σ H Q => ta σ H fun x H1 => tr σ H1 fun xs H2 => Q (x :: xs) H2
section
variable {X : Cx} {e : Expr} {es : List Expr} {te : TE} {t : TA} {pos : Pos}
theorem pa_nil : PA X [] tNil := fun _ _ _ _ H Q I h => Calls.spliced_nil ⟨[], H, I, .nil, h⟩
theorem pa_cons (ha : PE X e te) (hr : PA X es t) (hs : starEach (e :: es) X.env = (false, eval e X.env) :: starEach es X.env := by rfl) : PA X (e :: es) (tCons te t) := by
  intro pos pins s σ H Q I h
  rw [hs]
  show wpAny _ _ (spliced ((false, eval e X.env) :: backTo pos (starEach es X.env))) _ _ s
  refine Calls.spliced_cons (thn (ha pins s σ H _ I h) fun u s1 ⟨x, H1, I1, r1, q1⟩ => ?_)
  exact thn (hr pos pins s1 σ H1 _ I1 q1) fun us s2 ⟨xs, H2, I2, r2, q2⟩ => ⟨x :: xs, H2, I2, .cons r1 r2, q2⟩
/-- a tuple, a list of written items -/
def tTup (t : TA) : TE := fun σ H Q => t σ H fun xs H1 => xs.length ≤ sizeLine ∧ ∀ p, H1 p = none → Q (.ref p) (upd H1 p (.tup xs))
def tLst (t : TA) : TE := fun σ H Q => t σ H fun xs H1 => xs.length ≤ sizeLine ∧ ∀ p, H1 p = none → Q (.ref p) (upd H1 p (.lst xs))
theorem pe_tup {x1} (h : PA X es t) : PE X (.Tuple es x1 pos) (tTup t) := by
  intro pins s σ H Q I hq
  refine wpAny_Tuple_spliced (thn (h pos pins s σ H _ I hq) fun us s1 ⟨xs, H1, I1, r, z, q⟩ => ⟨by rw [← r.length]; exact z, ?_⟩)
  have hf : H1 s1.heap.objs.size = none := I1.hok.fresh (Nat.le_refl _)
  refine ⟨.ref s1.heap.objs.size, upd H1 s1.heap.objs.size (.tup xs), I1.laid (t' := s1.toks) (fun b u e => Heap.get?_push_of_some _ e) (Nat.le_refl _) ?_, rfl, q _ hf⟩
  exact ⟨z, us, r, ⟨_, Heap.get?_push_size _ rfl, rfl, _, rfl⟩⟩
theorem pe_lst (h : PA X es t) : PE X (.List es pos) (tLst t) := by
  intro pins s σ H Q I hq
  refine wpAny_List_spliced (thn (h pos pins s σ H _ I hq) fun us s1 ⟨xs, H1, I1, r, z, q⟩ => ⟨by rw [← r.length]; exact z, ?_⟩)
  have hf : H1 s1.heap.objs.size = none := I1.hok.fresh (Nat.le_refl _)
  refine ⟨.ref s1.heap.objs.size, upd H1 s1.heap.objs.size (.lst xs), I1.laid (t' := s1.toks) (fun b u e => Heap.get?_push_of_some _ e) (Nat.le_refl _) ?_, rfl, q _ hf⟩
  exact ⟨z, us, 0, r, Heap.get?_push_size _ rfl⟩
end
/-! ### what a def promises -/
/-- a def's promise: the bound arguments in the parameters' order, the heap, the wanted end, the wanted exception -/
abbrev Sp := List V → Hp → VK → XK → Prop
/-- how an exception lies behind a call (file 08 gives it): the callers' frames, abstract heap and state ahead of the call, the wish, the exception, the state -/
abbrev CXT := List Env → Hp → Shared → XK → Value → Shared → Prop
/-- the state at a call -/
structure Env0 (P : Program) (w : World) (K : PySem.W.Frag) (mg : Str → Option Value) (base : Heap) (A : Around) (outer : List Env) (s : Shared) (H : Hp) : Prop where
  frames : A.frames = some outer
  mod : Mod K mg base
  bs : ∀ b o, base.get? b = some o → s.heap.get? b = some o ∧ H b = none
  bsz : base.objs.size ≤ s.heap.objs.size
  funs : s.heap.FunFrames base outer
  frf : ∀ b ∈ frs outer, H b = none
  hok : HOk P w H s.heap
  bare : AllBare s.gens
/-- a call's end -/
def CE (outer : List Env) (P : Program) (w : World) (H : Hp) (s : Shared) (Q : VK) (u : Value) (s' : Shared) : Prop :=
  ∃ v H', s'.os = s.os ∧ AllBare s'.gens ∧ Un (frs outer) [] H H' s.heap s'.heap ∧ HOk P w H' s'.heap ∧ RelV v u ∧ Q v H'
def CR (CX : CXT) (outer : List Env) (P : Program) (w : World) (H : Hp) (s : Shared) (Q : VK) (E : XK) (r : Result) (s' : Shared) : Prop :=
  match r with
  | .ok (.ret u) => CE outer P w H s Q u s'
  | .ok _ => False
  | .error e => CX outer H s E e s'
structure FnOk (P : Program) (w : World) (K : PySem.W.Frag) (mg : Str → Option Value) (base : Heap) (CX : CXT) (k : Nat) (f : Addr) (fd : FuncData) (ps : List Str) (sp : Sp) : Prop where
  len : ∀ vs H Q E, sp vs H Q E → vs.length = ps.length
  run : ∀ (A : Around) (outer : List Env) (s : Shared) (H : Hp) (args : Args) (us : List Value) (vs : List V) (Q : VK) (E : XK), Room k A → Env0 P w K mg base A outer s H → BindsTo s fd args (ps.zip us) → Vals vs us → sp vs H Q E →
    codeAny (model P w) A (.call (.ref f) args) (CR CX outer P w H s Q E) s
section
variable {X : Cx} {pins : List (Addr × Obj)} {σ : St} {H : Hp} {s s' : Shared}
/-- from a body: what a callee wants -/
theorem Inv.env0 (I : Inv X pins σ H s) : Env0 X.prog X.w X.K X.mg X.base X.A X.stack s H :=
  ⟨I.ok.frames, I.ok.mod, I.bs, Nat.le_trans I.ok.bsz I.sz, I.stack, I.stkFree, I.hok, I.bare⟩
/-- behind a call -/
theorem Inv.after {Q : VK} {u : Value} (I : Inv X pins σ H s) (h : CE X.stack X.prog X.w H s Q u s') : EP X pins σ Q u s' := by
  obtain ⟨v, H', os, bare, un, hok, r, q⟩ := h
  obtain ⟨hh, g, d, t, os'⟩ := s'
  obtain rfl : os' = s.os := os
  exact ⟨v, H', I.call (h' := hh) (g' := g) (d' := d) (t' := t) (ch := []) un hok bare (fun b z => absurd z (by simp)), r, q⟩
end
/-! ### calls -/
/-- f(..): the written arguments, then the defaults dvs; E: what is wanted of an exception -/
def tCall (sp : Sp) (dvs : List V) (E : XK) (t : TA) : TE := fun σ H Q => t σ H fun vs H1 => sp (vs ++ dvs) H1 Q E
/-- how the parameters are bound: us the positional arguments, kw the keywords' values by name, ds the defaults that fill up -/
def Binds (K : PySem.W.Frag) (fd : FuncData) (ps : List Str) (ds : List Value) : Prop :=
  ∀ (s : Shared) (us : List Value), K.In s.heap → (us ++ ds).length = ps.length → BindsTo s fd ⟨us, []⟩ (ps.zip (us ++ ds))
/-- every parameter is given -/
theorem Binds.all {K : PySem.W.Frag} {fd : FuncData} {ps : List Str} (h : ∀ us : List Value, us.length = ps.length → bindArgs fd ⟨us, []⟩ = pure (ps.zip us)) : Binds K fd ps [] := fun s us _ hl => by
  rw [List.append_nil] at hl ⊢
  exact .of_eq (h us hl)
/-- an exception of a callee reaches what this body wants of exceptions -/
def Passes (CX : CXT) (X : Cx) (E : XK) : Prop := ∀ (pins : List (Addr × Obj)) (σ : St) (H : Hp) (s : Shared) (e : Value) (s' : Shared), Inv X pins σ H s → CX X.stack H s E e s' → X.xe e s'
section
variable {X : Cx} {CX : CXT} {k : Nat} {f C : Addr} {fd : FuncData} {ps : List Str} {sp : Sp} {dvs : List V} {ds : List Value} {E : XK} {x m : Str} {p pos apos : Pos} {e o : Expr} {es : List Expr} {ta : TE} {t : TA}
/-- the callee runs -/
theorem run_fn {pins : List (Addr × Obj)} {σ : St} {H : Hp} {s : Shared} {Q : VK} {us : List Value} {vs : List V} (F : FnOk X.prog X.w X.K X.mg X.base CX k f fd ps sp) (hr : Room k X.A) (hb : Binds X.K fd ps ds) (hd : Vals dvs ds) (hx : Passes CX X E)
    (I : Inv X pins σ H s) (r : Vals vs us) (h : sp (vs ++ dvs) H Q E) : wpAny (model X.prog X.w) X.A (call (.ref f) us) (EP X pins σ Q) X.xe s := by
  have r2 : Vals (vs ++ dvs) (us ++ ds) := r.append hd
  have hl : (us ++ ds).length = ps.length := by rw [← r2.length]; exact F.len _ _ _ _ h
  refine wpAny_call (codeAny_mono (F.run X.A X.stack s H ⟨us, []⟩ (us ++ ds) (vs ++ dvs) Q E hr I.env0 (hb s us I.kIn hl) r2 h) fun r s' hq => ?_)
  cases r with
  | error e => exact hx pins σ H s e s' I hq
  | ok fl =>
    cases fl with
    | ret u => exact I.after hq
    | next => exact False.elim hq
    | brk => exact False.elim hq
    | cont => exact False.elim hq
theorem pe_call (F : FnOk X.prog X.w X.K X.mg X.base CX k f fd ps sp) (hr : Room k X.A) (hg : Gl X x) (hm : X.mg x = some (.ref f)) (hk : PySem.W.keepIn X.K (.ref f) = true) (hb : Binds X.K fd ps ds) (hd : Vals dvs ds) (hx : Passes CX X E)
    (ha : PA X (e :: es) t) (hdb : (x == ("__debug__" : Str)) = false := by decide) (he : starEach (e :: es) X.env = (false, eval e X.env) :: starEach es X.env := by rfl) (hpl : (backTo pos (starEach es X.env)).any (·.1) = false := by rfl) :
    PE X (.Call (.Name x p) (e :: es) [] pos) (tCall sp dvs E t) := by
  intro pins s σ H Q I h
  refine wpAny_Call_Name_kw (ld_glob I hg hm ?_ hdb)
  refine PySem.W.callWith_K (h₀ := X.base) I.ok.mod.kin hk (thn (ha pos pins s σ H _ I h) fun us s1 ⟨vs, H1, I1, r, q⟩ => ⟨I1.kIn, ?_⟩) he hpl
  exact run_fn F hr hb hd hx I1 r q
end
/-! ### keywords -/
section
variable {X : Cx} {CX : CXT} {k : Nat} {f C : Addr} {fd : FuncData} {ps ks : List Str} {sp : Sp} {E : XK} {x m : Str} {p pos apos kpos : Pos} {e o : Expr} {es : List Expr} {kws : List Keyword} {te ta : TE} {t tk : TA} {nm : Option Str}
variable {g : List Value → List Value → List Value} {gV : List V → List V → List V}
end
/-! ### a def's body keeps its promise -/
/-- names: the parameters first -/
structure FnScope (N P : List Str) (sc : Scope) : Prop where
  kind : sc.kind = .function
  co : sc.isCoroutine = false
  gen : sc.isGenerator = false
  nd : N.Nodup
  pre : N.take P.length = P
  par : ∀ x ∈ P, sc.names.lookup x = some .local ∨ sc.names.lookup x = some .cell
  nofree : ∀ y ∈ sc.names, y.2 ≠ .free
theorem bindL_out {kindOf : Str → Option NameKind} {x : Str} : ∀ {binds : List (Str × Value)} {m : Str → Option Value}, (∀ v, (x, v) ∉ binds) → bindL kindOf binds m x = m x
  | [], _, _ => rfl
  | (n, v) :: r, m, h => by
    unfold bindL
    rw [bindL_out fun w hw => h w (List.mem_cons_of_mem _ hw)]
    split
    · have : x ≠ n := by rintro rfl; exact h v List.mem_cons_self
      simp [this]
    · rfl
theorem bindC_out {kindOf : Str → Option NameKind} {x : Str} : ∀ {binds : List (Str × Value)} {m : Str → Option Value}, (∀ v, (x, v) ∉ binds) → bindC kindOf binds m x = m x
  | [], _, _ => rfl
  | (n, v) :: r, m, h => by
    unfold bindC
    rw [bindC_out fun w hw => h w (List.mem_cons_of_mem _ hw)]
    split
    · rfl
    · have : x ≠ n := by rintro rfl; exact h v List.mem_cons_self
      simp [this]
theorem bindL_get {kindOf : Str → Option NameKind} {x : Str} {v : Value} : ∀ {P : List Str} {vs : List Value} {i : Nat} {m : Str → Option Value}, P.Nodup → P[i]? = some x → vs[i]? = some v → kindOf x = some .local →
    bindL kindOf (P.zip vs) m x = some v
  | [], _, _, _, _, h, _, _ => by simp at h
  | _ :: _, [], _, _, _, _, h, _ => by simp at h
  | p :: P, w :: vs, 0, m, nd, h1, h2, hk => by
    simp at h1 h2; subst h1; subst h2
    show bindL kindOf ((p, w) :: P.zip vs) m p = _
    unfold bindL
    rw [bindL_out fun v hv => (List.nodup_cons.mp nd).1 (List.of_mem_zip hv).1, if_pos hk]
    simp
  | p :: P, w :: vs, i + 1, m, nd, h1, h2, hk => by
    show bindL kindOf ((p, w) :: P.zip vs) m x = _
    unfold bindL
    exact bindL_get (i := i) (List.nodup_cons.mp nd).2 (by simpa using h1) (by simpa using h2) hk
theorem bindC_get {kindOf : Str → Option NameKind} {x : Str} {v : Value} : ∀ {P : List Str} {vs : List Value} {i : Nat} {m : Str → Option Value}, P.Nodup → P[i]? = some x → vs[i]? = some v → kindOf x ≠ some .local →
    bindC kindOf (P.zip vs) m x = some v
  | [], _, _, _, _, h, _, _ => by simp at h
  | _ :: _, [], _, _, _, _, h, _ => by simp at h
  | p :: P, w :: vs, 0, m, nd, h1, h2, hk => by
    simp at h1 h2; subst h1; subst h2
    show bindC kindOf ((p, w) :: P.zip vs) m p = _
    unfold bindC
    rw [bindC_out fun v hv => (List.nodup_cons.mp nd).1 (List.of_mem_zip hv).1, if_neg hk]
    simp
  | p :: P, w :: vs, i + 1, m, nd, h1, h2, hk => by
    show bindC kindOf ((p, w) :: P.zip vs) m x = _
    unfold bindC
    exact bindC_get (i := i) (List.nodup_cons.mp nd).2 (by simpa using h1) (by simpa using h2) hk
/-- the names' values at the entry -/
def start (N : List Str) (vs : List V) : St := vs.map some ++ List.replicate (N.length - vs.length) none
/-- the context of a def's body, at its entry; an exception leaves the frame, then lies as CX says -/
def cxOf (CX : CXT) (P : Program) (w : World) (K : PySem.W.Frag) (mg : Str → Option Value) (base : Heap) (N : List Str) (qual : Str) (scope : Scope) (f : Addr) (cd : Value) (A : Around) (outer : List Env) (s : Shared) (H : Hp) (E : XK) : Cx where
  prog := P
  w := w
  K := K
  mg := mg
  base := base
  A := A.deeper (envOfC qual scope s.heap.objs.size f cd)
  N := N
  s₀ := s
  H₀ := H
  env := envOfC qual scope s.heap.objs.size f cd
  outer := outer
  stack := envOfC qual scope s.heap.objs.size f cd :: outer
  ex := []
  calm := true
  fn := fun _ => true
  pn := []
  xe := fun e s' => wpAny (model P w) (A.deeper (envOfC qual scope s.heap.objs.size f cd)) (leaving (envOfC qual scope s.heap.objs.size f cd) e) (fun _ s'' => CX outer H s E e s'') (fun e' s'' => CX outer H s E e' s'') s'
theorem cell_has {sc : Scope} {n : Nat} {x : Str} (h : sc.names.lookup x = some .cell) : ∃ c, (cellsFrom n sc.names []).lookup x = some c := by
  have q := PySem.W.cellsFrom_some sc.names n [] (.inl h)
  exact Option.isSome_iff_exists.mp q
theorem inv_start {CX : CXT} {P : Program} {w : World} {K : PySem.W.Frag} {mg : Str → Option Value} {base : Heap} {N ps : List Str} {qual : Str} {scope : Scope} {f : Addr} {cd : Value} {A : Around} {outer : List Env} {s s1 : Shared} {H : Hp} {E : XK} {us : List Value} {vs : List V}
    (S : FnScope N ps scope) (hd : A.handled = none) (e0 : Env0 P w K mg base A outer s H) (hl : vs.length = ps.length) (r : Vals vs us)
    (x : InCallC s s.heap.objs.size (bindL (envOfC qual scope s.heap.objs.size f cd).kindOf (ps.zip us) fun _ => none) (cellsFrom (s.heap.objs.size + 1) scope.names []) (bindC (envOfC qual scope s.heap.objs.size f cd).kindOf (ps.zip us) fun _ => none) s1) :
    Inv (cxOf CX P w K mg base N qual scope f cd A outer s H E) [] (start N vs) H s1 := by
  have hpl : ps.length ≤ N.length := by have := congrArg List.length S.pre; rw [List.length_take] at this; omega
  obtain ⟨h1, tk, rfl, hk⟩ := x.done
  have noA : ∀ b : Addr, b ∉ (cxOf CX P w K mg base N qual scope f cd A outer s H E).ex := fun b z => absurd (show b ∈ ([] : List Addr) from z) (by simp)
  refine ⟨⟨e0.mod, S.kind, rfl, rfl, Nat.le_refl _, fun y z c h1 h2 => ?_, fun y hy => ?_, fun y c _ h => ?_, fun _ => hd, Around.frames_deeper e0.frames, .inr ⟨rfl, rfl⟩, fun b z => absurd z (noA b), e0.bs, e0.bsz, fun b _ _ => noA b, fun b z => absurd z (noA b), e0.funs, e0.frf⟩,
    rfl, e0.bare, Un.kept hk, ⟨_, x.toInCall.ns, fun i y v h1 h2 h3 => ?_⟩, fun y c h => ⟨_, x.cell y c h⟩, e0.hok.fresh (Nat.le_refl _), fun y c h => ?_, fun p hp => absurd (show p ∈ ([] : List (Addr × Obj)) from hp) (by simp), e0.hok.kept hk, ?_⟩
  · exact name_of_addr x.apart (PySem.mem_of_lookup h1) (PySem.mem_of_lookup h2)
  · have hy : scope.names.lookup y = some .cell ∨ scope.names.lookup y = some .free := hy
    rcases hy with hy | hy
    · exact cell_has hy
    · exact absurd rfl (S.nofree _ (PySem.mem_of_lookup hy))
  · exact Nat.le_of_lt (x.above y c (PySem.mem_of_lookup h))
  · have hi : i < vs.length := by
      unfold start at h2
      by_cases hi : i < vs.length
      · exact hi
      · rw [List.getElem?_append_right (by simpa using hi)] at h2
        rw [List.getElem?_replicate] at h2
        split at h2 <;> cases h2
    have ha : vs[i]? = some v := by
      unfold start at h2
      rw [List.getElem?_append_left (by simpa using hi), List.getElem?_map] at h2
      cases e : vs[i]? with
      | none => rw [e] at h2; cases h2
      | some a => rw [e] at h2; cases h2; rfl
    obtain ⟨u, hu, rv⟩ := r.get ha
    have hp : ps[i]? = some y := by
      rw [← S.pre, List.getElem?_take_of_lt (by omega)]; exact h1
    have ndP : ps.Nodup := by rw [← S.pre]; exact S.nd.sublist (List.take_sublist _ _)
    refine ⟨u, rv, ?_⟩
    rcases S.par y (List.mem_of_getElem? hp) with k | k
    · exact .inl ⟨k, bindL_get ndP hp hu k⟩
    · obtain ⟨c, e⟩ := cell_has (n := s.heap.objs.size + 1) k
      refine .inr ⟨.inl k, c, e, ?_⟩
      have q := x.cell y c e
      rw [bindC_get ndP hp hu (by show scope.names.lookup y ≠ _; rw [k]; decide)] at q
      exact q
  · exact e0.hok.fresh (Nat.le_of_lt (x.above y c (PySem.mem_of_lookup h)))
  · unfold start
    show _ = N.length
    rw [List.length_append, List.length_map, List.length_replicate]
    omega
/-- THE RULE: a def (or a method) of the text, by its body. The body's reading t is chosen for each entry; it is run at the parameters' values -/
theorem fn_of {CX : CXT} {P : Program} {w : World} {K : PySem.W.Frag} {mg : Str → Option Value} {base : Heap} {k : Nat} {f : Addr} {name qual : Str} {params : Arguments} {body : List Stmt} {scope : Scope} {dV kV doc pm cdv ct oc : Value} {an od : Option Addr}
    {osl : Array (Option Value)} {N ps : List Str} {sp : Sp} (lk : K.lookup f = some ⟨oc, od, .func (PySem.W.fnOf name qual params body scope dV kV doc pm an cdv ct), osl⟩) (hcd : PySem.W.codeIn K cdv qual = true) (S : FnScope N ps scope)
    (len : ∀ vs H Q E, sp vs H Q E → vs.length = ps.length)
    (hbody : ∀ (A : Around) (outer : List Env) (s : Shared) (H : Hp) (vs : List V) (Q : VK) (E : XK), Room k (A.deeper (envOfC qual scope s.heap.objs.size f cdv)) → sp vs H Q E →
      ∃ t, PSs (cxOf CX P w K mg base N qual scope f cdv A outer s H E) body t ∧ t { nx := fun _ H' => Q .non H', rt := Q } (start N vs) H) :
    FnOk P w K mg base CX (k + 1) f (PySem.W.fnOf name qual params body scope dV kV doc pm an cdv ct) ps sp := by
  refine ⟨len, fun A outer s H args us vs Q E hr e0 hb r hsp => ?_⟩
  have hl := len _ _ _ _ hsp
  have KX : K.In s.heap := e0.mod.kin.keeps fun b o e => (e0.bs b o e).1
  have lim : s.heap.NoLimit := e0.mod.nolimit.keeps fun b o e => (e0.bs b o e).1
  have hkind : ∀ y ∈ ps.zip us, scope.names.lookup y.1 = some .local ∨ (scope.names.lookup y.1 = some .cell ∧ ((cellsFrom (s.heap.objs.size + 1) scope.names []).lookup y.1).isSome = true) := fun ⟨n, v⟩ hy => by
    rcases S.par n (List.of_mem_zip hy).1 with q | q
    · exact .inl q
    · exact .inr ⟨q, PySem.W.cellsFrom_some _ _ _ (.inl q)⟩
  refine codeAny_call_function hr.depth (KX _ _ lk) rfl S.co S.gen rfl (PySem.W.codeRec_of KX hcd) (hb _ _ _ _ ?_)
  refine wpAny_newFunctionEnv_cells S.kind hkind fun env he s1 x => ?_
  subst he
  refine ⟨lim.keeps x.toInCall.keep, codeAny_func ?_⟩
  obtain ⟨t, ht, hq⟩ := hbody A outer s H vs Q E (hr.deeper _) hsp
  have I : Inv (cxOf CX P w K mg base N qual scope f cdv A outer s H E) [] (start N vs) H s1 := inv_start S hr.hd e0 hl r x
  refine wpAny_mono (ht [] s1 (start N vs) H _ I hq) (fun fl s' hs => ?_) fun e s' hs => hs
  have fin : ∀ {σ' : St} {H' : Hp} {v : V} {u : Value}, Inv (cxOf CX P w K mg base N qual scope f cdv A outer s H E) [] σ' H' s' → RelV v u → Q v H' → CE outer P w H s Q u s' :=
    fun {σ' H' v u} J rv q => ⟨v, H', J.os, J.bare, J.base, J.hok, rv, q⟩
  cases fl with
  | ret u =>
    obtain ⟨v, σ', H', J, rv, q⟩ := hs
    exact fin J rv q
  | next =>
    obtain ⟨σ', H', J, q⟩ := hs
    exact fin (v := V.non) (u := Value.none) J rfl q
  | brk =>
    obtain ⟨_, _, _, q⟩ := hs
    exact False.elim q
  | cont =>
    obtain ⟨_, _, _, q⟩ := hs
    exact False.elim q
end L2
namespace L2
open PySem PySem.Spec PyProof.Rows
section
variable {X : Cx} {x : Str} {p pos : Pos} {e : Expr} {es : List Expr} {t : TA} {id T : String} {r : List V → Hp → VK → Prop}
def tCB (r : List V → Hp → VK → Prop) (t : TA) : TE := fun σ H Q => t σ H fun vs H1 => r vs H1 Q
/-- f(e, ..), f a built-in function -/
theorem pe_callB (hc : CallR X (.builtin id) r) (hg : Gl X x) (hm : X.mg x = none) (hv : bootBuiltins x = some (.builtin id)) (ha : PA X (e :: es) t) (hn : x ≠ "__name__" := by decide) (hdb : (x == ("__debug__" : Str)) = false := by decide)
    (he : starEach (e :: es) X.env = (false, eval e X.env) :: starEach es X.env := by rfl) (hpl : (backTo pos (starEach es X.env)).any (·.1) = false := by rfl) : PE X (.Call (.Name x p) (e :: es) [] pos) (tCB r t) := by
  intro pins s σ H Q I h
  refine wpAny_Call_Name_kw (ld_blt I hg hm hv ?_ hn hdb)
  exact PyProof.Rows.callWith_builtin1 (thn (ha pos pins s σ H _ I h) fun us s1 ⟨vs, H1, I1, r1, q1⟩ => hc pins s1 σ H1 vs us Q I1 r1 q1) he hpl
/-- T(e, ..), T a built-in type -/
theorem pe_callTy (hc : CallR X (.type T) r) (hg : Gl X x) (hm : X.mg x = none) (hv : bootBuiltins x = some (.type T)) (ha : PA X (e :: es) t) (hn : x ≠ "__name__" := by decide) (hdb : (x == ("__debug__" : Str)) = false := by decide)
    (he : starEach (e :: es) X.env = (false, eval e X.env) :: starEach es X.env := by rfl) (hpl : (backTo pos (starEach es X.env)).any (·.1) = false := by rfl) : PE X (.Call (.Name x p) (e :: es) [] pos) (tCB r t) := by
  intro pins s σ H Q I h
  refine wpAny_Call_Name_kw (ld_blt I hg hm hv ?_ hn hdb)
  exact PyProof.Rows.callWith_type1 (thn (ha pos pins s σ H _ I h) fun us s1 ⟨vs, H1, I1, r1, q1⟩ => hc pins s1 σ H1 vs us Q I1 r1 q1) he hpl
end
end L2
namespace HT
open PySem PyProof.Rows
section
open PySem.SeqAt
open PySem.AutoSeq1 (wpAny_loadPart')
open PySem.MeetsSeq PySem.MeetsSeq2 PySem.MeetsSeq3
end
section
variable {prog : Program} {w : World} {A : Around} {E : Value → Shared → Prop} {s : Shared}
/-! ### t[a:b], not the whole -/
/-- a slice's bound as a place among n (d where it is left out) -/
def sIx (n d : Nat) : Option Int → Nat
  | none => d
  | some v => if v < 0 then (v + (n : Int)).toNat else min v.toNat n
theorem sIx_nat (n d k : Nat) : sIx n d (some (k : Int)) = min k n := by
  show (if (k : Int) < 0 then ((k : Int) + (n : Int)).toNat else min (k : Int).toNat n) = min k n
  rw [if_neg (by omega), Int.toNat_natCast]
end
end HT
namespace L2
open PySem PySem.Spec PyProof.Rows
/-! ### the parts of a slice -/
abbrev TO := St → Hp → (Option Int → Hp → Prop) → Prop
/-- a slice's part (left out, or an int) -/
def PO (X : Cx) (e : Option Expr) (t : TO) : Prop :=
  ∀ (pins : List (Addr × Obj)) (s : Shared) (σ : St) (H : Hp) (Q : Option Int → Hp → Prop), Inv X pins σ H s → t σ H Q →
    wpAny (model X.prog X.w) X.A (evalPart e X.env) (fun u s' => ∃ o H', Inv X pins σ H' s' ∧ IsPart u o ∧ Q o H') X.xe s
def tPart (t : TE) : TO := fun σ H Q => t σ H fun x H1 => ∃ i, x = .int i ∧ Q (some i) H1
section
variable {X : Cx} {e : Expr} {te : TE} {lo hi : Option Expr} {tl th : TO} {pos p2 : Pos}
theorem po_some (h : PE X e te) : PO X (some e) (tPart te) := by
  intro pins s σ H Q I hw
  rw [evalPart_some]
  refine thn (h pins s σ H _ I hw) fun u s1 ⟨x, H1, I1, r1, q1⟩ => ?_
  obtain ⟨i, rfl, q⟩ := q1
  obtain ⟨t, rfl⟩ := r1
  exact ⟨some i, H1, I1, .int i t, q⟩
/-- what a slice of a value is, by values: the slice object stands at sl -/
def SlR (X : Cx) (r : V → Option Int → Option Int → Hp → VK → Prop) : Prop :=
  ∀ (pins : List (Addr × Obj)) (s : Shared) (σ : St) (H : Hp) (x : V) (v vl vu : Value) (lo hi : Option Int) (sl : Addr) (Q : VK), Inv X pins σ H s → RelV x v → s.heap.IsSliceOf sl vl vu .none → IsPart vl lo → IsPart vu hi → r x lo hi H Q →
    ∃ T id, typeLookup (.type T) "__getitem__" = pure (some (.builtin id)) ∧ s.TypeIs v T ∧ wpAny (model X.prog X.w) X.A (getItem v (.ref sl)) (EP X pins σ Q) X.xe s
def tSl (r : V → Option Int → Option Int → Hp → VK → Prop) (te : TE) (tl th : TO) : TE := fun σ H Q => te σ H fun x H1 => tl σ H1 fun l H2 => th σ H2 fun u H3 => r x l u H3 Q
/-- a[lo:hi], any a -/
theorem pe_slice {r : V → Option Int → Option Int → Hp → VK → Prop} (hr : SlR X r) (he : PE X e te) (hl : PO X lo tl) (hu : PO X hi th) : PE X (.Subscript e (.Slice lo hi none p2) pos) (tSl r te tl th) := by
  intro pins s σ H Q I h
  refine Subscript_ (thn (he pins s σ H _ I h) fun v s1 ⟨x, H1, I1, r1, q1⟩ => ?_)
  refine wpAny_Slice (thn (hl pins s1 σ H1 _ I1 q1) fun vl s2 ⟨l, H2, I2, pl, q2⟩ => thn (hu pins s2 σ H2 _ I2 q2) fun vu s3 ⟨u, H3, I3, pu, q3⟩ => ?_)
  rw [evalPart_none]
  refine wpAny_pure ?_
  have I4 : Inv X pins σ H3 { s3 with heap := s3.heap.push { cls := .type "slice", data := .fields #[vl, vu, .none] } } := I3.kept (t' := s3.toks) fun b ob q => Heap.get?_push_of_some _ q
  obtain ⟨T, id, hT, ht, hg⟩ := hr pins { s3 with heap := s3.heap.push { cls := .type "slice", data := .fields #[vl, vu, .none] } } σ H3 x v vl vu l u s3.heap.objs.size Q I4 r1 (Heap.IsSliceOf.new ..) pl pu q3
  show wpAny (model X.prog X.w) X.A (subscriptTail e (.Slice lo hi none p2) v (.ref s3.heap.objs.size)) (EP X pins σ Q) X.xe { s3 with heap := s3.heap.push { cls := .type "slice", data := .fields #[vl, vu, .none] } }
  exact tail_any (ops := [.ref s3.heap.objs.size, v]) ht hT hg (by with_unfolding_all rfl)
/-- the items of xs[lo:hi] -/
def cutV (xs : List V) (lo hi : Option Int) : List V := (xs.drop (HT.sIx xs.length 0 lo)).take (HT.sIx xs.length xs.length hi - HT.sIx xs.length 0 lo)
theorem cutV_length (xs : List V) (lo hi : Option Int) : (cutV xs lo hi).length ≤ xs.length := by
  unfold cutV
  rw [List.length_take, List.length_drop]
  omega
/-! ### t < u, t + u -/
end
end L2
namespace L2
open PySem PySem.Spec PyProof.Rows
/-! ### places -/
/-- the place that an index of any sign means -/
def ixN (n : Nat) (i : Int) : Option Nat := if 0 ≤ i then (if i < n then some i.toNat else none) else if -(n : Int) ≤ i then some (i + n).toNat else none
def atI {α : Type} (xs : List α) (i : Int) : Option α := (ixN xs.length i).bind fun j => xs[j]?
theorem ixN_seq {n : Nat} {i : Int} {j : Nat} (h : ixN n i = some j) : seqIndex? i n = some j ∧ j < n ∧ -(n : Int) ≤ i ∧ i < n := by
  unfold ixN at h
  by_cases h0 : 0 ≤ i
  · rw [if_pos h0] at h
    by_cases h1 : i < n
    · rw [if_pos h1] at h
      have e : i.toNat = j := Option.some.inj h
      exact ⟨by rw [seqIndex_of h0 h1, e], by omega, by omega, h1⟩
    · rw [if_neg h1] at h; cases h
  · rw [if_neg h0] at h
    by_cases h1 : -(n : Int) ≤ i
    · rw [if_pos h1] at h
      have e : (i + n).toNat = j := Option.some.inj h
      exact ⟨by rw [seqIndex_neg (by omega) h1, e], by omega, h1, by omega⟩
    · rw [if_neg h1] at h; cases h
theorem atI_get {α : Type} {xs : List α} {i : Int} {v : α} (h : atI xs i = some v) : ∃ j, seqIndex? i xs.length = some j ∧ xs[j]? = some v ∧ j < xs.length ∧ -(xs.length : Int) ≤ i ∧ i < xs.length := by
  unfold atI at h
  cases e : ixN xs.length i with
  | none => rw [e] at h; cases h
  | some j =>
    rw [e] at h
    obtain ⟨h1, h2, h3, h4⟩ := ixN_seq e
    exact ⟨j, h1, h, h2, h3, h4⟩
theorem atI_nat {α : Type} {xs : List α} {j : Nat} {v : α} (h : xs[j]? = some v) : atI xs (j : Int) = some v := by
  have hj : j < xs.length := (List.getElem?_eq_some_iff.mp h).1
  have e : ixN xs.length (j : Int) = some j := by
    unfold ixN
    rw [if_pos (by omega), if_pos (by omega)]; simp
  unfold atI; rw [e]; exact h
theorem atI_last {α : Type} (xs : List α) (v : α) : atI (xs ++ [v]) (-1) = some v := by
  have hl : (xs ++ [v]).length = xs.length + 1 := by simp
  have e : ixN (xs ++ [v]).length (-1) = some xs.length := by
    unfold ixN
    rw [hl, if_neg (by decide), if_pos (by omega)]
    congr 1
    omega
  unfold atI
  rw [e]
  show (xs ++ [v])[xs.length]? = some v
  simp
/-! ### what may be subscripted -/
/-- what stands as an index of a plain subscript -/
def PlainIx (b : Expr) : Prop := ∀ o i, subscripted b false o i = operate [o, i] (getItem o i)
/-- a subscript by values -/
def IxR (X : Cx) (r : R2) : Prop :=
  ∀ (value slice : Expr) (pins : List (Addr × Obj)) (s : Shared) (σ : St) (H : Hp) (x y : V) (v u : Value) (Q : VK), Inv X pins σ H s → RelV x v → RelV y u → r x y H Q →
    subscripted slice false v u = operate [v, u] (getItem v u) → wpAny (model X.prog X.w) X.A (subscriptTail value slice v u) (EP X pins σ Q) X.xe s
/-- a call of a builtin's method by values: the receiver, the arguments -/
def MtR (X : Cx) (id : String) (r : V → List V → Hp → VK → Prop) : Prop :=
  ∀ (pins : List (Addr × Obj)) (s : Shared) (σ : St) (H : Hp) (x : V) (xs : List V) (v : Value) (us : List Value) (Q : VK), Inv X pins σ H s → RelV x v → Vals xs us → r x xs H Q →
    wpAny (model X.prog X.w) X.A (call (.builtin id) (v :: us)) (EP X pins σ Q) X.xe s
section
variable {X : Cx} {a b : Expr} {ta tb : TE} {pos : Pos}
/-- a[b] -/
theorem pe_ix {r : R2} (hr : IxR X r) (ha : PE X a ta) (hb : PE X b tb) (hs : PlainIx b) : PE X (.Subscript a b pos) (tOp r ta tb) := by
  intro pins s σ H Q I h
  exact Subscript_ (binT ha hb I h fun v u s2 x y H2 I2 rx ry q => hr a b pins s2 σ H2 x y v u Q I2 rx ry q (hs _ _))
def rIxL (K : PySem.W.Frag) : R2 := fun x y H Q => ∃ p xs i v, x = .ref p ∧ y = .int i ∧ SqL K H p xs ∧ atI xs i = some v ∧ Q v H
def rIxT (K : PySem.W.Frag) : R2 := fun x y H Q => ∃ p xs i v, x = .ref p ∧ y = .int i ∧ SqT K H p xs ∧ atI xs i = some v ∧ Q v H
theorem ix_list : IxR X (rIxL X.K) := by
  intro value slice pins s σ H x y v u Q I rx ry h hs
  obtain ⟨p, xs, i, z, rfl, rfl, hq, he, q⟩ := h
  cases rx
  obtain ⟨t, rfl⟩ := ry
  obtain ⟨its, r, pl, hz⟩ := I.list hq
  obtain ⟨j, h1, h2, h3, h4, h5⟩ := atI_get he
  obtain ⟨w, ew, rw'⟩ := r.get h2
  have hl := r.length
  have hn := line63
  have fin : EP X pins σ Q w s := ⟨z, H, I, rw', q⟩
  by_cases h0 : 0 ≤ i
  · have hj : i.toNat = j := by
      rw [seqIndex_of h0 h5] at h1
      exact Option.some.inj h1
    exact item_listR pl.isList h0 (by omega) (by rw [hj]; simpa using ew) fin hs
  · have hj : (i + (its.toArray.size : Int)).toNat = j := by
      rw [seqIndex_neg (by omega) h4] at h1
      rw [List.size_toArray, ← hl]
      exact Option.some.inj h1
    exact subscriptTail_builtinR (x := w) pl.isList.typeIs slot_list_getitem.lookup
      (wpAny_getItem_list_neg (Q := fun r s' => r = w ∧ EP X pins σ Q r s') pl.isList (by omega) (by rw [List.size_toArray] <;> omega) (by omega) (by rw [hj]; simpa using ew) ⟨rfl, fin⟩) hs
theorem ix_tup : IxR X (rIxT X.K) := by
  intro value slice pins s σ H x y v u Q I rx ry h hs
  obtain ⟨p, xs, i, z, rfl, rfl, hq, he, q⟩ := h
  cases rx
  obtain ⟨t, rfl⟩ := ry
  obtain ⟨its, r, pl, hz⟩ := I.tuple hq
  obtain ⟨j, h1, h2, h3, h4, h5⟩ := atI_get he
  obtain ⟨w, ew, rw'⟩ := r.get h2
  have hl := r.length
  have hn := line63
  have fin : EP X pins σ Q w s := ⟨z, H, I, rw', q⟩
  exact subscriptTail_builtinR (x := w) pl.typeIs slot_tuple_getitem.lookup
    (getItem_tuple (j := j) (Q := fun r s' => r = w ∧ EP X pins σ Q r s') pl (by omega) (by omega) (by rw [List.size_toArray, ← hl]; exact h1) (by simpa using ew) ⟨rfl, fin⟩) hs
/-! ### xs[i] = v, any sign -/
/-- the list's object behind a store -/
theorem mapSeq_set (its : List Value) (n j : Nat) (u : Value) : Obj.mapSeq (·.setIfInBounds j u) { cls := .type "list", data := .seq its.toArray n } = { cls := .type "list", data := .seq (its.set j u).toArray n } := by
  simp [Obj.mapSeq]
theorem Inv.lst {pins : List (Addr × Obj)} {σ : St} {H : Hp} {s : Shared} {p : Addr} {xs : List V} (I : Inv X pins σ H s) (h : H p = some (.lst xs)) :
    ∃ (its : List Value) (n : Nat), Vals xs its ∧ s.heap.get? p = some { cls := .type "list", data := .seq its.toArray n } ∧ xs.length ≤ sizeLine := by
  obtain ⟨z, its, n, r, e⟩ := I.hok p _ h
  exact ⟨its, n, r, e, z⟩
/-- the list at p is written by an update of its object -/
theorem Inv.lstUpd {pins : List (Addr × Obj)} {σ : St} {H : Hp} {s : Shared} {p : Addr} {xs ys : List V} {its its' : List Value} {n n' : Nat} {f : Obj → Obj} (I : Inv X pins σ H s) (h : H p = some (.lst xs))
    (ho : s.heap.get? p = some { cls := .type "list", data := .seq its.toArray n }) (hf : f { cls := .type "list", data := .seq its.toArray n } = { cls := .type "list", data := .seq its'.toArray n' }) (r : Vals ys its') (hz : ys.length ≤ sizeLine) (t : Nat) :
    Inv X pins σ (upd H p (.lst ys)) { s with heap := s.heap.update p f, toks := t } := by
  have e : (s.heap.update p f).get? p = some { cls := .type "list", data := .seq its'.toArray n' } := by
    rw [Heap.get?_update_self f ho (by rw [hf] <;> rfl), hf]
  refine I.write (x := p) (e := p) (by rw [h]; trivial) (.inl rfl) (fun b u hb q => (Heap.get?_update_other _ _ (Ne.symm hb)).trans q) ⟨_, e⟩ ?_
  exact ⟨hz, its', n', r, e⟩
def rSetL : V → V → V → Hp → (Hp → Prop) → Prop := fun o i v H Q => ∃ p xs k j, o = .ref p ∧ i = .int k ∧ H p = some (.lst xs) ∧ ixN xs.length k = some j ∧ Q (upd H p (.lst (xs.set j v)))
theorem set_list : PSet X rSetL := by
  intro pins s σ H o i v ov iv u Q I ro ri rv h
  obtain ⟨p, xs, k, j, rfl, rfl, hp, hj, q⟩ := h
  cases ro
  obtain ⟨t, rfl⟩ := ri
  obtain ⟨its, n, r, ho, hz⟩ := I.lst hp
  obtain ⟨h1, h2, h3, h4⟩ := ixN_seq hj
  have hl := r.length
  have hn := line63
  have I' : Inv X pins σ (upd H p (.lst (xs.set j v))) { s with heap := s.heap.update p (Obj.mapSeq (·.setIfInBounds j u)) } :=
    I.lstUpd hp ho (mapSeq_set its n j u) (r.set rv j) (by rw [List.length_set]; exact hz) s.toks
  by_cases h0 : 0 ≤ k
  · have hk : k.toNat = j := by
      rw [seqIndex_of h0 h4] at h1
      exact Option.some.inj h1
    exact PySem.W.ki_setAt ho h0 (by omega) (by rw [List.size_toArray, ← hl]; exact h4) (by rw [hk]; exact ⟨_, I', q⟩)
  · have hk : (k + (its.toArray.size : Int)).toNat = j := by
      rw [seqIndex_neg (by omega) h3] at h1
      rw [List.size_toArray, ← hl]
      exact Option.some.inj h1
    exact PySem.W.ki_setBack ho (by omega) (by rw [List.size_toArray, ← hl]; exact h3) (by omega) (by rw [hk]; exact ⟨_, I', q⟩)
/-! ### slices -/
theorem slice_bounds (lo hi : Option Int) (n : Nat) : (sliceBounds lo hi none n).1 = ((HT.sIx n 0 lo : Nat) : Int) ∧ (sliceBounds lo hi none n).2.1 = ((HT.sIx n n hi : Nat) : Int) ∧ (sliceBounds lo hi none n).2.2 = 1 := by
  refine ⟨?_, ?_, rfl⟩
  · cases lo with
    | none => simp [sliceBounds, HT.sIx]
    | some i =>
      simp only [sliceBounds, HT.sIx, Option.getD_none, show (1 : Int) > 0 by decide, if_true]
      by_cases h : i < 0
      · simp only [h, if_true] <;> omega
      · simp only [h, if_false] <;> omega
  · cases hi with
    | none => simp [sliceBounds, HT.sIx]
    | some i =>
      simp only [sliceBounds, HT.sIx, Option.getD_none, show (1 : Int) > 0 by decide, if_true]
      by_cases h : i < 0
      · simp only [h, if_true] <;> omega
      · simp only [h, if_false] <;> omega
theorem slicePick_cut (its : List Value) (lo hi : Option Int) : slicePick its.toArray lo hi none = ((its.drop (HT.sIx its.length 0 lo)).take (HT.sIx its.length its.length hi - HT.sIx its.length 0 lo)).toArray := by
  obtain ⟨h1, h2, h3⟩ := slice_bounds lo hi its.toArray.size
  unfold slicePick
  rw [h1, h2, h3]
  simp only [sliceRange_one, pick_run, List.size_toArray] <;> rfl
/-- xs[lo:hi] of a list: a new list -/
def rSlL (K : PySem.W.Frag) : V → Option Int → Option Int → Hp → VK → Prop := fun x lo hi H Q => ∃ a xs, x = .ref a ∧ SqL K H a xs ∧ ∀ p, H p = none → Q (.ref p) (upd H p (.lst (cutV xs lo hi)))
theorem sl_list : SlR X (rSlL X.K) := by
  intro pins s σ H x v vl vu lo hi sl Q I rx hs pl pu h
  obtain ⟨a, xs, rfl, hx, q⟩ := h
  cases rx
  obtain ⟨its, r, ht, hz⟩ := I.list hx
  have hlen := r.length
  refine ⟨"list", _, slot_list_getitem.lookup, ht.isList.typeIs, ?_⟩
  refine wpAny_getItem_list_slice ht.isList hs pl pu .none (by simp) ?_ (by rw [List.size_toArray] <;> omega)
  rw [slicePick_cut, ← hlen]
  refine ⟨.ref s.heap.objs.size, _, I.laid (t' := s.toks) (o := .lst (cutV xs lo hi)) (fun b ob q => Heap.get?_push_of_some _ q) (Nat.le_refl _) ?_, rfl, q _ (I.hok.fresh (Nat.le_refl _))⟩
  exact ⟨Nat.le_trans (cutV_length xs lo hi) hz, _, 0, (r.drop (HT.sIx xs.length 0 lo)).take (HT.sIx xs.length xs.length hi - HT.sIx xs.length 0 lo), Heap.get?_push_size _ rfl⟩
/-! ### in, not in: flat items -/
def flatV : V → Bool
  | .non => true
  | .bl _ => true
  | .int _ => true
  | .str _ => true
  | _ => false
/-- == of flat values -/
def eqV : V → V → Bool
  | .non, .non => true
  | .bl a, .bl b => a == b
  | .bl a, .int b => (if a then 1 else 0) == b
  | .int a, .bl b => a == (if b then 1 else 0)
  | .int a, .int b => a == b
  | .str a, .str b => a == b
  | _, _ => false
theorem eqAt_V {A : Around} {s : Shared} {y x : V} {u v : Value} (ry : RelV y u) (rx : RelV x v) (fy : flatV y = true) (fx : flatV x = true) : SeqAt.EqAt A s u v (eqV y x) := by
  cases y with
  | non =>
    cases ry
    cases x with
    | non => cases rx; exact SeqAt.EqAt.same _
    | bl b => cases rx; exact SeqAt.EqAt.none_bool b
    | int b => obtain ⟨t, rfl⟩ := rx; exact SeqAt.EqAt.none_int b t
    | str b => obtain ⟨t, rfl⟩ := rx; exact SeqAt.EqAt.none_str b t
    | _ => exact absurd (show false = true from fx) Bool.false_ne_true
  | bl a =>
    cases ry
    cases x with
    | non => cases rx; exact SeqAt.EqAt.bool_none a
    | bl b => cases rx; exact SeqAt.EqAt.bool_bool a b
    | int b => obtain ⟨t, rfl⟩ := rx; exact SeqAt.EqAt.bool_int a b t
    | str b => obtain ⟨t, rfl⟩ := rx; exact SeqAt.EqAt.bool_str a b t
    | _ => exact absurd (show false = true from fx) Bool.false_ne_true
  | int a =>
    obtain ⟨t', rfl⟩ := ry
    cases x with
    | non => cases rx; exact SeqAt.EqAt.int_none a t'
    | bl b => cases rx; exact SeqAt.EqAt.int_bool a t' b
    | int b => obtain ⟨t, rfl⟩ := rx; exact SeqAt.EqAt.int_int a t' b t
    | str b => obtain ⟨t, rfl⟩ := rx; exact SeqAt.EqAt.int_str a t' b t
    | _ => exact absurd (show false = true from fx) Bool.false_ne_true
  | str a =>
    obtain ⟨t', rfl⟩ := ry
    cases x with
    | non => cases rx; exact SeqAt.EqAt.str_none a t'
    | bl b => cases rx; exact SeqAt.EqAt.str_bool a t' b
    | int b => obtain ⟨t, rfl⟩ := rx; exact SeqAt.EqAt.str_int a t' b t
    | str b => obtain ⟨t, rfl⟩ := rx; exact SeqAt.EqAt.str_str a t' b t
    | _ => exact absurd (show false = true from fx) Bool.false_ne_true
  | _ => exact absurd (show false = true from fy) Bool.false_ne_true
/-- the items' answers, read off the values (a value's own answer does not lean on its token) -/
def eqU (x : V) (u : Value) : Bool := match u with
  | .none => eqV .non x
  | .bool b => eqV (.bl b) x
  | .int i _ => eqV (.int i) x
  | .str z _ => eqV (.str z) x
  | _ => false
theorem eqU_of {x y : V} {u : Value} (r : RelV y u) (f : flatV y = true) : eqU x u = eqV y x := by
  cases y with
  | non => cases r; rfl
  | bl b => cases r; rfl
  | int i => obtain ⟨t, rfl⟩ := r; rfl
  | str z => obtain ⟨t, rfl⟩ := r; rfl
  | _ => exact absurd (show false = true from f) Bool.false_ne_true
theorem any_eqU {x : V} : ∀ {xs : List V} {us : List Value}, Vals xs us → xs.all flatV = true → us.any (eqU x) = xs.any fun y => eqV y x
  | _, _, .nil, _ => rfl
  | y :: xs, u :: us, .cons r t, f => by
    rw [List.all_cons, Bool.and_eq_true] at f
    rw [List.any_cons, List.any_cons, eqU_of r f.1, any_eqU t f.2]
theorem mem_eqAt {A : Around} {s : Shared} {x : V} {v : Value} (rx : RelV x v) (fx : flatV x = true) : ∀ {xs : List V} {us : List Value}, Vals xs us → xs.all flatV = true → ∀ u ∈ us, SeqAt.EqAt A s u v (eqU x u)
  | _, _, .nil, _ => fun u hu => by cases hu
  | y :: xs, u :: us, .cons r t, f => fun u' hu => by
    rw [List.all_cons, Bool.and_eq_true] at f
    rcases List.mem_cons.mp hu with rfl | hu
    · rw [eqU_of r f.1]; exact eqAt_V r rx f.1 fx
    · exact mem_eqAt rx fx t f.2 u' hu
def inV (x : V) (xs : List V) : Bool := xs.any fun y => eqV y x
/-- x in a list or tuple of flat items -/
def rIn (K : PySem.W.Frag) (neg : Bool) : R2 := fun x y H Q => ∃ p xs, y = .ref p ∧ (SqL K H p xs ∨ SqT K H p xs) ∧ flatV x = true ∧ xs.all flatV = true ∧ Q (.bl (if neg then !inV x xs else inV x xs)) H
theorem op_in_seq : OpR X (compareOp .In) (rIn X.K false) := by
  intro pins s σ H x y v u Q I rx ry h
  obtain ⟨p, xs, rfl, hq, fx, fs, q⟩ := h
  cases ry
  rcases hq with hq | hq
  · obtain ⟨its, r, pl, hz⟩ := I.list hq
    refine SeqAt.in_listAt (eqU x) pl.isList (fun w hw => mem_eqAt rx fx r fs w (by simpa using hw)) ⟨.bl _, H, I, rfl, ?_⟩
    rw [show its.toArray.any (eqU x) = its.any (eqU x) by simp, any_eqU r fs]
    exact q
  · obtain ⟨its, r, pl, hz⟩ := I.tuple hq
    refine SeqAt.in_tupleAt (eqU x) pl (fun w hw => mem_eqAt rx fx r fs w (by simpa using hw)) ⟨.bl _, H, I, rfl, ?_⟩
    rw [show its.toArray.any (eqU x) = its.any (eqU x) by simp, any_eqU r fs]
    exact q
/-! ### len, list(x), tuple(x) of any list or tuple that is read -/
theorem call_len_seq : CallR X (.builtin "len") (fun xs H Q => ∃ p ys, xs = [.ref p] ∧ (SqL X.K H p ys ∨ SqT X.K H p ys) ∧ Q (.int ys.length) H) := by
  intro pins s σ H xs us Q I r h
  obtain ⟨p, ys, rfl, hq, q⟩ := h
  obtain ⟨u, rfl, rx⟩ := vals1 r
  cases rx
  have hn := line63
  rcases hq with hq | hq
  · obtain ⟨its, r', pl, hz⟩ := I.list hq
    have hlen := r'.length
    exact Calls.call_len_list pl.isList (by simp only [List.size_toArray] <;> omega) ⟨.int ys.length, H, I.tok _, ⟨s.toks + 1, by rw [List.size_toArray, hlen]⟩, q⟩
  · obtain ⟨its, r', pl, hz⟩ := I.tuple hq
    have hlen := r'.length
    exact len_tuple pl (by simp only [List.size_toArray] <;> omega) ⟨.int ys.length, H, I.tok _, ⟨s.toks + 1, by rw [List.size_toArray, hlen]⟩, q⟩
theorem call_len_str : CallR X (.builtin "len") (fun xs H Q => ∃ z, xs = [.str z] ∧ z.length ≤ sizeLine ∧ Q (.int z.length) H) := by
  intro pins s σ H xs us Q I r h
  obtain ⟨z, rfl, hz, q⟩ := h
  obtain ⟨u, rfl, t, rfl⟩ := vals1 r
  have hn := line63
  exact len_str (by omega) ⟨.int z.length, H, I.tok _, ⟨_, rfl⟩, q⟩
/-! ### the call of a builtin's method: o.m(..) -/
/-- the value is of that builtin type -/
def tyV (K : PySem.W.Frag) (T : String) (x : V) (H : Hp) : Prop := match x with
  | .str _ => T = "str"
  | .int _ => T = "int"
  | .ref p => (T = "list" ∧ ∃ xs, SqL K H p xs) ∨ (T = "tuple" ∧ ∃ o, K.lookup p = some o ∧ o.cls = .type "tuple" ∧ o.dict = none) ∨
      (T = "dict" ∧ ((∃ kvs, H p = some (.dK kvs)) ∨ ∃ kvs, H p = some (.dT kvs))) ∨ (T = "set" ∧ ∃ S n, H p = some (.set S n))
  | _ => False
theorem tyV_is {pins : List (Addr × Obj)} {σ : St} {H : Hp} {s : Shared} {T : String} {x : V} {v : Value} (I : Inv X pins σ H s) (r : RelV x v) (ty : tyV X.K T x H) :
    s.TypeIs v T ∧ ∀ a, v = .ref a → ∃ ob, s.heap.get? a = some ob ∧ ob.dict = none := by
  cases x with
  | str z =>
    obtain ⟨t, rfl⟩ := r
    cases (show T = "str" from ty)
    exact ⟨typeIs_str s z t, fun _ e => nomatch e⟩
  | int i =>
    obtain ⟨t, rfl⟩ := r
    cases (show T = "int" from ty)
    exact ⟨typeIs_int s i t, fun _ e => nomatch e⟩
  | ref p =>
    cases r
    rcases ty with ⟨rfl, xs, hq⟩ | ⟨rfl, o, hk, hc, hd⟩ | ⟨rfl, hk⟩ | ⟨rfl, S, n, hk⟩
    · obtain ⟨its, _, pl, _⟩ := I.list hq
      refine ⟨pl.isList.typeIs, fun a e => ?_⟩
      cases e
      obtain ⟨o, n, e, c, hd, _⟩ := pl
      exact ⟨o, e, hd⟩
    · refine ⟨⟨o, I.kIn p o hk, hc⟩, fun a e => ?_⟩
      cases e
      exact ⟨o, I.kIn _ o hk, hd⟩
    · have z : ∃ o, s.heap.get? p = some o ∧ o.ExactDict := by
        rcases hk with ⟨kvs, hk⟩ | ⟨kvs, hk⟩
        · obtain ⟨_, _, _, _, o, _, _, e, ex, _⟩ := I.hok p _ hk
          exact ⟨o, e, ex⟩
        · obtain ⟨_, _, _, _, o, _, _, e, ex, _⟩ := I.hok p _ hk
          exact ⟨o, e, ex⟩
      obtain ⟨o, e, ex⟩ := z
      refine ⟨⟨o, e, ex.1⟩, fun a e2 => ?_⟩
      cases e2
      exact ⟨o, e, ex.2.1⟩
    · obtain ⟨o, _, _, _, e, ex, _⟩ := I.hok p _ hk
      refine ⟨⟨o, e, ex.1⟩, fun a e2 => ?_⟩
      cases e2
      exact ⟨o, e, ex.2.1⟩
  | _ => exact False.elim ty
def tBM (K : PySem.W.Frag) (T : String) (r : V → List V → Hp → VK → Prop) (to : TE) (t : TA) : TE := fun σ H Q => to σ H fun x H1 => tyV K T x H1 ∧ t σ H1 fun xs H2 => r x xs H2 Q
variable {o e : Expr} {es : List Expr} {to : TE} {t : TA} {name : Str} {apos cpos : Pos} {T id : String} {r : V → List V → Hp → VK → Prop}
theorem pe_bm (pa : PlainAttrs T) (slot : Slot T name id) (hty : typeOf (.builtin id) = pure (.type "method_descriptor")) (hm : MtR X id r) (ho : PE X o to) (ha : PA X (e :: es) t)
    (hbase : attributeBase o name X.env (eval o X.env) = eval o X.env := by rfl)
    (hfew : ((backTo cpos (starEach (e :: es) X.env)).all (fun x => !x.1) && (backToKw cpos (keywordEach [] X.env)).all (fun x => x.1.isSome)
      && decide ((e :: es).length + ([] : List Keyword).length + (if ([] : List Keyword).isEmpty then 0 else 1) < 30)) = true := by rfl)
    (hline : (apos.endLine == cpos.line) = true := by rfl) (hs : starEach (e :: es) X.env = (false, eval e X.env) :: starEach es X.env := by rfl) (hplain : (backTo cpos (starEach es X.env)).any (·.1) = false := by rfl) :
    PE X (.Call (.Attribute o name apos) (e :: es) [] cpos) (tBM X.K T r to t) := by
  intro pins s σ H Q I h
  refine wpAny_Call_method_late hbase hfew hline rfl (thn (ho pins s σ H _ I h) fun v s1 ⟨x, H1, I1, r1, ty, q1⟩ => ?_)
  obtain ⟨h1, h2⟩ := tyV_is I1 r1 ty
  refine ⟨T, id, pa, slot, hty, h1, h2, ?_⟩
  have hA := ha cpos pins s1 σ H1 _ I1 q1
  rw [hs] at hA ⊢
  refine Calls.callWith_builtin (by show (false || (backTo cpos (starEach es X.env)).any (·.1)) = false; rw [hplain] <;> rfl) (Calls.evalArgs_plain ?_)
  exact thn hA fun us s2 ⟨vs, H2, I2, r2, q2⟩ => hm pins s2 σ H2 x vs v us Q I2 r1 r2 q2
/- xs.append(e), list.index on a module's tuple .. are MtR facts of 06m -/
end
end L2
namespace L2
open PySem PySem.Spec PyProof.Rows
def MtM (X : Cx) (id : String) (r : V → List V → Hp → VK → Prop) : Prop :=
  ∀ (pins : List (Addr × Obj)) (s : Shared) (σ : St) (H : Hp) (x : V) (xs : List V) (v : Value) (us : List Value) (Q : VK), Inv X pins σ H s → RelV x v → Vals xs us → r x xs H Q →
    wpAny (model X.prog X.w) X.A (call (.builtin id) (v :: us)) (EP X pins σ Q) X.xe s
/-! ### lists of values -/
theorem Vals.one : ∀ {x : V} {us : List Value}, Vals [x] us → ∃ u, us = [u] ∧ RelV x u
  | _, _, .cons r .nil => ⟨_, rfl, r⟩
theorem Vals.rep {xs : List V} {us : List Value} (h : Vals xs us) : ∀ k : Nat, Vals (List.replicate k xs).flatten (List.replicate k us).flatten
  | 0 => .nil
  | k + 1 => by
    rw [List.replicate_succ, List.replicate_succ, List.flatten_cons, List.flatten_cons]
    exact Vals.append h (Vals.rep h k)
theorem foldl_rep (its : List Value) : ∀ (k : Nat) (acc : List Value),
    List.foldl (fun x1 x2 => x1 ++ x2) acc.toArray (List.replicate k its.toArray) = (acc ++ (List.replicate k its).flatten).toArray
  | 0, acc => by simp
  | k + 1, acc => by
    have e : acc.toArray ++ its.toArray = (acc ++ its).toArray := by simp
    have e2 : (acc ++ its) ++ (List.replicate k its).flatten = acc ++ (List.replicate (k + 1) its).flatten := by
      rw [List.replicate_succ, List.flatten_cons, List.append_assoc]
    rw [← e2, ← foldl_rep its k (acc ++ its), ← e, List.replicate_succ, List.foldl_cons]
section
variable {X : Cx} {pins : List (Addr × Obj)} {σ : St} {H : Hp} {s : Shared} {l b : Addr} {xs ys zs : List V}
/-! ### the two steps: a tracked list is rewritten, a new list is laid -/
theorem Inv.lset {its its' : List Value} {n : Nat} {f : Array Value → Array Value} {t' : Nat} (I : Inv X pins σ H s) (hH : H l = some (.lst xs))
    (e : s.heap.get? l = some { cls := .type "list", data := .seq its.toArray n }) (hf : f its.toArray = its'.toArray) (hv : Vals ys its') (hz : ys.length ≤ sizeLine) :
    Inv X pins σ (upd H l (.lst ys)) { s with heap := s.heap.update l (Obj.mapSeq f), toks := t' } := by
  have q := PySem.IsL.update e f
  rw [hf] at q
  refine I.write (x := l) (e := l) (by rw [hH]; exact trivial) (.inl rfl) (fun b' u hb hu => (Heap.get?_update_other s.heap (Obj.mapSeq f) (Ne.symm hb)).trans hu) ⟨_, q⟩ ?_
  exact ⟨hz, its', _, hv, q⟩
theorem Inv.lnew {its : List Value} {t' : Nat} (I : Inv X pins σ H s) (hv : Vals ys its) (hz : ys.length ≤ sizeLine) :
    Inv X pins σ (upd H s.heap.objs.size (.lst ys)) { s with heap := s.heap.push { cls := .type "list", data := .seq its.toArray }, toks := t' } :=
  I.laid (fun _ _ q => Heap.get?_push_of_some _ q) (Nat.le_refl _) ⟨hz, its, 0, hv, Heap.get?_push_size _ rfl⟩
theorem Inv.fresh (I : Inv X pins σ H s) : H s.heap.objs.size = none := I.hok.fresh (Nat.le_refl _)
theorem Inv.lstM (I : Inv X pins σ H s) (hH : H l = some (.lst xs)) : xs.length ≤ sizeLine ∧ ∃ (its : List Value) (n : Nat), Vals xs its ∧ xs.length = its.length ∧ s.heap.get? l = some { cls := .type "list", data := .seq its.toArray n } := by
  obtain ⟨z, its, n, r, e⟩ := I.hok l _ hH
  exact ⟨z, its, n, r, r.length, e⟩
theorem notLongL {n : Nat} (h : n ≤ sizeLine) : Builtin.List.listTooLong n = false := by
  unfold Builtin.List.listTooLong
  exact decide_eq_false (by omega)
end
section
variable {X : Cx}
/-! ### methods -/
def rAppend : V → List V → Hp → VK → Prop := fun x vs H Q => ∃ l xs y, x = .ref l ∧ vs = [y] ∧ H l = some (.lst xs) ∧ xs.length < sizeLine ∧ Q .non (upd H l (.lst (xs ++ [y])))
theorem mt_append : MtM X "list.append" rAppend := by
  intro pins s σ H x vs v us Q I rx rv h
  obtain ⟨l, xs, y, rfl, rfl, hH, hz, q⟩ := h
  cases rx
  obtain ⟨u, rfl, ru⟩ := rv.one
  obtain ⟨z, its, n, r, hl, e⟩ := I.lstM hH
  refine call_meets F.slot_list_append ⟨_, e, rfl⟩ F.entry_list_append (F.args_list_append_2 _ _) (PySem.list_append l its.toArray n u (by rw [List.size_toArray]; omega)) ⟨e, ?_⟩
  refine ⟨.non, _, I.lset (its' := its ++ [u]) hH e (by simp) (r.append (.cons ru .nil)) ?_, rfl, q⟩
  rw [List.length_append, List.length_singleton]
  omega
def rExtend : V → List V → Hp → VK → Prop := fun x vs H Q => ∃ l b xs zs, x = .ref l ∧ vs = [.ref b] ∧ H l = some (.lst xs) ∧ H b = some (.lst zs) ∧ xs.length + zs.length ≤ sizeLine ∧ Q .non (upd H l (.lst (xs ++ zs)))
theorem mt_extend : MtM X "list.extend" rExtend := by
  intro pins s σ H x vs v us Q I rx rv h
  obtain ⟨l, b, xs, zs, rfl, rfl, hH, hB, hz, q⟩ := h
  cases rx
  obtain ⟨u, rfl, ru⟩ := rv.one
  cases ru
  obtain ⟨z, its, n, r, hl, e⟩ := I.lstM hH
  obtain ⟨z2, its2, n2, r2, hl2, e2⟩ := I.lstM hB
  have hsz : its.toArray.size + its2.toArray.size ≤ sizeLine := by rw [List.size_toArray, List.size_toArray]; omega
  have hlong : ¬ (!its.toArray.isEmpty && Builtin.List.listTooLong (its.toArray.size + its2.toArray.size)) = true := by
    rw [notLongL hsz, Bool.and_false]
    exact Bool.false_ne_true
  refine call_meets F.slot_list_extend ⟨_, e, rfl⟩ F.entry_list_extend (F.args_list_extend_2 _ _)
    (AutoSeq1.list_extend_list_list_0 l its.toArray n b its2.toArray n2 hlong (by rw [List.size_toArray]; omega) (by omega)) ⟨e, e2, ?_⟩
  refine ⟨.non, _, I.lset (its' := its ++ its2) hH e (by simp) (r.append r2) ?_, rfl, q⟩
  rw [List.length_append]
  omega
/-! ### list + list, list += list, list * int -/
def rCat : R2 := fun x y H Q => ∃ l b xs zs, x = .ref l ∧ y = .ref b ∧ H l = some (.lst xs) ∧ H b = some (.lst zs) ∧ xs.length + zs.length ≤ sizeLine ∧ ∀ p, H p = none → Q (.ref p) (upd H p (.lst (xs ++ zs)))
theorem op_cat : OpR X (binaryOp .Add) rCat := by
  intro pins s σ H x y v u Q I rx ry h
  obtain ⟨l, b, xs, zs, rfl, rfl, hH, hB, hz, q⟩ := h
  cases rx
  cases ry
  obtain ⟨z, its, n, r, hl, e⟩ := I.lstM hH
  obtain ⟨z2, its2, n2, r2, hl2, e2⟩ := I.lstM hB
  refine PySem.P.add_list e e2 ?_ (by rw [List.size_toArray, List.size_toArray]; omega)
  have ea : its.toArray ++ its2.toArray = (its ++ its2).toArray := by simp
  rw [ea]
  exact ⟨.ref _, _, I.lnew (t' := s.toks) (r.append r2) (by rw [List.length_append]; omega), rfl, q _ I.fresh⟩
/-- a list times an int (a negative one is nothing) -/
def rRep : R2 := fun x y H Q => ∃ l k xs, x = .ref l ∧ y = .int k ∧ H l = some (.lst xs) ∧ -(2 ^ 63) ≤ k ∧ k < 2 ^ 63 ∧ xs.length * k.toNat ≤ sizeLine ∧
  ∀ p, H p = none → Q (.ref p) (upd H p (.lst (List.replicate k.toNat xs).flatten))
theorem len_rep {α : Type} (xs : List α) (k : Nat) : (List.replicate k xs).flatten.length = k * xs.length := by
  induction k with
  | zero => simp
  | succ k ih => rw [List.replicate_succ, List.flatten_cons, List.length_append, ih, Nat.succ_mul, Nat.add_comm]
theorem op_rep : OpR X (binaryOp .Mult) rRep := by
  intro pins s σ H x y v u Q I rx ry h
  obtain ⟨l, k, xs, rfl, rfl, hH, h1, h2, hz, q⟩ := h
  cases rx
  obtain ⟨t, rfl⟩ := ry
  obtain ⟨z, its, n, r, hl, e⟩ := I.lstM hH
  have hlen : its.toArray.size * k.toNat ≤ sizeLine := by rw [List.size_toArray, ← hl]; exact hz
  have hcap : ¬ its.toArray.size * k.toNat > (2 ^ 63 - 1) / 8 := by
    have : (sizeLine : Nat) ≤ (2 ^ 63 - 1) / 8 := by decide
    omega
  have hfit : ¬ (!Builtin.List.listFitsIndex k) = true := by
    rw [fitsIndex_both h1 h2]
    exact Bool.false_ne_true
  have hlong : ¬ Builtin.List.listTooLong (its.toArray.size * k.toNat) = true := by
    rw [notLongL hlen]
    exact Bool.false_ne_true
  have hnew : List.foldl (fun x1 x2 => x1 ++ x2) #[] (List.replicate (if its.toArray.isEmpty = true then 0 else k.toNat) its.toArray) = (List.replicate k.toNat its).flatten.toArray := by
    have f0 : ∀ m : Nat, List.foldl (fun x1 x2 => x1 ++ x2) #[] (List.replicate m its.toArray) = (List.replicate m its).flatten.toArray := fun m => by
      have := foldl_rep its m []
      rw [List.nil_append] at this
      exact this
    rw [f0]
    cases its with
    | nil => simp
    | cons a r' => rw [if_neg (by simp)]
  refine wpAny_binaryOp_repeat_ref (T := "list") (U := "int") (by decide) ⟨_, e, rfl⟩ (fun s' => typeIs_int s' k t) noFill_list_mul F.fills_int_mul F.slot_int_rmul repeat_list F.slot_int_index.lookup
    (call_meets F.slot_int_rmul (typeIs_int s k t) F.entry_int_rmul (F.args_int_rmul_2 _ _) (int___rmul___int_list k t l its.toArray n)
      ⟨e, rfl, ⟨_, e, rfl⟩, call_meets F.slot_list_mul ⟨_, e, rfl⟩ F.entry_list_mul (F.args_list_mul_2 _ _) (AutoListH.list___mul___list_int_3 l its.toArray n k t hfit hcap hlong) ⟨e, ?_⟩⟩)
  rw [hnew]
  exact ⟨.ref _, _, I.lnew (t' := s.toks) (r.rep k.toNat) (by rw [len_rep, Nat.mul_comm]; exact hz), rfl, q _ I.fresh⟩
/-! ### del xs[i] -/
end
/-! ### xs[a:b] = ys -/
section
variable {prog : Program} {w : World} {A : Around} {E : Value → Shared → Prop} {s : Shared}
set_option maxRecDepth 100000 in
end
section
variable {X : Cx}
end
end L2
namespace L2
open PySem PySem.Spec PyProof.Rows
theorem Vals.ints : ∀ {ns : List Int} {us : List Value}, Vals (ns.map V.int) us → IntsAre us ns
  | [], us, h => by
    rw [List.map_nil] at h
    cases h
    exact IntsAre.nil
  | n :: ns, us, h => by
    rw [List.map_cons] at h
    cases h with
    | cons r t =>
      obtain ⟨k, rfl⟩ := r
      exact IntsAre.cons n k (Vals.ints t)
theorem vals_of_ints : ∀ {us : List Value} {ns : List Int}, IntsAre us ns → Vals (ns.map V.int) us
  | _, _, .nil => by rw [List.map_nil]; exact Paired.nil
  | _, _, .cons n t h => by rw [List.map_cons]; exact Paired.cons (show RelV (V.int n) (Value.int n t) from ⟨t, rfl⟩) (vals_of_ints h)
theorem Vals.bls : ∀ {bs : List Bool} {us : List Value}, Vals (bs.map V.bl) us → us = bs.map Value.bool
  | [], us, h => by
    rw [List.map_nil] at h
    cases h
    rfl
  | b :: bs, us, h => by
    rw [List.map_cons] at h
    cases h with
    | cons r t =>
      cases r
      rw [Vals.bls t, List.map_cons]
theorem Vals.ref1 {a : Addr} {us : List Value} (r : Vals [V.ref a] us) : us = [Value.ref a] := by
  cases r with
  | cons r t =>
    cases t
    cases r
    rfl
/-! ### the library's walks over a list of ints, kept objects alone -/
section
variable {prog : Program} {w : World} {A : Around} {E : Value → Shared → Prop} {s : Shared} {l : Addr} {its : List Value} {ns : List Int} {Q : Value → Shared → Prop}
end
/-! ### the calls, by values (CallR of 03t; MtR of 06l) -/
section
variable {X : Cx}
/-! sorted, sort (fewer than 64 items: the library's own bound) -/
end
/-! ### list.index, flat items -/
section
variable {X : Cx}
def rIndex (K : PySem.W.Frag) : V → List V → Hp → VK → Prop := fun x xs H Q => ∃ (a : Addr) (ys : List V) (y : V) (j : Nat) (z : V), x = V.ref a ∧ xs = [y] ∧ SqL K H a ys ∧ flatV y = true ∧ ys.all flatV = true ∧ ys[j]? = some z ∧ eqV z y = true ∧
  (∀ (m : Nat) (z' : V), m < j → ys[m]? = some z' → eqV z' y = false) ∧ Q (.int (j : Nat)) H
theorem flat_at {ys : List V} (f : ys.all flatV = true) {j : Nat} {z : V} (h : ys[j]? = some z) : flatV z = true := List.all_eq_true.mp f z (List.mem_of_getElem? h)
theorem mt_index : MtR X "list.index" (rIndex X.K) := by
  intro pins s σ H x xs v us Q I rx rxs h
  obtain ⟨a, ys, y, j, z, rfl, rfl, hs, fy, fys, hz, hzj, hno, q⟩ := h
  cases rx
  cases rxs with
  | cons ry rt =>
    rename_i uy ut
    cases rt
    obtain ⟨its, rv, ⟨⟨cls, dd, data, sl⟩, n, ho, hc, hdn, hd⟩, hlen⟩ := I.list hs
    simp only at hc hd
    subst hc hd
    obtain ⟨u, hu, ru⟩ := rv.get hz
    obtain ⟨hjl, hje⟩ := List.getElem?_eq_some_iff.mp hu
    have hvl := rv.length
    have hj : j < its.toArray.size := by simpa using hjl
    have hsl := sizeLine_eq
    refine call_meets PySem.F.slot_list_index ⟨_, ho, rfl⟩ PySem.F.entry_list_index (PySem.F.args_list_index_2 _ _)
      (SeqAt.list_indexAt a its.toArray n dd sl uy (eqU y) j hj (by omega) ?_ ?_) ⟨ho, fun u' hu' => mem_eqAt ry fy rv fys u' (by simpa using hu'), ?_⟩
    · have e1 : its.toArray[j] = u := by simpa using hje
      rw [e1, eqU_of ru (flat_at fys hz)]
      exact hzj
    · intro m hm hmj
      have hml : m < its.length := by simpa using hm
      have hmy : m < ys.length := by omega
      have hy' : ys[m]? = some ys[m] := List.getElem?_eq_getElem hmy
      obtain ⟨u2, hu2, ru2⟩ := rv.get hy'
      obtain ⟨_, hme⟩ := List.getElem?_eq_some_iff.mp hu2
      have e1 : its.toArray[m] = u2 := by simpa using hme
      rw [e1, eqU_of ru2 (flat_at fys hy')]
      exact hno m _ hmj hy'
    · exact ⟨.int (j : Nat), H, I.tok _, ⟨_, rfl⟩, q⟩
end
/-! ### type(x) of an own instance; is, is not of a module's class -/
section
variable {X : Cx}
end
/-! ### any(xs), all(xs) of a list of bools -/
theorem iter_any {prog : Program} {w : World} {A : Around} {E : Value → Shared → Prop} {s : Shared} {l : Addr} {items : Array Value} {Q : Value → Shared → Prop} (hl : s.heap.IsList l items)
    (h : ∀ s₂ : Shared, s₂ = { s with heap := s.heap.push { cls := .type "list_iterator", data := .fields #[.ref l, .int 0 0] } } →
      (s₂.heap.IsListIter s.heap.objs.size l 0 ∧ s₂.heap.IsList l items) → l ≠ s.heap.objs.size → Q (.ref s.heap.objs.size) s₂) : wpAny (model prog w) A (pyIter (.ref l)) Q E s := by
  have hlt : l < s.heap.objs.size := by obtain ⟨_, e, _⟩ := hl; exact Heap.lt_size e
  exact wpAny_pyIter_list hl (h _ rfl ⟨⟨_, Heap.get?_push_size _ rfl, rfl, rfl⟩, hl.push _⟩ (Nat.ne_of_lt hlt))
theorem truth_bools {prog : Program} {w : World} {A : Around} {bs : List Bool} {its : List Value} (e : its = bs.map Value.bool) :
    TruthOf prog w A (fun i v => its.toArray[i]? = some v) (fun i => bs.getD i false) := fun i v s Q E hv hq => by
  have hv' : its[i]? = some v := by simpa using hv
  rw [e, List.getElem?_map] at hv'
  obtain ⟨b, hb, rfl⟩ := Option.map_eq_some_iff.mp hv'
  have hg : bs.getD i false = b := by rw [List.getD_eq_getElem?_getD, hb] <;> rfl
  have hq' : Q (bs.getD i false) s := hq
  rw [hg] at hq'
  exact wpAny_truthy_bool hq'
theorem any_range : ∀ bs : List Bool, (List.range bs.length).any (fun i => bs.getD i false) = bs.any id
  | [] => rfl
  | b :: bs => by
    rw [List.length_cons, List.range_succ_eq_map, List.any_cons, List.any_map, List.any_cons, ← any_range bs]
    all_goals rfl
theorem all_range : ∀ bs : List Bool, (List.range bs.length).all (fun i => bs.getD i false) = bs.all id
  | [] => rfl
  | b :: bs => by
    rw [List.length_cons, List.range_succ_eq_map, List.all_cons, List.all_map, List.all_cons, ← all_range bs]
    all_goals rfl
section
variable {X : Cx}
def rAny (K : PySem.W.Frag) : List V → Hp → VK → Prop := fun vs H Q => ∃ (a : Addr) (bs : List Bool), vs = [V.ref a] ∧ SqL K H a (bs.map V.bl) ∧ Q (.bl (bs.any id)) H
def rAll (K : PySem.W.Frag) : List V → Hp → VK → Prop := fun vs H Q => ∃ (a : Addr) (bs : List Bool), vs = [V.ref a] ∧ SqL K H a (bs.map V.bl) ∧ Q (.bl (bs.all id)) H
theorem cr_any (hc : X.calm = true) : CallR X (.builtin "any") (rAny X.K) := by
  intro pins s σ H vs us Q I r h
  obtain ⟨a, bs, rfl, hs, q⟩ := h
  obtain ⟨its, rv, hl, _⟩ := I.list hs
  rw [Vals.ref1 r]
  have hb := rv.bls
  refine call_any_walk (iter_any hl.isList fun s₂ e2 st hne => ?_)
  subst e2
  refine ⟨_, _, _, _, _, _, _, rfl, Walks.list (A := X.A.in1) (I.ok.hd hc) _ a hne its.toArray, st, truth_bools hb, fun h' tk hk => ?_⟩
  refine ⟨.bl _, H, I.kept fun b o eo => hk b o (fun hmem => ?_) (Heap.get?_push_of_some _ eo), ?_, q⟩
  · rcases List.mem_cons.mp hmem with e1 | hmem
    · exact absurd (e1 ▸ Heap.lt_size eo) (Nat.lt_irrefl _)
    · cases hmem
  · show Value.bool _ = Value.bool _
    rw [← any_range, hb, List.size_toArray, List.length_map]
theorem cr_all (hc : X.calm = true) : CallR X (.builtin "all") (rAll X.K) := by
  intro pins s σ H vs us Q I r h
  obtain ⟨a, bs, rfl, hs, q⟩ := h
  obtain ⟨its, rv, hl, _⟩ := I.list hs
  rw [Vals.ref1 r]
  have hb := rv.bls
  refine call_all_walk (iter_any hl.isList fun s₂ e2 st hne => ?_)
  subst e2
  refine ⟨_, _, _, _, _, _, _, rfl, Walks.list (A := X.A.in1) (I.ok.hd hc) _ a hne its.toArray, st, truth_bools hb, fun h' tk hk => ?_⟩
  refine ⟨.bl _, H, I.kept fun b o eo => hk b o (fun hmem => ?_) (Heap.get?_push_of_some _ eo), ?_, q⟩
  · rcases List.mem_cons.mp hmem with e1 | hmem
    · exact absurd (e1 ▸ Heap.lt_size eo) (Nat.lt_irrefl _)
    · cases hmem
  · show Value.bool _ = Value.bool _
    rw [← all_range, hb, List.size_toArray, List.length_map]
end
/-! ### == and != of data at any depth: none, bools, ints, texts, lists, tuples -/
section
variable {X : Cx} {pins : List (Addr × Obj)} {σ : St} {H : Hp} {s : Shared}
end
section
variable {X : Cx}
end
end L2
namespace L2
open PySem PySem.Spec PyProof.Rows
abbrev CellAt (h : Heap) (c : Addr) (v : Option Value) : Prop := h.IsCell c v
def relS (scope sc : Scope) : Scope :=
  { scope with names := scope.names.map fun (n, k) => if (k == .free && sc.kind == .function && sc.names.lookup n == some .cell) then (n, .cell) else (n, k) }
def cloFrom (cells : List (Str × Addr)) : List (Str × NameKind) → List (Str × Addr) → List (Str × Addr)
  | [], acc => acc
  | (n, k) :: r, acc => if k == .free then cloFrom cells r ((n, (cells.lookup n).getD 0) :: acc) else cloFrom cells r acc
theorem closure_loop (env : Env) (f : Str × NameKind → List (Str × Addr) → Sem (ForInStep (List (Str × Addr))))
    (hf : ∀ n k c, f (n, k) c = if k == .free then (do let a ← cellOf env n; pure (.yield ((n, a) :: c))) else pure (.yield c)) :
    ∀ (names : List (Str × NameKind)) (acc : List (Str × Addr)), (∀ y ∈ names, y.2 = .free → ∃ c, env.cells.lookup y.1 = some c) → forIn names acc f = pure (cloFrom env.cells names acc)
  | [], acc, _ => by rw [List.forIn_nil]; rfl
  | (n, k) :: r, acc, h => by
    rw [List.forIn_cons, hf]
    have ih := fun acc => closure_loop env f hf r acc fun y hy => h y (List.mem_cons_of_mem _ hy)
    unfold cloFrom
    by_cases hk : (k == NameKind.free) = true
    · rw [if_pos hk, if_pos hk]
      obtain ⟨c, hc⟩ := h (n, k) List.mem_cons_self (by simpa using hk)
      have e : cellOf env n = pure c := by unfold cellOf; rw [hc]
      rw [e]
      have e2 : (env.cells.lookup n).getD 0 = c := by rw [hc]; rfl
      rw [e2]
      exact ih _
    · rw [if_neg hk, if_neg hk]
      exact ih _
theorem closure_ok {scope : Scope} {env : Env} (h : ∀ y ∈ scope.names, y.2 = .free → ∃ c, env.cells.lookup y.1 = some c) : closureFor scope env = pure (cloFrom env.cells scope.names []) := by
  simp only [closureFor]
  rw [closure_loop env _ (fun n k c => rfl) scope.names [] h]
  rfl
theorem mem_lookup {α : Type} : ∀ {l : List (Str × α)} {n : Str} {c : α}, (n, c) ∈ l → ∃ c', l.lookup n = some c'
  | (k, v) :: r, n, c, h => by
    rw [List.lookup_cons]
    cases hb : n == k with
    | true => exact ⟨_, rfl⟩
    | false =>
      rcases List.mem_cons.mp h with e | h
      · cases e; simp at hb
      · exact mem_lookup h
theorem cloFrom_mem {cells : List (Str × Addr)} : ∀ {names : List (Str × NameKind)} {acc : List (Str × Addr)} {n : Str} {c : Addr}, (n, c) ∈ cloFrom cells names acc → (n, c) ∈ acc ∨ ((n, .free) ∈ names ∧ c = (cells.lookup n).getD 0)
  | [], _, _, _, h => .inl h
  | (m, k) :: r, acc, n, c, h => by
    unfold cloFrom at h
    split at h
    · rename_i hk
      have hk : k = .free := by simpa using hk
      rcases cloFrom_mem h with h | ⟨h1, h2⟩
      · rcases List.mem_cons.mp h with e | h
        · cases e; exact .inr ⟨hk ▸ List.mem_cons_self, rfl⟩
        · exact .inl h
      · exact .inr ⟨List.mem_cons_of_mem _ h1, h2⟩
    · rcases cloFrom_mem h with h | ⟨h1, h2⟩
      · exact .inl h
      · exact .inr ⟨List.mem_cons_of_mem _ h1, h2⟩
theorem cloFrom_acc {cells : List (Str × Addr)} : ∀ {names : List (Str × NameKind)} {acc : List (Str × Addr)} {p : Str × Addr}, p ∈ acc → p ∈ cloFrom cells names acc
  | [], _, _, h => h
  | (m, k) :: r, acc, p, h => by
    unfold cloFrom
    split
    · exact cloFrom_acc (List.mem_cons_of_mem _ h)
    · exact cloFrom_acc h
theorem cloFrom_has {cells : List (Str × Addr)} : ∀ {names : List (Str × NameKind)} {acc : List (Str × Addr)} {n : Str}, (n, .free) ∈ names → (n, (cells.lookup n).getD 0) ∈ cloFrom cells names acc
  | (m, k) :: r, acc, n, h => by
    unfold cloFrom
    rcases List.mem_cons.mp h with e | h
    · cases e
      exact cloFrom_acc List.mem_cons_self
    · split
      · exact cloFrom_has h
      · exact cloFrom_has h
theorem cells_mem : ∀ {names : List (Str × NameKind)} {h : Heap} {acc : List (Str × Addr)} {x : Str} {c : Addr}, (x, c) ∈ cellsFrom h.objs.size names acc →
    (x, c) ∈ acc ∨ ((x, .cell) ∈ names ∧ h.objs.size ≤ c ∧ CellAt (pushCells h names) c none)
  | [], _, _, _, _, h => .inl h
  | (n, k) :: r, h, acc, x, c, hm => by
    unfold cellsFrom at hm
    unfold pushCells
    split at hm
    · rename_i hk
      rw [if_pos hk]
      have hk : k = .cell := by simpa using hk
      rw [← Heap.size_push h { cls := .type "cell", data := .cell none }] at hm
      rcases cells_mem hm with hm | ⟨h1, h2, h3⟩
      · rcases List.mem_cons.mp hm with e | hm
        · cases e
          exact .inr ⟨hk ▸ List.mem_cons_self, Nat.le_refl _, _, pushCells_keeps r _ _ _ (Heap.get?_push_size _ rfl), rfl⟩
        · exact .inl hm
      · rw [Heap.size_push] at h2
        exact .inr ⟨List.mem_cons_of_mem _ h1, Nat.le_of_succ_le h2, h3⟩
    · rename_i hk
      rw [if_neg hk]
      rcases cells_mem hm with hm | ⟨h1, h2, h3⟩
      · exact .inl hm
      · exact .inr ⟨List.mem_cons_of_mem _ h1, h2, h3⟩
theorem cells_acc : ∀ {names : List (Str × NameKind)} {n : Nat} {acc : List (Str × Addr)} {p : Str × Addr}, p ∈ acc → p ∈ cellsFrom n names acc
  | [], _, _, _, h => h
  | (m, k) :: r, n, acc, p, h => by
    unfold cellsFrom
    split
    · exact cells_acc (List.mem_cons_of_mem _ h)
    · exact cells_acc h
theorem cells_has : ∀ {names : List (Str × NameKind)} {n : Nat} {acc : List (Str × Addr)} {x : Str}, (x, .cell) ∈ names → ∃ c, (x, c) ∈ cellsFrom n names acc
  | (m, k) :: r, n, acc, x, h => by
    unfold cellsFrom
    rcases List.mem_cons.mp h with e | h
    · cases e
      exact ⟨n, cells_acc List.mem_cons_self⟩
    · split
      · exact cells_has h
      · exact cells_has h
theorem cells_inj : ∀ {names : List (Str × NameKind)} {h : Heap} {acc : List (Str × Addr)} {x y : Str} {c : Addr}, (∀ p ∈ acc, p.2 < h.objs.size) → (∀ x y c, (x, c) ∈ acc → (y, c) ∈ acc → x = y) →
    (x, c) ∈ cellsFrom h.objs.size names acc → (y, c) ∈ cellsFrom h.objs.size names acc → x = y
  | [], _, _, _, _, _, _, hi, h1, h2 => hi _ _ _ h1 h2
  | (n, k) :: r, h, acc, x, y, c, hl, hi, h1, h2 => by
    unfold cellsFrom at h1 h2
    split at h1
    · rename_i hk
      rw [if_pos hk] at h2
      rw [← Heap.size_push h { cls := .type "cell", data := .cell none }] at h1 h2
      refine cells_inj (h := h.push _) (fun p hp => ?_) (fun x y c a b => ?_) h1 h2
      · rw [Heap.size_push]
        rcases List.mem_cons.mp hp with rfl | hp
        · exact Nat.lt_succ_self _
        · exact Nat.lt_succ_of_lt (hl p hp)
      · rcases List.mem_cons.mp a with e | a <;> rcases List.mem_cons.mp b with e' | b
        · cases e; cases e'; rfl
        · cases e; exact absurd (hl _ b) (Nat.lt_irrefl _)
        · cases e'; exact absurd (hl _ a) (Nat.lt_irrefl _)
        · exact hi _ _ _ a b
    · rename_i hk
      rw [if_neg hk] at h2
      exact cells_inj hl hi h1 h2
theorem newEnv_comp {M : Model} {A : Around} {E : Value → Shared → Prop} {s : Shared} {scope : Scope} {globals : Addr} {closure : List (Str × Addr)} {qual : Str} {func : Option Addr} {code : Value} {around : Env} {builtins : Addr} {Q : Env → Shared → Prop}
    (h : Q (newEnv scope s.heap.objs.size globals (cellsFrom (s.heap.objs.size + 1) scope.names closure) qual func code (some around) builtins)
      { s with heap := pushCells (s.heap.push { cls := .type "dict", data := .dict #[] }) scope.names }) :
    wpAny M A (newFunctionEnv scope globals closure [] qual func code (some around) builtins) Q E s := by
  simp only [newFunctionEnv, Option.isSome_some, if_true]
  refine wpAny_bind (wpAny_alloc ?_)
  refine wpAny_bind (wpAny_layCells _ (fun n k c => rfl) scope.names closure _ _ ?_)
  rw [show ({ s with heap := s.heap.push { cls := .type "dict", data := .dict #[] } } : Shared).heap.objs.size = s.heap.objs.size + 1 from Heap.size_push ..]
  rw [List.forIn_nil]
  exact wpAny_bind (wpAny_pure (wpAny_pure h))
/-- every name of the written scope, in the scope that runs -/
theorem lookup_relS {sc : Scope} : ∀ {names : List (Str × NameKind)} {x : Str} {k : NameKind},
    (names.map fun (n, k) => if (k == NameKind.free && sc.kind == .function && sc.names.lookup n == some .cell) then (n, NameKind.cell) else (n, k)).lookup x = some k →
    ∃ k', names.lookup x = some k' ∧ (k = k' ∨ (k' = .free ∧ k = .cell))
  | [], _, _, h => by simp at h
  | (n, k₀) :: r, x, k, h => by
    have ih := @lookup_relS sc r x k
    have h' : List.lookup x ((if (k₀ == NameKind.free && sc.kind == .function && sc.names.lookup n == some .cell) = true then (n, NameKind.cell) else (n, k₀)) :: (r.map _)) = some k := h
    cases hx : x == n with
    | true =>
      simp only [List.lookup_cons, hx]
      by_cases hc : (k₀ == NameKind.free && sc.kind == .function && sc.names.lookup n == some .cell) = true
      · rw [if_pos hc] at h'
        simp only [List.lookup_cons, hx] at h'
        cases h'
        simp only [Bool.and_eq_true, beq_iff_eq] at hc
        exact ⟨k₀, rfl, .inr ⟨hc.1.1, rfl⟩⟩
      · rw [if_neg hc] at h'
        simp only [List.lookup_cons, hx] at h'
        cases h'
        exact ⟨_, rfl, .inl rfl⟩
    | false =>
      simp only [List.lookup_cons, hx]
      by_cases hc : (k₀ == NameKind.free && sc.kind == .function && sc.names.lookup n == some .cell) = true
      · rw [if_pos hc] at h'
        simp only [List.lookup_cons, hx] at h'
        exact ih h'
      · rw [if_neg hc] at h'
        simp only [List.lookup_cons, hx] at h'
        exact ih h'
/-- the names of a comprehension's block: its own (with their places in N), or captured -/
structure BlkOk (N : List Str) (sc scope : Scope) (own : List (Str × Nat)) : Prop where
  kind : scope.kind = .function
  uniq : ∀ y ∈ scope.names, scope.names.lookup y.1 = some y.2
  ix : ∀ p ∈ own, N[p.2]? = some p.1
  free : ∀ y ∈ scope.names, y.2 = .free → sc.names.lookup y.1 = some .cell ∨ sc.names.lookup y.1 = some .free
  own : ∀ y ∈ scope.names, y.2 = .local ∨ y.2 = .cell → y.1 ∈ own.map (·.1) ∨ y.1 ∉ N
/-- the slots of the block's own names forgotten -/
def wipe (σ : St) : List Nat → St
  | [] => σ
  | v :: vs => (wipe σ vs).set v none
theorem wipe_length (σ : St) : ∀ vs : List Nat, (wipe σ vs).length = σ.length
  | [] => rfl
  | v :: vs => by unfold wipe; rw [List.length_set, wipe_length σ vs]
theorem wipe_some {σ : St} {i : Nat} {x : V} : ∀ {vs : List Nat}, (wipe σ vs)[i]? = some (some x) → σ[i]? = some (some x) ∧ i ∉ vs
  | [], h => ⟨h, by simp⟩
  | v :: vs, h => by
    unfold wipe at h
    by_cases hi : v = i
    · subst hi
      by_cases hv : v < (wipe σ vs).length
      · rw [List.getElem?_set_self hv] at h; cases h
      · rw [List.getElem?_eq_none (by simpa using hv)] at h; cases h
    · rw [List.getElem?_set_ne hi] at h
      obtain ⟨h1, h2⟩ := wipe_some h
      exact ⟨h1, by simp only [List.mem_cons, not_or]; exact ⟨fun e => hi e.symm, h2⟩⟩
/-- the context of a block that starts at s, its iterator's objects at fp -/
abbrev Cx.blk (X : Cx) (s : Shared) (H : Hp) (scope : Scope) (cenv : Env) (fp : List Addr) : Cx := { X with s₀ := s, H₀ := H, env := cenv, outer := X.stack, ex := fp, fn := fun x => scope.names.lookup x == some .cell, pn := [], xe := fun _ _ => False }
section
variable {X : Cx} {pins : List (Addr × Obj)} {σ : St} {H : Hp} {s : Shared}
theorem block_start {scope : Scope} {own : List (Str × Nat)} {fp : List Addr} (I : Inv X pins σ H s) (ok : BlkOk X.N X.env.scope scope own) (hN : X.N.Nodup) (hfp : ∀ b ∈ fp, FpOk X pins H b ∧ b < s.heap.objs.size) :
    Inv (X.blk s H scope (compEnvC scope (cellsFrom (s.heap.objs.size + 1) scope.names (cloFrom X.env.cells scope.names [])) s.heap.objs.size X.env) fp) [] (wipe σ (own.map (·.2))) H { s with heap := pushCells (s.heap.push { cls := .type "dict", data := .dict #[] }) scope.names } := by
  have hfree : ∀ y ∈ scope.names, y.2 = .free → ∃ c, X.env.cells.lookup y.1 = some c := fun y hy e => by
    rcases ok.free y hy e with k | k
    · exact I.ok.has _ (.inl k)
    · exact I.ok.has _ (.inr k)
  generalize hcenv : compEnvC scope (cellsFrom (s.heap.objs.size + 1) scope.names (cloFrom X.env.cells scope.names [])) s.heap.objs.size X.env = cenv
  have kp : ∀ b o, s.heap.get? b = some o → (pushCells (s.heap.push { cls := .type "dict", data := .dict #[] }) scope.names).get? b = some o := fun b o e => pushCells_keeps _ _ _ _ (Heap.get?_push_of_some _ e)
  have hL : cenv.locals = s.heap.objs.size := by rw [← hcenv]; rfl
  have hcl : cenv.cells = cellsFrom (s.heap.objs.size + 1) scope.names (cloFrom X.env.cells scope.names []) := by rw [← hcenv]; rfl
  have hsc : cenv.scope = relS scope X.env.scope := by rw [← hcenv]; rfl
  rw [← Heap.size_push s.heap { cls := .type "dict", data := .dict #[] }] at hcl
  have cm : ∀ {y c}, (y, c) ∈ cloFrom X.env.cells scope.names [] → X.env.cells.lookup y = some c ∧ c < s.heap.objs.size := fun {y c} hm => by
    rcases cloFrom_mem hm with hm | ⟨h1, rfl⟩
    · cases hm
    · obtain ⟨c, hc⟩ := hfree _ h1 rfl
      rw [hc]
      obtain ⟨w, z⟩ := I.cell _ _ hc
      exact ⟨rfl, z.lt⟩
  have mem : ∀ {y c}, cenv.cells.lookup y = some c → (X.env.cells.lookup y = some c ∧ c < s.heap.objs.size) ∨ (s.heap.objs.size + 1 ≤ c ∧ CellAt (pushCells (s.heap.push { cls := .type "dict", data := .dict #[] }) scope.names) c none) := fun {y c} e => by
    rw [hcl] at e
    rcases cells_mem (PySem.mem_of_lookup e) with hm | ⟨_, h2, h3⟩
    · exact .inl (cm hm)
    · rw [Heap.size_push] at h2; exact .inr ⟨h2, h3⟩
  have look : ∀ {y}, scope.names.lookup y = some .free → ∃ c, cenv.cells.lookup y = some c ∧ X.env.cells.lookup y = some c := fun {y} hl => by
    have hy : (y, NameKind.free) ∈ scope.names := PySem.mem_of_lookup hl
    obtain ⟨c', e'⟩ := mem_lookup (cells_acc (names := scope.names) (n := (s.heap.push { cls := .type "dict", data := .dict #[] }).objs.size) (cloFrom_has (cells := X.env.cells) (acc := []) hy))
    rw [← hcl] at e'
    refine ⟨c', e', ?_⟩
    rw [hcl] at e'
    rcases cells_mem (PySem.mem_of_lookup e') with hm | ⟨h1, _, _⟩
    · exact (cm hm).1
    · have := ok.uniq _ h1
      rw [hl] at this; cases this
  have okB : (X.blk s H scope cenv fp).Ok := by
    refine ⟨I.ok.mod, by show cenv.scope.kind = _; rw [hsc]; exact ok.kind, by show cenv.globals = _; rw [← hcenv]; exact I.ok.glob, by show cenv.builtins = _; rw [← hcenv]; exact I.ok.blt, by show s.heap.objs.size ≤ cenv.locals; rw [hL]; exact Nat.le_refl _,
      fun y z c e1 e2 => ?_, fun y hy => ?_, fun y c z e => ?_, I.ok.hd, I.ok.frames, .inl rfl, fun b hb => ⟨?_, fun y c e z => ?_⟩, I.bs, Nat.le_trans I.ok.bsz I.sz, fun b o e hb => ?_, fun b hb z => ?_, I.stack, I.stkFree⟩
    · have e1 : cenv.cells.lookup y = some c := e1
      have e2 : cenv.cells.lookup z = some c := e2
      rw [hcl] at e1 e2
      refine cells_inj (fun p hp => ?_) (fun y z c a b => I.ok.inj y z c (cm a).1 (cm b).1) (PySem.mem_of_lookup e1) (PySem.mem_of_lookup e2)
      rw [Heap.size_push]
      exact Nat.lt_succ_of_lt (cm (y := p.1) (c := p.2) hp).2
    · show ∃ c, cenv.cells.lookup y = some c
      have key : ∀ k, cenv.kindOf y = some k → (k = .cell ∨ k = .free) → ∃ c, cenv.cells.lookup y = some c := fun k hk hk' => by
        unfold Env.kindOf at hk
        rw [hsc] at hk
        obtain ⟨k', e, r⟩ := lookup_relS hk
        have : k' = .cell ∨ k' = .free := by
          rcases r with rfl | ⟨rfl, _⟩
          · exact hk'
          · exact .inr rfl
        rcases this with rfl | rfl
        · obtain ⟨c, hm⟩ := cells_has (n := (s.heap.push { cls := .type "dict", data := .dict #[] }).objs.size) (acc := cloFrom X.env.cells scope.names []) (PySem.mem_of_lookup e)
          obtain ⟨c', e'⟩ := mem_lookup hm
          exact ⟨c', by rw [hcl]; exact e'⟩
        · obtain ⟨c, h1, _⟩ := look e
          exact ⟨c, h1⟩
      rcases hy with hy | hy
      · exact key _ hy (.inl rfl)
      · exact key _ hy (.inr rfl)
    · have z : (scope.names.lookup y == some NameKind.cell) = true := z
      have z : scope.names.lookup y = some .cell := by simpa using z
      have e : cenv.cells.lookup y = some c := e
      rw [hcl] at e
      rcases cells_mem (PySem.mem_of_lookup e) with hm | ⟨_, h2, _⟩
      · rcases cloFrom_mem hm with hm | ⟨h1, _⟩
        · cases hm
        · have q := ok.uniq _ h1
          rw [z] at q; cases q
      · rw [Heap.size_push] at h2
        exact Nat.le_of_succ_le h2
    · show b ≠ cenv.locals
      rw [hL]; exact Nat.ne_of_lt (hfp b hb).2
    · have e : cenv.cells.lookup y = some c := e
      rcases mem e with ⟨h1, _⟩ | ⟨h1, _⟩
      · exact (hfp b hb).1.2.2.2.2.1 y c h1 z
      · have h2 : s.heap.objs.size + 1 ≤ b := by rw [← z]; exact h1
        exact absurd (Nat.lt_of_lt_of_le (hfp b hb).2 (Nat.le_of_succ_le h2)) (Nat.lt_irrefl _)
    · rcases (hfp b hb).1.2.2.2.1 with z | z
      · exact I.ok.noex b o e z
      · exact absurd (Nat.lt_of_lt_of_le (Heap.lt_size e) (Nat.le_trans I.ok.bsz z)) (Nat.lt_irrefl _)
    · rcases List.mem_cons.mp (I.stkSub b z) with z | z
      · exact (hfp b hb).1.2.1 z
      · exact (hfp b hb).1.2.2.1 z
  refine ⟨okB, rfl, I.bare, Un.kept kp, ⟨fun _ => none, ?_, fun i y av e1 e2 e3 => ?_⟩, fun y c e => ?_, ?_, fun y c e => ?_, fun p hp => ?_, I.hok.kept kp, by rw [wipe_length]; exact I.len⟩
  · show Heap.Ns _ cenv.locals _
    rw [hL]
    exact Heap.Ns.keeps (Heap.Ns.new ..) fun b o e => pushCells_keeps _ _ _ _ e
  · obtain ⟨e2, hne⟩ := wipe_some e2
    have hfr : scope.names.lookup y = some .free ∧ (cenv.kindOf y = some .cell ∨ cenv.kindOf y = some .free) := by
      have key : ∀ k, cenv.scope.names.lookup y = some k → k = .local ∨ k = .cell ∨ k = .free → scope.names.lookup y = some .free ∧ (cenv.kindOf y = some .cell ∨ cenv.kindOf y = some .free) := fun k hk hk' => by
        have hk0 := hk
        rw [hsc] at hk
        obtain ⟨k', e, r⟩ := lookup_relS hk
        have no : ¬ (k' = .local ∨ k' = .cell) := fun hh => by
          rcases ok.own _ (PySem.mem_of_lookup e) hh with e' | e'
          · obtain ⟨p, hp, hpy⟩ := List.mem_map.mp e'
            have e3 := ok.ix p hp
            have : p.1 = y := hpy
            rw [this] at e3
            exact hne (List.mem_map.mpr ⟨p, hp, nodup_ix hN e3 e1⟩)
          · exact e' (List.mem_of_getElem? e1)
        rcases r with rfl | ⟨rfl, rfl⟩
        · rcases hk' with rfl | rfl | rfl
          · exact absurd (.inl rfl) no
          · exact absurd (.inr rfl) no
          · exact ⟨e, .inr hk0⟩
        · exact ⟨e, .inl hk0⟩
      have e3 : Vis cenv.scope y := e3
      rcases e3 with e3 | e3 | e3
      · exact key _ e3 (.inl rfl)
      · exact key _ e3 (.inr (.inl rfl))
      · exact key _ e3 (.inr (.inr rfl))
    obtain ⟨m, hn, hl⟩ := I.loc
    have hvis : Vis X.env.scope y := (ok.free _ (PySem.mem_of_lookup hfr.1) rfl).elim (fun k => .inr (.inl k)) (fun k => .inr (.inr k))
    obtain ⟨w, r, q⟩ := hl i y av e1 e2 hvis
    refine ⟨w, r, .inr ⟨hfr.2, ?_⟩⟩
    obtain ⟨c, h1, h2⟩ := look hfr.1
    rcases q with ⟨k, _⟩ | ⟨_, c', e', z⟩
    · have k : X.env.scope.names.lookup y = some .local := k
      rcases ok.free _ (PySem.mem_of_lookup hfr.1) rfl with k' | k' <;> rw [show X.env.scope.names.lookup y = _ from k'] at k <;> cases k
    · rw [h2] at e'; cases e'
      exact ⟨c, h1, z.keeps kp⟩
  · have e : cenv.cells.lookup y = some c := e
    rcases mem e with ⟨h1, _⟩ | ⟨_, z⟩
    · obtain ⟨w, z⟩ := I.cell y c h1
      exact ⟨w, z.keeps kp⟩
    · exact ⟨_, z⟩
  · show H cenv.locals = none
    rw [hL]; exact I.hok.fresh (Nat.le_refl _)
  · have e : cenv.cells.lookup y = some c := e
    rcases mem e with ⟨h1, _⟩ | ⟨h1, _⟩
    · exact I.freeC y c h1
    · exact I.hok.fresh (Nat.le_of_succ_le h1)
  · exact absurd (show p ∈ ([] : List (Addr × Obj)) ++ [] from hp) (by simp)
/-- an item appended to a tracked list -/
theorem app_ok {E : Value → Shared → Prop} {D : Addr} {xs : List V} {y : V} {v : Value} {Q : Value → Shared → Prop} (I : Inv X pins σ H s) (hD : H D = some (.lst xs)) (hz : xs.length < sizeLine) (r : RelV y v)
    (h : ∀ s', Inv X pins σ (upd H D (.lst (xs ++ [y]))) s' → Q .none s') : wpAny (model X.prog X.w) X.A (call (.builtin "list.append") [.ref D, v]) Q E s := by
  obtain ⟨hz', its, n, ri, e⟩ := I.hok D _ hD
  have hl := ri.length
  refine append_at (hsz := by rw [List.size_toArray]; omega) e fun h' sb ho' => ?_
  refine h { s with heap := h' } (I.write (t' := s.toks) (by rw [hD]; trivial) (.inl rfl) (fun b u hb q => (sb.2 b hb).trans q) ⟨_, ho'⟩ ⟨by rw [List.length_append]; exact hz, its ++ [v], n + 1, ri.append (.cons r .nil), ?_⟩)
  rw [ho']
  simp
/-- a clause's tests -/
def PTs (X : Cx) (ifs : List Expr) (t : TT) : Prop :=
  ∀ (pins : List (Addr × Obj)) (s : Shared) (σ : St) (H : Hp) (Q : Bool → Hp → Prop), Inv X pins σ H s → t σ H Q →
    wpAny (model X.prog X.w) X.A (forIn ifs true fun c r => if r = true then do let ok ← isTrue c X.env (eval c X.env); pure (ForInStep.yield ok) else pure (ForInStep.yield r)) (TP X pins σ Q) X.xe s
def tYes : TT := fun _ H Q => Q true H
theorem pts_nil : PTs X [] tYes := fun _ _ _ H _ I h => wpAny_tests_nil ⟨H, I, h⟩
theorem pts_one {c : Expr} {t : TT} (h : PT X c t) : PTs X [c] t := fun pins s σ H Q I hw => wpAny_tests_one (h pins s σ H Q I hw)
end
theorem thnF {α : Type} {t : Sem α} {Q Q' : α → Shared → Prop} {M : Model} {A : Around} {E : Value → Shared → Prop} {s : Shared} (h : wpAny M A t Q (fun _ _ => False) s) (hQ : ∀ a s, Q a s → Q' a s) : wpAny M A t Q' E s := wpAny_mono h hQ fun _ _ z => False.elim z
/-- the loop of a list comprehension's block, the target of any form (codeAny_compLoop_tests asks a target that no tuple goes to; statement and proof follow it, PyProof/CompMap.lean:41-61, with the step letOwnedTupleGo kept) -/
theorem compLoop_any {prog : Program} {w : World} {A : Around} {R : Result → Shared → Prop} {s : Shared} {elt target iter : Expr} {ifs : List Expr} {scope : Scope} {pos : Pos} {it acc : Value} {env : Env} (I : Nat → Shared → Prop)
    (turn : ∀ n s, I n s → wpAny (model prog w) A (pyNext it) (fun r s₁ => match r with
      | none => R (.ok .next) s₁
      | some v => wpAny (model prog w) A (letOwnedTupleGo target it v) (fun _ s₁' => wpAny (model prog w) A (assign target env v) (fun _ s₂ =>
          wpAny (model prog w) A (forIn ifs true fun c r => if r = true then do let ok ← isTrue c env (eval c env); pure (ForInStep.yield ok) else pure (ForInStep.yield r)) (fun ok s₃ =>
            if ok = true then wpAny (model prog w) A (eval elt env) (fun x s₄ =>
              wpAny (model prog w) A (call (.builtin "list.append") [acc, x]) (fun _ s₅ => ∃ m, m < n ∧ I m s₅) (notedBy (model prog w) A env fun e s' => R (.error e) s') s₄) (notedBy (model prog w) A env fun e s' => R (.error e) s') s₃
            else ∃ m, m < n ∧ I m s₃) (notedBy (model prog w) A env fun e s' => R (.error e) s') s₂) (notedBy (model prog w) A env fun e s' => R (.error e) s') s₁') (notedBy (model prog w) A env fun e s' => R (.error e) s') s₁) (notedBy (model prog w) A env fun e s' => R (.error e) s') s)
    (n : Nat) (h : I n s) :
    codeAny (model prog w) A (.compLoop (.ListComp elt [⟨target, iter, ifs, 0⟩] scope pos) 0 it acc env) R s := by
  refine codeAny_loop rfl I (fun n s hI => ?_) n h
  show wpAny _ A ((compTurn (.ListComp elt [⟨target, iter, ifs, 0⟩] scope pos) 0 it acc env).onRaise (fun x => do noteFrame x env; theTreesLotGoes x)) _ _ s
  refine wpAny_noted ?_
  rw [compTurn_list]
  refine wpAny_bind (wpAny_standAt (wpAny_bind (wpAny_mono (turn n s hI) (fun r s₁ h₁ => ?_) fun _ _ h' => h')))
  cases r with
  | none => exact wpAny_pure h₁
  | some v =>
    refine wpAny_bind (wpAny_mono h₁ (fun _ s₁' h₁' => ?_) fun _ _ h' => h')
    refine wpAny_bind (wpAny_mono h₁' (fun _ s₂ h₂ => wpAny_bind (wpAny_mono h₂ (fun ok s₃ h₃ => ?_) fun _ _ h' => h')) fun _ _ h' => h')
    cases ok with
    | false => exact wpAny_pure ⟨rfl, h₃⟩
    | true =>
      exact wpAny_bind (wpAny_bind (wpAny_mono h₃ (fun x s₄ h₄ => wpAny_bind (wpAny_mono h₄ (fun _ s₅ h₅ => wpAny_pure (wpAny_pure ⟨rfl, h₅⟩)) fun _ _ h' => h')) fun _ _ h' => h'))
section
variable {X : Cx}
/-- [elt for target in iter if ..]: D the new list; W by the turn and a measure, Nx what a turn is to reach -/
def tLc (wi : TI) (g : TG) (tt : TT) (te : TE) (vs : List Nat) : TE := fun σ H Q => wi σ H fun J H1 => ∀ D, H1 D = none → ∃ W : Nat → Nat → Hp → Prop, (∃ m, W 0 m (upd H1 D (.lst []))) ∧ ∀ i m H, W i m H →
  (J.stop i H ∧ Q (.ref D) H) ∨ (J.go i H ∧ ∃ Nx : Hp → Prop, (∀ H', Nx H' → ∃ m', m' < m ∧ W (i + 1) m' H') ∧ ∀ x H', J.yld i H x H' → g x (wipe σ vs) H' fun σ2 H2 => wipe σ2 vs = wipe σ vs ∧ tt σ2 H2 fun b H3 =>
    if b = true then te σ2 H3 fun y H4 => ∃ acc, H4 D = some (.lst acc) ∧ acc.length < sizeLine ∧ Nx (upd H4 D (.lst (acc ++ [y]))) else Nx H3)
theorem lc_core {pins : List (Addr × Obj)} {s : Shared} {σ : St} {H : Hp} {Q : VK} {elt tg iter : Expr} {ifs : List Expr} {scope : Scope} {own : List (Str × Nat)} {pos pos' : Pos} {wi : TI} {g : TG} {tt : TT} {te : TE} {use : Option (Value → Sem Unit)} {Qf : Value → Shared → Prop}
    (hc : X.calm = true) (hN : X.N.Nodup) (I : Inv X pins σ H s) (hi : PI X tg iter wi) (ok : BlkOk X.N X.env.scope scope own)
    (hg : ∀ (s : Shared) (H : Hp) (C : Addr) (cl : List (Str × Addr)) (fp : List Addr), PG (X.blk s H scope (compEnvC scope cl C X.env) fp) tg g) (ht : ∀ (s : Shared) (H : Hp) (C : Addr) (cl : List (Str × Addr)) (fp : List Addr), PTs (X.blk s H scope (compEnvC scope cl C X.env) fp) ifs tt)
    (he : ∀ (s : Shared) (H : Hp) (C : Addr) (cl : List (Str × Addr)) (fp : List Addr), PE (X.blk s H scope (compEnvC scope cl C X.env) fp) elt te) (hs : ∀ x, foldedSetIterable iter X.env x = pure x)
    (h : tLc wi g tt te (own.map (·.2)) σ H Q)
    (hRR : ∀ D C s' m H', Inv X pins σ H' s' → Q (.ref D) H' → s'.heap.Ns C m → FpOk X pins H' C → compPost (model X.prog X.w) X.A X.xe use Qf (.ref D) C (.ok .next) s') :
    wpAny (model X.prog X.w) X.A (comprehension (.ListComp elt [⟨tg, iter, ifs, 0⟩] scope pos) scope X.env pos' (newList []) false (eval iter X.env) use) Qf X.xe s := by
  have hfree : ∀ y ∈ scope.names, y.2 = .free → ∃ c, X.env.cells.lookup y.1 = some c := fun y hy e => by
    rcases ok.free y hy e with k | k
    · exact I.ok.has _ (.inl k)
    · exact I.ok.has _ (.inr k)
  refine wpAny_comprehension_free (use := use) rfl hs (closure_ok hfree) ok.kind (fun y hy e => by rw [ok.uniq y hy, e])
    (thn (hi pins s σ H _ I h) fun xv s1 hx => thn hx fun itv s2 h2 => ?_)
  obtain ⟨it, fp, tn, J, H2, e, I2, T, st2, f2, q⟩ := h2
  subst e
  refine wpAny_newObj_type (newEnv_comp ?_) (by show 0 ≤ sizeLine; decide)
  generalize hD : s2.heap.objs.size = D
  have hDn : H2 D = none := I2.hok.fresh (Nat.le_of_eq hD)
  obtain ⟨W, ⟨m0, w0⟩, turn⟩ := q D hDn
  -- the new list
  generalize hs3 : ({ s2 with heap := s2.heap.push { cls := .type "list", data := .seq ([] : List Value).toArray } } : Shared) = s3
  have I3 : Inv X pins σ (upd H2 D (.lst [])) s3 := by
    rw [← hs3]
    refine I2.laid (t' := s2.toks) (fun b o e => Heap.get?_push_of_some _ e) (Nat.le_of_eq hD) ⟨Nat.zero_le _, [], 0, .nil, ?_⟩
    rw [← hD]
    exact Heap.get?_push_size _ rfl
  have h3 : s3.heap = s2.heap.push { cls := .type "list", data := .seq ([] : List Value).toArray } := by rw [← hs3]
  have sz : ∀ b ∈ fp, b < s2.heap.objs.size := fun b hb => by
    obtain ⟨o, e, _⟩ := T.obj _ _ st2 b hb
    exact Heap.lt_size e
  have f3 : ∀ b ∈ fp, FpOk X pins (upd H2 D (.lst [])) b ∧ b < s3.heap.objs.size := fun b hb => by
    have hlt := sz b hb
    refine ⟨⟨?_, (f2 b hb).2⟩, by rw [h3, Heap.size_push]; exact Nat.lt_succ_of_lt hlt⟩
    rw [upd_ne (by rw [← hD]; exact Nat.ne_of_lt hlt)]
    exact (f2 b hb).1
  have st3 : tn 0 s3.heap := T.keep _ _ _ st2 fun b _ o e => by rw [h3]; exact Heap.get?_push_of_some _ e
  have I4 := block_start I3 ok hN f3
  have pg := hg s3 (upd H2 D (.lst [])) s3.heap.objs.size (cellsFrom (s3.heap.objs.size + 1) scope.names (cloFrom X.env.cells scope.names [])) fp
  have pt := ht s3 (upd H2 D (.lst [])) s3.heap.objs.size (cellsFrom (s3.heap.objs.size + 1) scope.names (cloFrom X.env.cells scope.names [])) fp
  have pe := he s3 (upd H2 D (.lst [])) s3.heap.objs.size (cellsFrom (s3.heap.objs.size + 1) scope.names (cloFrom X.env.cells scope.names [])) fp
  show codeAny _ _ (.compStart (.ListComp elt [⟨tg, iter, ifs, 0⟩] scope pos) 0 (.ref it) (.ref D) (compEnvC scope (cellsFrom (s3.heap.objs.size + 1) scope.names (cloFrom X.env.cells scope.names [])) s3.heap.objs.size X.env)) (compPost (model X.prog X.w) X.A X.xe use Qf (.ref D) s3.heap.objs.size) { s3 with heap := pushCells (s3.heap.push { cls := .type "dict", data := .dict #[] }) scope.names }
  have nfp : ∀ b ∈ fp, (upd H2 D (.lst [])) b = none := fun b hb => (f3 b hb).1.1
  generalize hce : compEnvC scope (cellsFrom (s3.heap.objs.size + 1) scope.names (cloFrom X.env.cells scope.names [])) s3.heap.objs.size X.env = ce at I4 pg pt pe ⊢
  have cL : ce.locals = s3.heap.objs.size := by subst hce; rfl
  generalize hH3 : upd H2 D (.lst []) = H3 at I3 I4 pg pt pe w0 nfp f3
  generalize hs4 : ({ s3 with heap := pushCells (s3.heap.push { cls := .type "dict", data := .dict #[] }) scope.names } : Shared) = s4 at I4 ⊢
  have st4 : tn 0 s4.heap := T.keep _ _ _ st3 fun b _ o e => by rw [← hs4]; exact pushCells_keeps _ _ _ _ (Heap.get?_push_of_some _ e)
  have stat : ∀ {σ' : St} {H' : Hp} {s' : Shared}, Inv (X.blk s3 H3 scope ce fp) [] σ' H' s' → (∀ b ∈ fp, H' b = none) → ∀ b ∈ fp, FpOk (X.blk s3 H3 scope ce fp) [] H' b := fun {σ' H' s'} I' hn b hb =>
    ⟨hn b hb, (I'.ok.exf b hb).1, I'.ok.exfs b hb, .inl hb, fun x c e => (I'.ok.exf b hb).2 x c e, fun p hp => absurd (show p ∈ ([] : List (Addr × Obj)) ++ [] from hp) (by simp)⟩
  have loop : codeAny (model X.prog X.w) X.A (.compLoop (.ListComp elt [⟨tg, iter, ifs, 0⟩] scope pos) 0 (.ref it) (.ref D) ce) (compPost (model X.prog X.w) X.A X.xe use Qf (.ref D) s3.heap.objs.size) s4 := by
    refine compLoop_any (fun n s' => ∃ i H', Inv (X.blk s3 H3 scope ce fp) [] (wipe σ (own.map (·.2))) H' s' ∧ tn i s'.heap ∧ (∀ b ∈ fp, H' b = none) ∧ W i n H') ?_ m0 ⟨0, H3, I4, st4, nfp, w0⟩
    rintro n s5 ⟨i, H5, I5, st5, n5, w5⟩
    rcases turn i n H5 w5 with ⟨stop, qq⟩ | ⟨go, Nx, hNx, step⟩
    · have td := T.done (X.blk s3 H3 scope ce fp) rfl rfl rfl hc i [] s5 _ H5 (fun _ _ => False) I5 (stat I5 n5) st5 stop
      refine thnF td fun r s6 ⟨hr, I6⟩ => ?_
      subst hr
      -- back in the def's context
      have I7 : Inv X pins σ H5 s6 := I3.call' (ch := fp) I6.os I6.base I6.hok I6.bare fun b hb => ⟨(f3 b hb).1.2.2.2.1, (f3 b hb).1.2.1, (f3 b hb).1.2.2.2.2.1, (f3 b hb).1.2.2.2.2.2⟩
      have nC : H5 s3.heap.objs.size = none := by
        have z : H5 ce.locals = none := I6.free
        rw [cL] at z
        exact z
      obtain ⟨m, hn, _⟩ := I6.loc
      have hn : s6.heap.Ns ce.locals m := hn
      rw [cL] at hn
      exact hRR D s3.heap.objs.size s6 m H5 I7 qq hn (I3.fpOk (Nat.le_refl _) nC)
    · have ti := T.item (X.blk s3 H3 scope ce fp) rfl rfl rfl hc i [] s5 _ H5 (fun _ _ => False) I5 (stat I5 n5) st5 go
      refine thnF ti fun r s6 ⟨u, hr, h6⟩ => ?_
      subst hr
      refine thnF h6 fun _ s7 ⟨x, H7, I7, r7, y7, st7, n7⟩ => ?_
      have I7' := I7.pinned (stat I7 n7) (T.obj _ _ st7)
      refine thnF (pg _ s7 _ H7 x u _ I7' r7 (step x H7 y7)) fun _ s8 ⟨σ8, H8, I8, hw8, q8⟩ => ?_
      refine thnF (pt _ s8 σ8 H8 _ I8 q8) fun b s9 ⟨H9, I9, q9⟩ => ?_
      -- the turn's end
      have fin : ∀ {s' : Shared} {H' : Hp}, Inv (X.blk s3 H3 scope ce fp) ([] ++ pinsAt fp s7.heap) σ8 H' s' → Nx H' → ∃ m, m < n ∧ ∃ i H', Inv (X.blk s3 H3 scope ce fp) [] (wipe σ (own.map (·.2))) H' s' ∧ tn i s'.heap ∧ (∀ b ∈ fp, H' b = none) ∧ W i m H' := fun {s' H'} I' nx => by
        obtain ⟨m', hm, w'⟩ := hNx H' nx
        have pin' : ∀ b ∈ fp, ∀ o, s7.heap.get? b = some o → s'.heap.get? b = some o ∧ H' b = none := fun b hb o e =>
          let z := I'.pin (b, o) (List.mem_append_right _ (List.mem_append_right _ (mem_pinsAt hb e)))
          ⟨z.1, z.2.1⟩
        have hl : (wipe σ (own.map (·.2))).length = σ8.length := by rw [← hw8, wipe_length]
        refine ⟨m', hm, i + 1, H', (I'.unpinned (pins := [])).weak hl (fun j v e => ?_), T.keep _ _ _ st7 fun b hb o e => (pin' b hb o e).1, fun b hb => ?_, w'⟩
        · rw [← hw8] at e
          exact (wipe_some e).1
        · obtain ⟨o, e, _⟩ := T.obj _ _ st7 b hb
          exact (pin' b hb o e).2
      cases b with
      | false =>
        simp only [Bool.false_eq_true, if_false] at q9 ⊢
        exact fin I9 q9
      | true =>
        simp only [if_true] at q9 ⊢
        refine thnF (pe _ s9 σ8 H9 _ I9 q9) fun z s10 ⟨yv, H10, I10, r10, acc, hD10, hz10, nx⟩ => ?_
        exact app_ok (X := X.blk s3 H3 scope ce fp) I10 hD10 hz10 r10 fun s11 I11 => fin I11 nx
  exact codeAny_compStart_list loop (T.self X.A 0 _ _ _ st4 loop)
/-- as a value -/
theorem pe_lc {elt tg iter : Expr} {ifs : List Expr} {scope : Scope} {own : List (Str × Nat)} {pos : Pos} {wi : TI} {g : TG} {tt : TT} {te : TE} (hc : X.calm = true) (hN : X.N.Nodup) (hi : PI X tg iter wi) (ok : BlkOk X.N X.env.scope scope own)
    (hg : ∀ (s : Shared) (H : Hp) (C : Addr) (cl : List (Str × Addr)) (fp : List Addr), PG (X.blk s H scope (compEnvC scope cl C X.env) fp) tg g) (ht : ∀ (s : Shared) (H : Hp) (C : Addr) (cl : List (Str × Addr)) (fp : List Addr), PTs (X.blk s H scope (compEnvC scope cl C X.env) fp) ifs tt)
    (he : ∀ (s : Shared) (H : Hp) (C : Addr) (cl : List (Str × Addr)) (fp : List Addr), PE (X.blk s H scope (compEnvC scope cl C X.env) fp) elt te) (hs : ∀ x, foldedSetIterable iter X.env x = pure x := by intro _; rfl) :
    PE X (.ListComp elt [⟨tg, iter, ifs, 0⟩] scope pos) (tLc wi g tt te (own.map (·.2))) := by
  intro pins s σ H Q I h
  rw [eval_ListComp]
  refine lc_core hc hN I hi ok hg ht he hs h fun D C s' m H' I' q hn f => ⟨m, hn, fun h'' sb => ?_⟩
  obtain ⟨f0, f1, f2, f3, f4, f5⟩ := f
  exact ⟨.ref D, H', I'.turned (t' := s'.toks) (fun b o hb e => (sb.2 b hb).trans e) f0 f1 f3 f4 f5, rfl, q⟩
/-- name = [..] on one line, the name a local -/
theorem ps_setLc {i : Nat} {y : Str} {py : Pos} {elt tg iter : Expr} {ifs : List Expr} {scope : Scope} {own : List (Str × Nat)} {pos spos : Pos} {wi : TI} {g : TG} {tt : TT} {te : TE} (hc : X.calm = true) (hN : X.N.Nodup) (hy : X.N[i]? = some y) (hyl : X.env.scope.names.lookup y = some .local)
    (hsw : swapsWith (.ListComp elt [⟨tg, iter, ifs, 0⟩] scope pos) (some (.Name y py)) spos.line X.env = pure true) (hi : PI X tg iter wi) (ok : BlkOk X.N X.env.scope scope own)
    (hg : ∀ (s : Shared) (H : Hp) (C : Addr) (cl : List (Str × Addr)) (fp : List Addr), PG (X.blk s H scope (compEnvC scope cl C X.env) fp) tg g) (ht : ∀ (s : Shared) (H : Hp) (C : Addr) (cl : List (Str × Addr)) (fp : List Addr), PTs (X.blk s H scope (compEnvC scope cl C X.env) fp) ifs tt)
    (he : ∀ (s : Shared) (H : Hp) (C : Addr) (cl : List (Str × Addr)) (fp : List Addr), PE (X.blk s H scope (compEnvC scope cl C X.env) fp) elt te) (hs : ∀ x, foldedSetIterable iter X.env x = pure x := by intro _; rfl) :
    PS X (.Assign [.Name y py] (.ListComp elt [⟨tg, iter, ifs, 0⟩] scope pos) spos) (tAsg (tLc wi g tt te (own.map (·.2))) (gName i)) := by
  intro pins s σ H D I h
  rw [exec_Assign_Name_used _ _ _ _ hsw]
  refine wpAny_bind (wpAny_standAt (wpAny_bind ?_))
  show wpAny _ X.A (do let _ ← comprehension (.ListComp elt [⟨tg, iter, ifs, 0⟩] scope pos) scope X.env (firstIterPos [⟨tg, iter, ifs, 0⟩] pos) (newList []) false (eval iter X.env) (some (assign (.Name y py) X.env))) _ _ s
  have h : tLc wi g tt te (own.map (·.2)) σ H (fun x H1 => gName i x σ H1 D.nx) := h
  refine wpAny_bind (thn (lc_core (Qf := fun _ s' => SP X pins D .next s') hc hN I hi ok hg ht he hs h fun L C s' m H' I' q hn f => ?_) fun _ s' hq => wpAny_pure (wpAny_pure hq))
  show wpAny _ _ (assign (.Name y py) X.env (.ref L)) _ _ _
  refine wpAny_assign_Name (store_ok2 (v := V.ref L) I' hN hy (.inl hyl) rfl (fun s2 I2 ⟨a, sb, ha⟩ => ?_) (.inr hyl))
  obtain ⟨f0, f1, f2, f3, f4, f5⟩ := f
  have haC : C ≠ a := by
    rcases ha with z | z
    · rw [z]; exact f1
    · exact fun e => f4 y a z e.symm
  refine ⟨m, hn.sameBut sb haC, fun h3 sb3 => ?_⟩
  exact ⟨_, H', I2.turned (t' := s2.toks) (fun b o hb e => (sb3.2 b hb).trans e) f0 f1 f3 f4 f5, q⟩
end
/-! ### the forms one uses -/
end L2
namespace L2
open PySem PySem.Spec PyProof.Rows
section
variable {prog : Program} {w : World} {A : Around} {R : Result → Shared → Prop} {s : Shared} {elt t0 i0 t1 i1 : Expr} {ifs0 ifs1 : List Expr} {scope : Scope} {pos : Pos} {it acc : Value} {env : Env}
end
section
variable {X : Cx}
end
end L2
namespace L2
open PySem PySem.Spec PyProof.Rows
/-! ### lists of pairs as tables -/
section
variable {κ : Type} [DecidableEq κ]
def valV (kvs : List (κ × V)) (k : κ) : Option V := (kvs.find? fun kv => decide (kv.1 = k)).map (·.2)
theorem valV_pos {p : κ × V} {r : List (κ × V)} {k : κ} (e : p.1 = k) : valV (p :: r) k = some p.2 := by simp [valV, List.find?_cons, e]
theorem valV_neg {p : κ × V} {r : List (κ × V)} {k : κ} (e : ¬ p.1 = k) : valV (p :: r) k = valV r k := by simp [valV, List.find?_cons, e]
theorem RelO.getD {o : Option V} {u : Option Value} {d : V} {d' : Value} (r : RelO o u) (rd : RelV d d') : RelV (o.getD d) (u.getD d') := by
  cases o with
  | none => cases u with
    | none => exact rd
    | some _ => exact (show False from r).elim
  | some _ => cases u with
    | none => exact (show False from r).elim
    | some _ => exact r
/-- raw tables of the same keys -/
theorem KV.val {kvs : List (κ × V)} {vs : List (κ × Value)} (r : KV kvs vs) (k : κ) : RelO (valV kvs k) (valueAt vs k) := by
  unfold KV at r
  induction r with
  | nil => exact True.intro
  | @cons p q ps qs h t ih =>
    obtain ⟨h1, h2⟩ := h
    by_cases e : p.1 = k
    · have e' : q.1 = k := h1.symm.trans e
      have b : valueAt (q :: qs) k = some q.2 := by simp [valueAt, List.find?_cons, e']
      rw [valV_pos e, b]; exact h2
    · have e' : ¬ q.1 = k := fun z => e (h1.trans z)
      have b : valueAt (q :: qs) k = valueAt qs k := by simp [valueAt, List.find?_cons, e']
      rw [valV_neg e, b]; exact ih
end
/-! ### a tracked dict, its keys ints and texts or tuples of these -/
theorem kV_is {P : Program} {w : World} {k : Key} {u : Value} (r : RelV (kV k) u) : (mixKind P w).is k u = true := by
  cases k with
  | inl i => obtain ⟨t, e⟩ := (show ∃ t, u = Value.int i t from r); subst e; exact mixKind_int P w i t
  | inr x => obtain ⟨t, e⟩ := (show ∃ t, u = Value.str x t from r); subst e; exact mixKind_str P w x t
section
variable {P : Program} {w : World} {H : Hp} {h : Heap} {a : Addr}
end
section
variable {X : Cx} {pins : List (Addr × Obj)} {σ : St} {H : Hp} {s : Shared} {a : Addr} {y v : V} {u r : Value} {o : Option V} {A : Around} {E : Value → Shared → Prop}
end
section
variable {X : Cx} {pins : List (Addr × Obj)} {σ : St} {H : Hp} {s : Shared} {a : Addr} {kvs : List (Key × V)} {k : Key} {u : Value} {A : Around} {E : Value → Shared → Prop}
end
/-! ### readings and rules -/
/-- the element of a subscription, not a slice -/
def NoSl (i : Expr) : Prop := ∀ ov iv, subscripted i false ov iv = operate [ov, iv] (getItem ov iv)
theorem subD_of {prog : Program} {w : World} {A : Around} {E : Value → Shared → Prop} {s : Shared} {env : Env} {value slice : Expr} {pos : Pos} {T id : String} {Q : Value → Shared → Prop}
    (hl : typeLookup (.type T) "__getitem__" = pure (some (.builtin id))) (hs : NoSl slice)
    (h : wpAny (model prog w) A (eval value env) (fun o s₁ => wpAny (model prog w) A (eval slice env) (fun i s₂ => s₂.TypeIs o T ∧ wpAny (model prog w) A (getItem o i) Q E s₂) E s₁) E s) :
    wpAny (model prog w) A (eval (.Subscript value slice pos) env) Q E s := by
  refine Subscript_ (wpAny_mono h (fun o s₁ h₁ => wpAny_mono h₁ (fun i s₂ h₂ => ?_) fun _ _ x => x) fun _ _ x => x)
  obtain ⟨hT, h₂⟩ := h₂
  unfold subscriptTail
  refine wpAny_bind ?_
  rw [getitemInPython_of_ne hT.not_modules]
  refine wpAny_bind (wpAny_specialOf hT hl ?_)
  have fin : wpAny (model prog w) A (subscripted slice false o i) (fun r s₃ => wpAny (model prog w) A (letTemporaryGo value o r >>= fun _ => pure r) Q E s₃) E s₂ := by
    rw [hs o i]
    exact wpAny_operating (wpAny_mono h₂ (fun r s₃ h₃ => wpAny_bind (wpAny_letTemporaryGo (wpAny_pure h₃))) fun _ _ x => x)
  first
    | exact wpAny_pure (wpAny_bind fin)
    | exact wpAny_bind (wpAny_pure (wpAny_bind fin))
    | exact wpAny_bind fin
section
variable {X : Cx} {o i e value : Expr} {pos pos' tpos : Pos} {td ty tv : TE}
end
/-! ### displays -/
section
variable {X : Cx} {pos : Pos}
end
/-! ### methods -/
structure M2 (X : Cx) (o : Expr) (m : Str) (apos : Pos) (e f : Expr) (cpos : Pos) : Prop where
  base : attributeBase o m X.env (eval o X.env) = eval o X.env
  few : ((backTo cpos (starEach [e, f] X.env)).all (fun x => !x.1) && (backToKw cpos (keywordEach [] X.env)).all (fun x => x.1.isSome)
    && decide (([e, f] : List Expr).length + ([] : List Keyword).length + (if ([] : List Keyword).isEmpty then 0 else 1) < 30)) = true
  line : (apos.endLine == cpos.line) = true
  trees : backTo cpos (starEach [e, f] X.env) = [(false, eval e X.env), (false, eval f X.env)]
section
variable {X : Cx} {pins : List (Addr × Obj)} {σ : St} {H : Hp} {s : Shared} {a : Addr} {y d : V} {u r : Value} {o : Option V} {A : Around} {E : Value → Shared → Prop}
end
section
variable {X : Cx} {o e f : Expr} {apos cpos : Pos} {td ty tx : TE}
end
/-! ### dict(d): a copy -/
section
variable {X : Cx} {pins : List (Addr × Obj)} {σ : St} {H : Hp} {s : Shared} {a : Addr} {kvs : List (Key × V)} {A : Around} {E : Value → Shared → Prop}
end
section
variable {X : Cx} {pins : List (Addr × Obj)} {σ : St} {H : Hp} {s : Shared} {a : Addr} {y : V} {u : Value} {A : Around} {E : Value → Shared → Prop}
end
end L2
namespace L2
open PySem PySem.Spec PyProof.Rows
section
variable {prog : Program} {w : World} {A : Around} {E : Value → Shared → Prop}
end
section
variable {X : Cx}
end
end L2
namespace L2
open PySem PySem.Spec PyProof.Rows
section
variable {X : Cx} {pins : List (Addr × Obj)} {σ : St} {H : Hp} {s : Shared} {h' : Heap}
/-- .. and one new object is laid -/
theorem Inv.turnedNew {t' : Nat} {ch : List Addr} {T : Addr} {ob : HO} (I : Inv X pins σ H s) (k : ∀ b o, b ∉ ch → s.heap.get? b = some o → h'.get? b = some o) (hf : ∀ b ∈ ch, FpOk X pins H b) (hT : s.heap.objs.size ≤ T)
    (new : ObjOk X.prog X.w (upd H T ob) h' T ob) : Inv X pins σ (upd H T ob) { s with heap := h', toks := t' } := by
  have hn : H T = none := I.hok.fresh hT
  have nit : ∀ b u, H b = some u → b ∉ ch := fun b u e z => by
    have q := (hf b z).1
    rw [q] at e; cases e
  refine I.step (g' := s.gens) (d' := s.drawn) (ch := ch) (fun b hb => ⟨(hf b hb).2.2.2.1, (hf b hb).2.1, (hf b hb).2.2.2.2.1, (hf b hb).2.2.2.2.2⟩) (fun b o _ _ hc e _ => k b o hc e) (fun b o _ _ hc e _ => ⟨o.slots, k b o hc e⟩)
    (fun b o _ e n => ?_) (fun b o hc e => ⟨o, k b o hc e⟩) (fun b xs e => ?_) (fun b o u e => ?_) (fun b ps e => ⟨#[], ?_⟩) (fun m hm => ?_) (fun b u e => ?_) I.bare
  · rw [upd_ne (Nat.ne_of_lt (Nat.lt_of_lt_of_le (Heap.lt_size e) hT))]; exact n
  · rw [upd_ne (ne_of_none e hn)]; exact e
  · rw [upd_ne (ne_of_none e hn)]; exact e
  · rw [upd_ne (ne_of_none e hn), e]; simp
  · obtain ⟨o, es, ep, ho, r⟩ := hm
    exact ⟨o, es, ep, k _ o (fun z => (hf _ z).2.1 rfl) ho, r⟩
  · by_cases hb : b = T
    · subst hb
      rw [upd_same] at e
      cases e
      exact new
    · rw [upd_ne hb] at e
      refine (I.hok b u e).stay (fun c v hc q => k c v ?_ q) (fun c q => by rw [upd_ne (ne_of_none q hn)]; exact q) fun c xs q => by rw [upd_ne (ne_of_none q hn)]; exact q
      rcases hc with z | z
      · rw [z]; exact nit b u e
      · exact nit c _ z
/-! ### locking a thing while a statement runs -/
end
section
variable {X : Cx}
/-! ### one iterator just laid -/
theorem pi_one {tg : Expr} {pins : List (Addr × Obj)} {σ : St} {H : Hp} {s : Shared} {R : It → Hp → Prop} {J : It} {tn : Nat → Heap → Prop} {tk : Nat} (I : Inv X pins σ H s) (o : Obj)
    (T : Turn X.prog X.w X.K tg J [s.heap.objs.size] s.heap.objs.size tn) (st : tn 0 (s.heap.push o)) (q : R J H) : PIE X pins σ tg R (.ref s.heap.objs.size) { s with heap := s.heap.push o, toks := tk } := by
  refine ⟨s.heap.objs.size, [s.heap.objs.size], tn, J, H, rfl, I.kept fun b ob e => Heap.get?_push_of_some _ e, T, st, fun b hb => ?_, q⟩
  have e : b = s.heap.objs.size := by simpa using hb
  subst e
  exact I.fpOk (Nat.le_refl _) (I.hok.fresh (Nat.le_refl _))
end
/-! ### range with a step -/
/-- lo, lo + c, .. (n of them) -/
def Itc (lo c : Int) (n : Nat) : It := ⟨fun i _ => i < n, fun i H x H' => H' = H ∧ x = .int (lo + (i : Nat) * c), fun i _ => n ≤ i⟩
theorem turn_rangeC {P : Program} {w : World} {K : PySem.W.Frag} {tg : Expr} (it : Addr) (lo c : Int) (n : Nat) : Turn P w K tg (Itc lo c n) [it] it (fun i h => IsRangeIter h it (lo + (i : Nat) * c) ((n : Int) - (i : Nat)) c) where
  mem := by simp
  obj := fun i h st b hb => by
    have e : b = it := by simpa using hb
    subst e
    exact ⟨_, st, fun v z => nomatch z⟩
  keep := fun i h h' st k => k it (by simp) _ st
  item := by
    intro X hP hw hK hc i pins s σ H E I hf st hg
    subst hP hw hK
    obtain ⟨f0, f1, f2, f3, f4, f5⟩ := hf it (by simp)
    have W := Walks.range (prog := X.prog) (w := X.w) (I.ok.hd hc) it lo c n
    refine W.item i s _ _ hg st fun v h' tk hv st' kk => ?_
    obtain ⟨t, rfl⟩ := hv
    have I1 : Inv X pins σ H { s with heap := h', toks := tk } := I.turned (fun b o hb e => kk b o (by simpa using hb) e) f0 f1 f3 f4 f5
    exact ⟨_, rfl, go_of (s := { s with heap := h', toks := tk }) (n := "range_iterator") st' rfl rfl (by decide) ⟨.int (lo + (i : Nat) * c), H, I1, ⟨t, rfl⟩, ⟨rfl, rfl⟩, st', fun b hb => (hf b hb).1⟩⟩
  done := by
    intro X hP hw hK hc i pins s σ H E I hf st hg
    subst hP hw hK
    obtain ⟨f0, f1, f2, f3, f4, f5⟩ := hf it (by simp)
    exact wpAny_pyNext_range_end (I.ok.hd hc) st (by have : n ≤ i := hg; omega) fun h' eb => ⟨rfl, I.turned (t' := s.toks) (fun b o hb e => eb b o hb e) f0 f1 f3 f4 f5⟩
  self := fun A i s Q E st h => wpAny_pyIter_rangeiter st h
/-- range(i, j, c): small bounds, n items -/
def RgC (i j c : Int) (n : Nat) : Prop := c ≠ 0 ∧ c.natAbs < 1073741824 ∧ Builtin.Range.small i j c = true ∧ Builtin.Range.rangeSize i j c = n
def iRng3 (ta : TA) : TI := fun σ H R => ta σ H fun vs H1 => ∃ (i j c : Int) (n : Nat), vs = [.int i, .int j, .int c] ∧ RgC i j c n ∧ R (Itc i c n) H1
section
variable {X : Cx} {tg : Expr}
theorem pi_range3 {a b c : Expr} {ta : TA} {p pos : Pos} (hg : Gl X "range") (hm : X.mg "range" = none) (ha : PA X [a, b, c] ta)
    (hs : starEach [a, b, c] X.env = (false, eval a X.env) :: starEach [b, c] X.env := by rfl) (hpl : (backTo pos (starEach [b, c] X.env)).any (·.1) = false := by rfl) :
    PI X tg (.Call (.Name "range" p) [a, b, c] [] pos) (iRng3 ta) := by
  intro pins s σ H R I h
  refine Call_ (ld_blt I hg hm boot_range (PyProof.Rows.callWith_type1 (thn (ha pos pins s σ H _ I h) fun us s1 ⟨vs, H1, I1, r1, q1⟩ => ?_) hs hpl))
  obtain ⟨i, j, k, n, e, ⟨c0, c1, c2, c3⟩, q⟩ := q1
  subst e
  cases r1 with
  | cons r rr =>
    cases rr with
    | cons r' rr =>
      cases rr with
      | cons r'' rr =>
        cases rr
        obtain ⟨t, rfl⟩ := r
        obtain ⟨t', rfl⟩ := r'
        obtain ⟨t'', rfl⟩ := r''
        refine call_range_3 c0 ?_ (.inl (PyProof.noPylong_small c1))
        refine wpAny_pyIter_range (IsRange.new ..) c2 ?_
        have I2 : Inv X pins σ H1 { s1 with heap := s1.heap.push { cls := .type "range", data := .fields #[.int i t, .int j t', .int k t''] } } := I1.kept (t' := s1.toks) fun b o e => Heap.get?_push_of_some _ e
        refine pi_one (tk := s1.toks) I2 _ (turn_rangeC _ i k n) ?_ q
        have e1 : i + ((0 : Nat) : Int) * k = i := by simp
        have e2 : (n : Int) - ((0 : Nat) : Int) = Builtin.Range.rangeSize i j k := by rw [c3]; simp
        show IsRangeIter _ _ (i + ((0 : Nat) : Int) * k) ((n : Int) - ((0 : Nat) : Int)) k
        rw [e1, e2]
        exact Heap.get?_push_size _ rfl
end
/-! ### reversed(list) -/
section
variable {X : Cx} {tg : Expr}
end
/-! ### a str -/
def Its (x : Str) : It := ⟨fun i _ => i < x.cps.size, fun i H v H' => H' = H ∧ ∃ c, x.cps[i]? = some c ∧ v = .str ⟨#[c]⟩, fun i _ => x.cps.size ≤ i⟩
theorem turn_str {P : Program} {w : World} {K : PySem.W.Frag} {tg : Expr} (it : Addr) (x : Str) (t : Tok) (ty : String) (hty : ty = "str_ascii_iterator" ∨ ty = "str_iterator") :
    Turn P w K tg (Its x) [it] it (fun i h => h.IsStrIter it ty x t i) where
  mem := by simp
  obj := fun i h st b hb => by
    have e : b = it := by simpa using hb
    subst e
    obtain ⟨o, e, c, d⟩ := st
    exact ⟨o, e, fun v z => by rw [d] at z; cases z⟩
  keep := fun i h h' st k => let ⟨o, ho, r⟩ := st; ⟨o, k it (by simp) o ho, r⟩
  item := by
    intro X hP hw hK hc i pins s σ H E I hf st hg
    subst hP hw hK
    obtain ⟨f0, f1, f2, f3, f4, f5⟩ := hf it (by simp)
    have W : Walks X.prog X.w X.A it [it] [it] x.cps.size (SignAt x) (fun i h => h.IsStrIter it ty x t i) := by
      rcases hty with e | e
      · rw [e]; exact Walks.strAscii (I.ok.hd hc) it x t
      · rw [e]; exact Walks.strWide (I.ok.hd hc) it x t
    have hno : ["enumerate", "zip", "dict_itemiterator", "dict_reverseitemiterator", "odict_iterator", "itertools.zip_longest", "itertools.pairwise"].contains ty = false := by
      rcases hty with e | e
      · rw [e]; decide
      · rw [e]; decide
    refine W.item i s _ _ hg st fun v h' tk hv st' kk => ?_
    obtain ⟨c, u, hcx, rfl⟩ := hv
    have I1 : Inv X pins σ H { s with heap := h', toks := tk } := I.turned (fun b o hb e => kk b o (by simpa using hb) e) f0 f1 f3 f4 f5
    obtain ⟨oi, e, cc, dd⟩ := id st'
    exact ⟨_, rfl, go_of (s := { s with heap := h', toks := tk }) e cc dd hno ⟨.str ⟨#[c]⟩, H, I1, ⟨u, rfl⟩, ⟨rfl, c, hcx, rfl⟩, st', fun b hb => (hf b hb).1⟩⟩
  done := by
    intro X hP hw hK hc i pins s σ H E I hf st hg
    subst hP hw hK
    obtain ⟨f0, f1, f2, f3, f4, f5⟩ := hf it (by simp)
    have hx : x.cps[i]? = none := Array.getElem?_eq_none hg
    rcases hty with e | e
    · rw [e] at st
      exact wpAny_pyNext_ascii_end (I.ok.hd hc) st hx fun h' eb => ⟨rfl, I.turned (t' := s.toks) (fun b o hb e => eb b o hb e) f0 f1 f3 f4 f5⟩
    · rw [e] at st
      exact wpAny_pyNext_wide_end (I.ok.hd hc) st hx fun h' eb => ⟨rfl, I.turned (t' := s.toks) (fun b o hb e => eb b o hb e) f0 f1 f3 f4 f5⟩
  self := fun A i s Q E st h => by
    rcases hty with e | e
    · rw [e] at st; exact wpAny_pyIter_striter_ascii st h
    · rw [e] at st; exact wpAny_pyIter_striter_wide st h
def iStr (te : TE) : TI := fun σ H R => te σ H fun v H1 => ∃ x, v = .str x ∧ R (Its x) H1
theorem pi_str {X : Cx} {tg e : Expr} {te : TE} (he : PE X e te) : PI X tg e (iStr te) := by
  intro pins s σ H R I h
  refine thn (he pins s σ H _ I h) fun v s1 ⟨y, H1, I1, r1, x, ex, q⟩ => ?_
  subst ex
  obtain ⟨t, rfl⟩ := r1
  cases ha : x.cps.all (· < 128)
  · exact wpAny_pyIter_wide ha (pi_one (tk := s1.toks) I1 _ (turn_str _ x t "str_iterator" (.inr rfl)) ⟨_, Heap.get?_push_size _ rfl, rfl, rfl⟩ q)
  · exact wpAny_pyIter_ascii ha (pi_one (tk := s1.toks) I1 _ (turn_str _ x t "str_ascii_iterator" (.inl rfl)) ⟨_, Heap.get?_push_size _ rfl, rfl, rfl⟩ q)
/-! ### a dict's keys: any dict's entries -/
section
variable {prog : Program} {w : World} {A : Around} {E : Value → Shared → Prop} {s : Shared}
end
/-! ### a locked dict -/
theorem paired_get {α β : Type} {G : α → β → Prop} {l₁ : List α} {l₂ : List β} (h : Paired G l₁ l₂) : ∀ {i : Nat} {a : α}, l₁[i]? = some a → ∃ b, l₂[i]? = some b ∧ G a b := by
  induction h with
  | nil => intro i a e; simp at e
  | @cons a b l₁ l₂ r t ih =>
    intro i a' e
    cases i with
    | zero =>
      simp only [List.getElem?_cons_zero, Option.some.injEq] at e
      subst e
      exact ⟨b, rfl, r⟩
    | succ j =>
      simp only [List.getElem?_cons_succ] at e ⊢
      exact ih e
section
variable {X : Cx} {pins : List (Addr × Obj)} {σ : St} {H : Hp} {s : Shared} {d : Addr} {o : Obj}
end
section
variable {P : Program} {w : World} {K : PySem.W.Frag} {tg : Expr} {d : Addr} {o : Obj} {es : Array DictEntry} {ep : Nat}
end
/-! ### for k in d, d.keys(), d.values(), d.items() -/
section
variable {X : Cx} {tg e : Expr} {td : TE} {apos cpos : Pos}
end
/-! ### enumerate(list) -/
/-- the list at a as it stands at each turn, each item in a new pair -/
def Ite (K : PySem.W.Frag) (a : Addr) : It :=
  ⟨fun i H => ∃ (xs : List V) (x : V), SqL K H a xs ∧ xs[i]? = some x, fun i H v H' => ∃ T x, v = .ref T ∧ H T = none ∧ H' = upd H T (.tup [.int (i : Nat), x]) ∧ ∀ xs, SqL K H a xs → xs[i]? = some x, fun i H => ∃ xs : List V, SqL K H a xs ∧ xs.length ≤ i⟩
theorem turn_enum {P : Program} {w : World} {K : PySem.W.Frag} {elts : List Expr} {kk : Nat} {tpos : Pos} (a e it : Addr) :
    Turn P w K (.Tuple elts kk tpos) (Ite K a) [e, it] e (fun i h => (∃ old, IsEnum h e it ((i : Nat) : Int) old) ∧ h.IsListIter it a i ∧ e ≠ it) where
  mem := by simp
  obj := fun i h st b hb => by
    obtain ⟨⟨old, he⟩, ⟨o, ho, hc, hd⟩, _⟩ := st
    have e' : b = e ∨ b = it := by simpa using hb
    rcases e' with z | z
    · rw [z]; exact ⟨_, he, fun v q => nomatch q⟩
    · rw [z]; exact ⟨o, ho, fun v q => by rw [hd] at q; cases q⟩
  keep := fun i h h' st k => let ⟨⟨old, he⟩, hi, hne⟩ := st; ⟨⟨old, k e (by simp) _ he⟩, hi.at fun o q => k it (by simp) o q, hne⟩
  item := by
    intro X hP hw hK hc i pins s σ H E I hf st hg
    subst hP hw hK
    obtain ⟨⟨old, he⟩, hit, hne⟩ := st
    obtain ⟨xs, x, hq, hx⟩ := hg
    obtain ⟨its, rv, p, hz⟩ := I.list hq
    obtain ⟨u, hu, ru⟩ := rv.get hx
    have hel : e < s.heap.objs.size := Heap.lt_size he
    have hil : it < s.heap.objs.size := by obtain ⟨_, q, _⟩ := hit; exact Heap.lt_size q
    refine wpAny_pyNext_enum_item he hit p.isList (x := u) (by simpa using hu) hne fun h' ho hit' hT hsz hk => ?_
    refine ⟨_, rfl, wpAny_letOwnedTupleGo_enum (s := { s with heap := h', toks := s.toks + 1 }) ho fun h'' he' sb => ?_⟩
    have hT2 : h''.get? s.heap.objs.size = some { cls := .type "tuple", data := .seq #[.int i s.toks, u] } := (sb.2 _ (Nat.ne_of_gt hel)).trans hT
    have new : ObjOk X.prog X.w (upd H s.heap.objs.size (.tup [.int (i : Nat), x])) h'' s.heap.objs.size (.tup [.int (i : Nat), x]) :=
      ⟨by show 2 ≤ sizeLine; decide, [.int i s.toks, u], .cons ⟨_, rfl⟩ (.cons ru .nil), ⟨_, hT2, rfl, _, rfl⟩⟩
    have I1 : Inv X pins σ (upd H s.heap.objs.size (.tup [.int (i : Nat), x])) { s with heap := h'', toks := s.toks + 1 } :=
      I.turnedNew (ch := [e, it]) (fun b ob hb q => (sb.2 b (fun z => hb (by simp [z]))).trans (hk b ob (fun z => hb (by simp [z])) (fun z => hb (by simp [z])) q)) hf (Nat.le_refl _) new
    refine ⟨.ref s.heap.objs.size, _, I1, rfl, ⟨_, x, rfl, I.hok.fresh (Nat.le_refl _), rfl, fun ys hy => by rw [I.list_inj hy hq]; exact hx⟩, ⟨⟨u, ?_⟩, hit'.at fun o q => (sb.2 it (Ne.symm hne)).trans q, hne⟩, fun b hb => ?_⟩
    · have e1 : ((i + 1 : Nat) : Int) = (i : Int) + 1 := by omega
      rw [e1]; exact he'
    · have hb' : b < s.heap.objs.size := by
        have e' : b = e ∨ b = it := by simpa using hb
        rcases e' with z | z
        · rw [z]; exact hel
        · rw [z]; exact hil
      rw [upd_ne (Nat.ne_of_lt hb')]
      exact (hf b hb).1
  done := by
    intro X hP hw hK hc i pins s σ H E I hf st hg
    subst hP hw hK
    obtain ⟨⟨old, he⟩, hit, hne⟩ := st
    obtain ⟨xs, hq, hx⟩ := hg
    obtain ⟨its, rv, p, hz⟩ := I.list hq
    obtain ⟨f0, f1, f2, f3, f4, f5⟩ := hf it (by simp)
    have hl := rv.length
    exact wpAny_pyNext_enum_end (I.ok.hd hc) he hit p.isList (by simp; omega) fun h' eb => ⟨rfl, I.turned (t' := s.toks) (fun b o hb q => eb b o hb q) f0 f1 f3 f4 f5⟩
  self := fun A i s Q E st h => let ⟨⟨_, he⟩, _⟩ := st; wpAny_pyIter_enum he h
def iEnum (K : PySem.W.Frag) (ta : TA) : TI := fun σ H R => ta σ H fun vs H1 => ∃ a xs, vs = [.ref a] ∧ SqL K H1 a xs ∧ R (Ite K a) H1
theorem pi_enum {X : Cx} {e : Expr} {ta : TA} {p pos tpos : Pos} {elts : List Expr} {kk : Nat} (hg : Gl X "enumerate") (hm : X.mg "enumerate" = none) (ha : PA X [e] ta) (hs : starEach [e] X.env = [(false, eval e X.env)] := by rfl) :
    PI X (.Tuple elts kk tpos) (.Call (.Name "enumerate" p) [e] [] pos) (iEnum X.K ta) := by
  intro pins s σ H R I h
  refine Call_ (ld_blt I hg hm boot_enumerate (PyProof.Rows.callWith_type1 (thn (ha pos pins s σ H _ I h) fun us s1 ⟨vs, H1, I1, r1, q1⟩ => ?_) hs rfl))
  obtain ⟨a, xs, ex, hq, q⟩ := q1
  subst ex
  cases r1 with
  | cons r rr =>
    cases rr
    cases r
    obtain ⟨its, rv, p', hz⟩ := I1.list hq
    refine call_enumerate_list p'.isList fun h' he hit hsz hk => wpAny_pyIter_enum he ?_
    have I2 : Inv X pins σ H1 { s1 with heap := h' } := I1.kept (t' := s1.toks) hk
    refine ⟨s1.heap.objs.size + 1, [s1.heap.objs.size + 1, s1.heap.objs.size], _, _, H1, rfl, I2, turn_enum a (s1.heap.objs.size + 1) s1.heap.objs.size, ⟨⟨.none, he⟩, hit, Nat.succ_ne_self _⟩, fun b hb => ?_, q⟩
    have e' : b = s1.heap.objs.size + 1 ∨ b = s1.heap.objs.size := by simpa using hb
    have hle : s1.heap.objs.size ≤ b := by
      rcases e' with z | z
      · rw [z]; exact Nat.le_add_right _ _
      · rw [z]; exact Nat.le_refl _
    exact I1.fpOk hle (I1.hok.fresh hle)
/-! ### zip(list, list) -/
end L2
section 
namespace Bits
open PySem PyProof.Rows
end Bits
end 
section 
namespace TL
open PySem PySem.Builtin PySem.Builtin.Str PySem.StrLaws
/-! ### the list functions -/
/-! ### the model's split and partition are these -/
/-! ### computing spl and par -/
/-! ### digits -/
/-! ### words: x.split() -/
end TL
end 
namespace L2
open PySem PySem.Spec PyProof.Rows
theorem strs_of_vals : ∀ {ys : List Str} {us : List Value}, Vals (ys.map V.str) us → StrsAre us ys
  | [], _, .nil => .nil
  | y :: ys, _, .cons r t => by
    obtain ⟨k, rfl⟩ := r
    exact .cons y k (strs_of_vals t)
section
variable {X : Cx} {pins : List (Addr × Obj)} {σ : St} {H : Hp} {s : Shared} {Q : VK}
end
section
variable {X : Cx}
/-- sep.join(a list | a tuple of texts) -/
theorem mt_join : MtR X "str.join" (fun x xs H Q => ∃ a p, ∃ ys : List Str, x = .str a ∧ xs = [.ref p] ∧ (SqL X.K H p (ys.map V.str) ∨ SqT X.K H p (ys.map V.str)) ∧
    (ys.map (·.length)).sum + ys.length * a.length ≤ 16777216 ∧ Q (.str (Txt.join a ys)) H) := by
  intro pins s σ H x xs v us Q I rx rs h
  obtain ⟨a, p, ys, rfl, rfl, hp, hz, h⟩ := h
  obtain ⟨t, rfl⟩ := rx
  cases rs with
  | cons r1 rs =>
    cases rs
    cases r1
    rcases hp with hp | hp
    · obtain ⟨its, r, ⟨o, n, ho, hc, _, hd⟩, _⟩ := I.list hp
      exact PyProof.Rows.join_list (items := its.toArray) ⟨o, ho, hc, n, hd⟩ (by rw [List.toList_toArray]; exact strs_of_vals r) hz fun t' k => ⟨.str _, H, I.tok k, ⟨t', rfl⟩, h⟩
    · obtain ⟨its, r, ht, _⟩ := I.tuple hp
      exact PyProof.Rows.join_tuple (items := its.toArray) ht (by rw [List.toList_toArray]; exact strs_of_vals r) hz fun t' k => ⟨.str _, H, I.tok k, ⟨t', rfl⟩, h⟩
/-! ### of a text alone -/
/-! ### of a text and a text -/
end
section
variable {X : Cx} {o e : Expr} {to te : TE}
def tM1 (r : V → List V → Hp → VK → Prop) (to te : TE) : TE := fun σ H Q => to σ H fun x H1 => (∃ a, x = .str a) ∧ te σ H1 fun y H2 => r x [y] H2 Q
theorem pe_m1 {id : String} {name : Str} {apos pos : Pos} {r : V → List V → Hp → VK → Prop} (slot : Slot "str" name id) (ty : typeOf (.builtin id) = pure (.type "method_descriptor")) (rule : MtR X id r) (ho : PE X o to) (he : PE X e te)
    (hs : starEach [e] X.env = [(false, eval e X.env)] := by rfl) (hbase : attributeBase o name X.env (eval o X.env) = eval o X.env := by rfl) (hline : (apos.endLine == pos.line) = true := by rfl) :
    PE X (.Call (.Attribute o name apos) [e] [] pos) (tM1 r to te) := by
  intro pins s σ H Q I h
  refine PySem.Call_method1 hbase hs hline (thn (ho pins s σ H _ I h) fun v s1 ⟨x, H1, I1, r1, q1⟩ => ?_)
  obtain ⟨⟨a, rfl⟩, q1⟩ := q1
  obtain ⟨t, rfl⟩ := _root_.id r1
  refine ⟨"str", _, F.plainAttrs_str, slot, ty, typeIs_str _ _ _, (fun _ e => nomatch e), Calls.callWith_builtin rfl (Calls.evalArgs_plain (Calls.spliced_cons ?_))⟩
  exact thn (he pins s1 σ H1 _ I1 q1) fun u s2 ⟨y, H2, I2, r2, q2⟩ => Calls.spliced_nil (rule pins s2 σ H2 _ [y] _ [u] Q I2 r1 (.cons r2 .nil) q2)
theorem pe_join {apos pos : Pos} (ho : PE X o to) (he : PE X e te) (hs : starEach [e] X.env = [(false, eval e X.env)] := by rfl) (hbase : attributeBase o "join" X.env (eval o X.env) = eval o X.env := by rfl) (hline : (apos.endLine == pos.line) = true := by rfl) :
    PE X (.Call (.Attribute o "join" apos) [e] [] pos) (tM1 (fun x xs H Q => ∃ a p, ∃ ys : List Str, x = .str a ∧ xs = [.ref p] ∧ (SqL X.K H p (ys.map V.str) ∨ SqT X.K H p (ys.map V.str)) ∧
      (ys.map (·.length)).sum + ys.length * a.length ≤ 16777216 ∧ Q (.str (Txt.join a ys)) H) to te) :=
  pe_m1 F.slot_str_join F.type_str_join mt_join ho he hs hbase hline
end
end L2
namespace L2
open PySem PySem.Spec PyProof.Rows
section
variable {X : Cx}
end
/-! ### slices of a text -/
end L2
namespace Att
open PySem PySem.W PySem.Calls PyProof.Rows
/-! ### the script -/
theorem ints_of_wellAll {P : Params} {h : Heap} : ∀ (ns : List Int) (vs : List Value), WellAll P h vs (ns.map WData.int) → IntsAre vs ns := by
  intro ns
  induction ns with
  | nil =>
    intro vs w
    rw [List.map_nil] at w
    cases w
    exact .nil
  | cons n ns ih =>
    intro vs w
    rw [List.map_cons] at w
    cases w with
    | cons a b =>
      cases a
      exact .cons _ _ (ih _ b)
/-! ### the attachment: holds_open's last premise (the goal 'hc' behind k_head) from a wpAny of the law's body -/
/-! ### rules over ANY heap (no ledger) from facts about the written part K: the library's own take a ledger (News) for what they write -/
section
variable {prog : Program} {w : World} {A : Around} {E : Value → Shared → Prop} {s : Shared} {K : Frag}
/-! the whole heap as the ledger: makes every rule that writes through a ledger a rule over any heap -/
end
end Att
namespace L2
open PySem PySem.Spec PyProof.Rows
theorem vals_ints : ∀ {vs : List Value} {ns : List Int}, IntsAre vs ns → Vals (ns.map V.int) vs
  | _, _, .nil => .nil
  | _, _, .cons n t h => .cons ⟨t, rfl⟩ (vals_ints h)
/-- nothing is tracked but the script, known to the object (or it is an object of the module) -/
def Only (H : Hp) : Prop := ∀ b, H b = none ∨ ∃ o xs, H b = some (.frz o (.lst xs))
end L2
namespace L2
open PySem PySem.Spec PyProof.Rows
abbrev KOf {K : PySem.W.Frag} {h : Heap} (_ : K.In h) : PySem.W.Frag := K
end L2
/- THE LAST THEOREM (shape; LID, My.* are yours):
   My.Adr: a structure of the addresses that your layer names (classes, functions); My.Txt K t: a structure (Prop) of the equations over K;
   My.txt_mk : {K} {implicit addresses ..} (e1 : nsIn K mainGlobals "law" = some (some (.ref f))) (e2 : K.lookup f = some ⟨oc, od, .func (fnOf "law" "law" params body scope dV kV doc pm an cdv ct), sl⟩) (e3 : codeIn K cdv "law" = true) .. : ∃ t, My.Txt K t
set_option maxRecDepth 100000 in
set_option maxHeartbeats 0 in
theorem PySem.Challenge.cw_LID_holds : PySem.Challenge.rw_LID.Holds := by
  w_on; o_law; k_head; (case hw => w_witness2)
  k_fill
  refine L2.walk_of (l := PySem.Challenge.rw_LID) (n := 63) (k := 40) (x := "script") (CX := fun w => ..) (sp := fun _ => My.sp_law) rfl (by decide) rfl ⟨rfl, by decide, by decide⟩ (fun w h Y => PySem.W.kIn_of Y) ?F ?S ?C
  case F =>
    intro w mg fa h KX G hmg
    have T : ∃ t, My.Txt (L2.KOf KX) t := by
      dsimp only [L2.KOf]                          -- K must stand as «<heap const> w.params» for k_is
      refine' My.txt_mk ?e1 ?e2 ?e3 ..
      (case e1 => PySem.W.k_is)                    -- in the order: a name -> its address -> its object -> its parts
      (case e2 => PySem.W.k_is)
      ..
    obtain ⟨t, T⟩ := T
    have e0 := hmg.symm.trans (PySem.W.mg_of KX G T.law)
    cases e0                                       -- fa is the law's own address
    exact ⟨_, fun s u => .of_eq rfl, fun base kb nb => My.law_fn T kb nb⟩     -- if «.of_eq rfl» comes too early: refine' ⟨_, ?b, fun base kb nb => My.law_fn T kb nb⟩; exact fun s u => .of_eq rfl
  case S => exact fun w H a ns hl hO hS => ..
  case C => exact ..
(the tactic k_is has no namespace: write k_is) -/
/-! SHORT WORDS over the layer: a def of the text, its body, what a loop and a test want. -/
namespace L2
open PySem PySem.Spec PyProof.Rows
/-! ### the text by places -/
def defArgs (s : Stmt) : Arguments := match s with
  | .FunctionDef _ a _ _ _ _ _ _ _ _ => a
  | _ => { posonlyargs := [], args := [], vararg := none, kwonlyargs := [], kw_defaults := [], kwarg := none, defaults := [] }
def defBody (s : Stmt) : List Stmt := match s with
  | .FunctionDef _ _ b _ _ _ _ _ _ _ => b
  | _ => []
def defScope (s : Stmt) : Scope := match s with
  | .FunctionDef _ _ _ _ _ _ sc _ _ _ => sc
  | _ => { kind := .function, names := [], isGenerator := false, isCoroutine := false }
/-! ### no exception leaves a def -/
abbrev CX0 : CXT := fun _ _ _ _ _ _ => False
abbrev E0 : XK := fun _ _ _ => False
theorem pass0 {X : Cx} : Passes CX0 X E0 := fun _ _ _ _ _ _ _ h => h.elim
/-! ### a def (or method) of the text as it stands behind the top -/
structure Fun (K : PySem.W.Frag) (x qual : Str) (st : Stmt) (f : Addr) (fd : FuncData) : Prop where
  ex : ∃ (oc : Value) (od : Option Addr) (kV doc pm : Value) (an : Option Addr) (cdv ct : Value) (osl : Array (Option Value)),
    fd = PySem.W.fnOf x qual (defArgs st) (defBody st) (defScope st) .none kV doc pm an cdv ct ∧ K.lookup f = some ⟨oc, od, .func fd, osl⟩ ∧ PySem.W.codeIn K cdv qual = true
  kp : PySem.W.keepIn K (.ref f) = true
section
variable {P : Program} {w : World} {K : PySem.W.Frag} {mg : Str → Option Value} {base : Heap}
/-- THE RULE for a def: its body as a term of rules, and the reading of that term -/
theorem Fun.ok {x qual : Str} {st : Stmt} {f : Addr} {fd : FuncData} {N ps : List Str} {k : Nat} {sp : Sp} (F : Fun K x qual st f fd) (S : FnScope N ps (defScope st)) (len : ∀ vs H Q E, sp vs H Q E → vs.length = ps.length)
    (hbody : ∀ (cdv : Value) (A : Around) (outer : List Env) (s : Shared) (H : Hp) (vs : List V) (Q : VK) (E : XK), Room k (A.deeper (envOfC qual (defScope st) s.heap.objs.size f cdv)) → sp vs H Q E →
      ∃ t, PSs (cxOf CX0 P w K mg base N qual (defScope st) f cdv A outer s H E).nox (defBody st) t ∧ t { nx := fun _ H' => Q .non H', rt := Q } (start N vs) H) : FnOk P w K mg base CX0 (k + 1) f fd ps sp := by
  obtain ⟨oc, od, kV, doc, pm, an, cdv, ct, osl, rfl, lk, hcd⟩ := F.ex
  refine fn_of lk hcd S len fun A outer s H vs Q E hr hsp => ?_
  obtain ⟨t, h, q⟩ := hbody cdv A outer s H vs Q E hr hsp
  exact ⟨t, h.nox, q⟩
/-- how its arguments bind (no defaults): h is «fun _ _ _ _ _ _ us hl => match us, hl with | [_, _], _ => rfl», one _ a parameter -/
theorem Fun.binds {x qual : Str} {st : Stmt} {f : Addr} {fd : FuncData} {ps : List Str} (F : Fun K x qual st f fd)
    (h : ∀ (kV doc pm : Value) (an : Option Addr) (cdv ct : Value) (us : List Value), us.length = ps.length → bindArgs (PySem.W.fnOf x qual (defArgs st) (defBody st) (defScope st) .none kV doc pm an cdv ct) ⟨us, []⟩ = pure (ps.zip us)) : Binds K fd ps [] := by
  obtain ⟨oc, od, kV, doc, pm, an, cdv, ct, osl, rfl, lk, hcd⟩ := F.ex
  exact .all (h kV doc pm an cdv ct)
theorem fun_mk {x qual : Str} {st : Stmt} {f : Addr} {oc : Value} {od an : Option Addr} {osl : Array (Option Value)} {kV doc pm cdv ct : Value} (l : K.lookup f = some ⟨oc, od, .func (PySem.W.fnOf x qual (defArgs st) (defBody st) (defScope st) .none kV doc pm an cdv ct), osl⟩)
    (c : PySem.W.codeIn K cdv qual = true) (k : PySem.W.keepIn K (.ref f) = true) : Fun K x qual st f (PySem.W.fnOf x qual (defArgs st) (defBody st) (defScope st) .none kV doc pm an cdv ct) := ⟨⟨oc, od, kV, doc, pm, an, cdv, ct, osl, rfl, l, c⟩, k⟩
end
theorem hu_of {A : Around} {k : Nat} (hr : Room k A) : A.units + 1 < cLine := Nat.lt_of_le_of_lt (Nat.add_le_add_left (by decide : 1 ≤ 64) _) hr.units
theorem small1000 {n : Nat} (h : n ≤ 1000) : n < sizeLine := Nat.lt_of_le_of_lt h (by decide)
/-! ### expressions in short: the name that stands in the i-th slot -/
section
variable {X : Cx}
theorem pv (i : Nat) {x : Str} {pos : Pos} (hN : X.N[i]? = some x := by rfl) (hv : Vis X.env.scope x := by first | exact Or.inl rfl | exact Or.inr (Or.inl rfl) | exact Or.inr (Or.inr rfl)) (hd : (x == ("__debug__" : Str)) = false := by decide)
    (hcd : (x == ("__classdict__" : Str)) = false := by decide) : PE X (.Name x pos) (tVar i) := pe_var hN hv hd hcd
end
/-! ### tests -/
theorem iteF {A B : Prop} (h : B) : if false = true then A else B := by
  rw [if_neg Bool.false_ne_true]
  exact h
theorem iteT {A B : Prop} (h : A) : if true = true then A else B := by
  rw [if_pos rfl]
  exact h
theorem ite2 {c A B : Prop} [Decidable c] (h1 : c → A) (h2 : ¬ c → B) : if c then A else B := by
  by_cases h : c
  · rw [if_pos h]
    exact h1 h
  · rw [if_neg h]
    exact h2 h
/-! ### heaps -/
/-- all that was tracked is as it was -/
def Same (H H' : Hp) : Prop := ∀ b o, H b = some o → H' b = some o
theorem Same.refl (H : Hp) : Same H H := fun _ _ h => h
theorem Same.trans {H H1 H2 : Hp} (a : Same H H1) (b : Same H1 H2) : Same H H2 := fun c o h => b c o (a c o h)
theorem Same.free {H H' : Hp} (e : Same H H') {l : Addr} (h : H' l = Option.none) : H l = Option.none := by
  cases q : H l with
  | none => rfl
  | some o =>
    rw [e l o q] at h
    cases h
theorem Same.seq {K : PySem.W.Frag} {H H' : Hp} {a : Addr} {xs : List V} (e : Same H H') (h : SqL K H a xs) : SqL K H' a xs := by
  rcases h with (h | ⟨o, h⟩) | h
  · exact .inl (.inl (e _ _ h))
  · exact .inl (.inr ⟨o, e _ _ h⟩)
  · exact .inr h
/-! ### a dict's pairs: keys that differ -/
section
variable {κ : Type} [DecidableEq κ]
end
/-! ### lists -/
theorem at_of {xs : List V} {z : Int} {j : Nat} {v : V} (e : z = (j : Int)) (h : xs[j]? = some v) : atI xs z = some v := by
  rw [e]
  exact atI_nat h
end L2


section
set_option linter.all false
set_option maxRecDepth 100000
namespace L2
open PySem PySem.Spec PyProof.Rows
section
variable {X : Cx}
/-! ### xs.count(y), flat items -/
theorem countP_eqU {x : V} : ∀ {xs : List V} {us : List Value}, Vals xs us → xs.all flatV = true → us.countP (eqU x) = xs.countP fun y => eqV y x
  | _, _, .nil, _ => rfl
  | _, _, .cons r t, f => by
    have f' := Bool.and_eq_true_iff.mp (show (flatV _ && List.all _ flatV) = true by simpa using f)
    rw [List.countP_cons, List.countP_cons, countP_eqU t f'.2, eqU_of r f'.1]
def rCount (K : PySem.W.Frag) : V → List V → Hp → VK → Prop := fun x xs H Q => ∃ (a : Addr) (ys : List V) (y : V), x = V.ref a ∧ xs = [y] ∧ SqL K H a ys ∧ flatV y = true ∧ ys.all flatV = true ∧ Q (.int ((ys.countP fun z => eqV z y : Nat) : Int)) H
theorem mt_lcount : MtR X "list.count" (rCount X.K) := by
  intro pins s σ H x xs v us Q I rx rxs h
  obtain ⟨a, ys, y, rfl, rfl, hs, fy, fys, q⟩ := h
  cases rx
  cases rxs with
  | cons ry rt =>
    rename_i uy ut
    cases rt
    obtain ⟨its, rv, ⟨⟨cls, dd, data, sl⟩, n, ho, hc, hdn, hd⟩, hlen⟩ := I.list hs
    simp only at hc hd
    subst hc hd
    refine call_meets PySem.F.slot_list_count ⟨_, ho, rfl⟩ PySem.F.entry_list_count (PySem.F.args_list_count_2 _ _)
      (SeqAt.list_countAt a its.toArray n dd sl uy (eqU y)) ⟨ho, fun u' hu' => mem_eqAt ry fy rv fys u' (by simpa using hu'), ?_⟩
    have e : its.toArray.toList.countP (eqU y) = ys.countP fun z => eqV z y := by simpa using countP_eqU rv fys
    rw [e]
    exact ⟨.int _, H, I.tok _, ⟨_, rfl⟩, q⟩

/-! ### xs[lo:hi:st] -/
def cutBy {α : Type} (xs : List α) (lo hi st : Option Int) : List α :=
  (sliceRange (sliceBounds lo hi st xs.length).1 (sliceBounds lo hi st xs.length).2.1 (sliceBounds lo hi st xs.length).2.2).filterMap (xs[·]?)
theorem vals_pick {xs : List V} {us : List Value} (r : Vals xs us) : ∀ l : List Nat, Vals (l.filterMap (xs[·]?)) (l.filterMap (us[·]?))
  | [] => .nil
  | i :: l => by
    rw [List.filterMap_cons, List.filterMap_cons]
    cases e : xs[i]? with
    | none => rw [r.none_of e]; exact vals_pick r l
    | some x =>
      obtain ⟨u, hu, ru⟩ := r.get e
      rw [hu]
      exact .cons ru (vals_pick r l)
theorem slicePick_by (its : List Value) (lo hi st : Option Int) : slicePick its.toArray lo hi st = (cutBy its lo hi st).toArray := by
  unfold slicePick cutBy
  simp
def rSlStep (K : PySem.W.Frag) : V → Option Int → Option Int → Int → Hp → VK → Prop := fun x lo hi st H Q => ∃ a xs, x = .ref a ∧ SqL K H a xs ∧ st ≠ 0 ∧ (cutBy xs lo hi (some st)).length ≤ sizeLine ∧ ∀ p, H p = none → Q (.ref p) (upd H p (.lst (cutBy xs lo hi (some st))))
def tSlS (K : PySem.W.Frag) (te : TE) (tl th : TO) (ts : TE) : TE := fun σ H Q => te σ H fun x H1 => tl σ H1 fun l H2 => th σ H2 fun u H3 => ts σ H3 fun y H4 => ∃ c, y = .int c ∧ rSlStep K x l u c H4 Q
theorem pe_sliceS {e st : Expr} {te ts : TE} {lo hi : Option Expr} {tl th : TO} {pos p2 : Pos} (he : PE X e te) (hl : PO X lo tl) (hu : PO X hi th) (hst : PE X st ts) (ht : ∀ o r, letTemporaryGo e o r = pure () := by intro _ _; rfl) :
    PE X (.Subscript e (.Slice lo hi (some st) p2) pos) (tSlS X.K te tl th ts) := by
  intro pins s σ H Q I h
  refine wpAny_Subscript_Slice_step (T := "list") slot_list_getitem.lookup (thn (he pins s σ H _ I h) fun v s1 ⟨x, H1, I1, r1, q1⟩ => ?_) ht
  refine wpAny_Slice (thn (hl pins s1 σ H1 _ I1 q1) fun vl s2 ⟨l, H2, I2, pl, q2⟩ => thn (hu pins s2 σ H2 _ I2 q2) fun vu s3 ⟨u, H3, I3, pu, q3⟩ => ?_)
  rw [evalPart_some]
  refine thn (hst pins s3 σ H3 _ I3 q3) fun vs s4 ⟨y, H4, I4, r4, q4⟩ => ?_
  obtain ⟨c, rfl, a, xs, rfl, hx, hc, hlen, q⟩ := q4
  obtain ⟨t, rfl⟩ := r4
  cases r1
  have I5 : Inv X pins σ H4 { s4 with heap := s4.heap.push { cls := .type "slice", data := .fields #[vl, vu, .int c t] } } := I4.kept (t' := s4.toks) fun b ob q => Heap.get?_push_of_some _ q
  obtain ⟨its, r, hp, hz⟩ := I5.list hx
  have hl' := r.length
  refine ⟨hp.isList.typeIs, ?_⟩
  refine wpAny_getItem_list_slice hp.isList (Heap.IsSliceOf.new ..) pl pu (.int c t) (by simpa using hc) ?_ (by rw [List.size_toArray] <;> omega)
  rw [slicePick_by]
  have e1 : cutBy its l u (some c) = (sliceRange (sliceBounds l u (some c) xs.length).1 (sliceBounds l u (some c) xs.length).2.1 (sliceBounds l u (some c) xs.length).2.2).filterMap (its[·]?) := by unfold cutBy; rw [hl']
  rw [e1]
  exact ⟨.ref _, _, I5.laid (t' := s4.toks) (o := .lst (cutBy xs l u (some c))) (fun b ob q => Heap.get?_push_of_some _ q) (Nat.le_refl _) ⟨hlen, _, 0, vals_pick r _, Heap.get?_push_size _ rfl⟩, rfl, q _ (I5.hok.fresh (Nat.le_refl _))⟩

/-! ### f-strings of texts -/
abbrev TJ := St → Hp → Str → VK → Prop
def PJ (X : Cx) (es : List Expr) (t : TJ) : Prop :=
  ∀ (pins : List (Addr × Obj)) (s : Shared) (σ : St) (H : Hp) (acc : Str) (Q : VK), Inv X pins σ H s → t σ H acc Q → wpAny (model X.prog X.w) X.A (joinParts acc (evalEach es X.env)) (EP X pins σ Q) X.xe s
def jNil : TJ := fun _ H acc Q => acc.length ≤ sizeLine ∧ Q (.str acc) H
def jCons (te : TE) (t : TJ) : TJ := fun σ H acc Q => te σ H fun x H1 => ∃ y, x = .str y ∧ (acc ++ y).length ≤ sizeLine ∧ t σ H1 (acc ++ y) Q
theorem pj_nil : PJ X [] jNil := fun pins s σ H acc Q I h => joinParts_nil ⟨.str acc, H, I.tok _, ⟨_, rfl⟩, h.2⟩ h.1
theorem pj_cons {e : Expr} {es : List Expr} {te : TE} {t : TJ} (he : PE X e te) (h : PJ X es t) : PJ X (e :: es) (jCons te t) := by
  intro pins s σ H acc Q I hw
  show wpAny _ _ (joinParts acc (eval e X.env :: evalEach es X.env)) _ _ _
  refine joinParts_cons (thn (he pins s σ H _ I hw) fun v s1 ⟨x, H1, I1, r1, y, e1, hl, q⟩ => ?_)
  subst e1
  obtain ⟨t', rfl⟩ := r1
  exact ⟨hl, h pins s1 σ H1 _ Q I1 q⟩
def tFmt (te : TE) : TE := fun σ H Q => te σ H fun x H1 => ∃ y, x = .str y ∧ y.length ≤ sizeLine ∧ Q (.str y) H1
theorem pe_fmt {e : Expr} {te : TE} {pos : Pos} (he : PE X e te) : PE X (.FormattedValue e (-1) none pos) (tFmt te) := by
  intro pins s σ H Q I h
  refine FormattedValue_plain (thn (he pins s σ H _ I h) fun v s1 ⟨x, H1, I1, r1, y, e1, hl, q⟩ => ?_)
  subst e1
  obtain ⟨t', rfl⟩ := r1
  exact formatField_str (fun t' tk => ⟨.str y, H1, I1.tok _, ⟨_, rfl⟩, q⟩) hl
def tJoined (t : TJ) : TE := fun σ H Q => t σ H Str.empty Q
theorem pe_joined {e1 e2 : Expr} {es : List Expr} {t : TJ} {pos : Pos} (h : PJ X (e1 :: e2 :: es) t) : PE X (.JoinedStr (e1 :: e2 :: es) pos) (tJoined t) :=
  fun pins s σ H Q I hw => JoinedStr_many (h pins s σ H _ Q I hw)

/-! ### a dict of the module's own, with int keys, read -/
def DKr (K : PySem.W.Frag) (a : Addr) (kvs : List (Int × V)) : Prop :=
  (a == sysModules) = false ∧ ∃ (o : Obj) (es : Array DictEntry) (ep : Nat), K.lookup a = some o ∧ o.ExactDict ∧ o.data = .dict es ep ∧
    Paired (fun (e : DictEntry) (p : Int × V) => e.hash = hashInt p.1 ∧ (∃ t, e.key = .int p.1 t) ∧ RelV p.2 e.val) es.toList kvs ∧ (kvs.map (·.1)).Nodup
theorem dkr_pairs {P : Program} {w : World} : ∀ {es : List DictEntry} {kvs : List (Int × V)}, Paired (fun (e : DictEntry) (p : Int × V) => e.hash = hashInt p.1 ∧ (∃ t, e.key = .int p.1 t) ∧ RelV p.2 e.val) es kvs →
    ∃ vs : List (Key × Value), Pairs (mixKind P w) es vs ∧ KV (kvs.map fun p => ((Sum.inl p.1 : Key), p.2)) vs ∧ (∀ e ∈ es, ∃ k, (mixKind P w).is k e.key = true ∧ e.hash = (mixKind P w).hash k)
  | _, _, .nil => ⟨[], .nil, .nil, fun _ h => nomatch h⟩
  | _, _, .cons (a := e) (b := p) h t => by
    obtain ⟨vs, h1, h2, h3⟩ := dkr_pairs (P := P) (w := w) t
    obtain ⟨hh, ⟨tk, hk⟩, hr⟩ := h
    refine ⟨(Sum.inl p.1, e.val) :: vs, .cons (by rw [hk]; exact keyIs_int p.1 tk) rfl h1, .cons ⟨rfl, hr⟩ h2, fun e' he' => ?_⟩
    rcases List.mem_cons.mp he' with rfl | he'
    · exact ⟨Sum.inl p.1, by rw [hk]; exact keyIs_int p.1 tk, hh⟩
    · exact h3 e' he'
theorem Inv.dkr {pins : List (Addr × Obj)} {σ : St} {H : Hp} {s : Shared} {a : Addr} {kvs : List (Int × V)} (I : Inv X pins σ H s) (d : DKr X.K a kvs) :
    (a == sysModules) = false ∧ ∃ vs, KV (kvs.map fun p => ((Sum.inl p.1 : Key), p.2)) vs ∧ s.heap.DictOf (mixKind X.prog X.w) a vs := by
  obtain ⟨ha, o, es, ep, hl, hx, hd, hp, hn⟩ := d
  obtain ⟨vs, h1, h2, h3⟩ := dkr_pairs (P := X.prog) (w := X.w) hp
  refine ⟨ha, vs, h2, o, es, ep, I.kIn _ _ hl, hx, hd, fun e he => h3 e (by simpa using he), h1, ?_⟩
  have e : vs.map (·.1) = kvs.map (fun p => (Sum.inl p.1 : Key)) := by
    have : ∀ {l : List (Key × V)} {m : List (Key × Value)}, KV l m → m.map (·.1) = l.map (·.1) := by
      intro l m h
      unfold KV at h
      induction h with
      | nil => rfl
      | cons h t ih => rw [List.map_cons, List.map_cons, ih, h.1]
    rw [this h2, List.map_map]; rfl
  rw [e]
  have : (kvs.map (fun p => (Sum.inl p.1 : Key))) = (kvs.map (·.1)).map Sum.inl := by rw [List.map_map]; rfl
  rw [this]
  exact (List.Pairwise.map (R := fun a b => a ≠ b) _ (fun a b h e => h (Sum.inl.inj e)) hn)
def valI (kvs : List (Int × V)) (k : Int) : Option V := (kvs.find? fun p => p.1 = k).map (·.2)
theorem valV_inl (kvs : List (Int × V)) (k : Int) : valV (kvs.map fun p => ((Sum.inl p.1 : Key), p.2)) (Sum.inl k) = valI kvs k := by
  unfold valV valI
  induction kvs with
  | nil => rfl
  | cons p r ih =>
    rw [List.map_cons, List.find?_cons, List.find?_cons]
    by_cases h : p.1 = k
    · simp [h]
    · have h' : ¬ (Sum.inl p.1 : Key) = Sum.inl k := fun e => h (Sum.inl.inj e)
      simp only [h, h', decide_false]
      exact ih
def tKGet (K : PySem.W.Frag) (td ty : TE) : TE := fun σ H Q => td σ H fun x H1 => ty σ H1 fun y H2 => ∃ a kvs k v, x = .ref a ∧ y = .int k ∧ DKr K a kvs ∧ valI kvs k = some v ∧ Q v H2
theorem pe_kget {o i : Expr} {td ty : TE} {pos : Pos} (ho : PE X o td) (hi : PE X i ty) (hs : NoSl i) : PE X (.Subscript o i pos) (tKGet X.K td ty) := by
  intro pins s σ H Q I h
  refine subD_of PySem.F.slot_dict_getitem.lookup hs (thn (ho pins s σ H _ I h) fun u s1 ⟨x, H1, I1, rx, q1⟩ => thn (hi pins s1 σ H1 _ I1 q1) fun iv s2 ⟨y, H2, I2, ry, a, kvs, k, v, ex, ey, g, l, q2⟩ => ?_)
  subst ex ey
  obtain rfl : u = Value.ref a := rx
  obtain ⟨hd, vs, rel, dd⟩ := I2.dkr g
  refine ⟨dd.typeIs, ?_⟩
  obtain ⟨w', hw, rw'⟩ := RelO.some_of (v := v) (o := valueAt vs (Sum.inl k)) (by rw [← l, ← valV_inl]; exact rel.val _)
  exact wpAny_getItem_of (kV_is (k := Sum.inl k) ry) dd.mapOf hw ⟨v, H2, I2.tok _, rw', q2⟩
def tKGet2 (K : PySem.W.Frag) (td ty tx : TE) : TE := fun σ H Q => td σ H fun x H1 => ∃ a kvs, x = .ref a ∧ DKr K a kvs ∧ ty σ H1 fun y H2 => tx σ H2 fun z H3 => ∃ k, y = .int k ∧ Q ((valI kvs k).getD z) H3
theorem pe_kget2 {o e f : Expr} {apos cpos : Pos} {td ty tx : TE} (ho : PE X o td) (he : PE X e ty) (hf : PE X f tx) (m : M2 X o "get" apos e f cpos) : PE X (.Call (.Attribute o "get" apos) [e, f] [] cpos) (tKGet2 X.K td ty tx) := by
  intro pins s σ H Q I h
  refine wpAny_Call_method m.base m.few m.line PySem.F.plainAttrs_dict PySem.F.slot_dict_get PySem.F.type_dict_get (thn (ho pins s σ H _ I h) fun u s1 ⟨x, H1, I1, rx, a, kvs, ex, d, q1⟩ => ?_)
  subst ex
  obtain rfl : u = Value.ref a := rx
  obtain ⟨hd, vs, rel, dd⟩ := I1.dkr d
  refine ⟨dd.typeIs, dd.mapOf.noDict, ?_⟩
  rw [m.trees]
  refine Calls.callWith_builtin rfl (Calls.evalArgs_plain (Calls.spliced_cons (thn (he pins s1 σ H1 _ I1 q1) fun iv s2 ⟨y, H2, I2, ry, q2⟩ =>
    Calls.spliced_cons (thn (hf pins s2 σ H2 _ I2 q2) fun fv s3 ⟨z, H3, I3, rz, k, ey, q3⟩ => Calls.spliced_nil ?_))))
  subst ey
  obtain ⟨hd, vs, rel, dd⟩ := I3.dkr d
  refine call_meetsIn PySem.F.slot_dict_get dd.typeIs PySem.F.entry_dict_get (PySem.F.args_dict_get_3 _ _ _) (meets_dict_get_default (mixKind X.prog X.w) a (kV_is (k := Sum.inl k) ry) hd fv) ⟨_, dd.mapOf, ?_⟩
  refine ⟨_, H3, I3.tok _, ?_, q3⟩
  rw [← valV_inl]
  exact (rel.val _).getD rz
end
end L2

end

section
set_option linter.all false
set_option maxRecDepth 100000
namespace L2
open PySem PySem.Spec PyProof.Rows
/-! ### defs by name -/
/-- a def of the text, as it stands behind the top -/
def Src (K : PySem.W.Frag) (mg : Str → Option Value) (x : Str) (st : Stmt) (ps : List Str) : Prop :=
  ∃ (f : Addr) (fd : FuncData), Fun K x x st f fd ∧ Binds K fd ps [] ∧ mg x = some (.ref f)
/-- a def that keeps a promise -/
def Fn (P : Program) (w : World) (K : PySem.W.Frag) (mg : Str → Option Value) (base : Heap) (x : Str) (k : Nat) (ps : List Str) (sp : Sp) : Prop :=
  ∃ (f : Addr) (fd : FuncData), FnOk P w K mg base CX0 k f fd ps sp ∧ Binds K fd ps [] ∧ mg x = some (.ref f) ∧ PySem.W.keepIn K (.ref f) = true
theorem Src.ok {P : Program} {w : World} {K : PySem.W.Frag} {mg : Str → Option Value} {base : Heap} {x : Str} {st : Stmt} {ps N : List Str} {k : Nat} {sp : Sp} (S : Src K mg x st ps) (sc : FnScope N ps (defScope st)) (len : ∀ vs H Q E, sp vs H Q E → vs.length = ps.length)
    (hbody : ∀ (f : Addr) (cdv : Value) (A : Around) (outer : List Env) (s : Shared) (H : Hp) (vs : List V) (Q : VK) (E : XK), Room k (A.deeper (envOfC x (defScope st) s.heap.objs.size f cdv)) → sp vs H Q E →
      ∃ t, PSs (cxOf CX0 P w K mg base N x (defScope st) f cdv A outer s H E).nox (defBody st) t ∧ t { nx := fun _ H' => Q .non H', rt := Q } (start N vs) H) : Fn P w K mg base x (k + 1) ps sp := by
  obtain ⟨f, fd, F, b, m⟩ := S
  exact ⟨f, fd, F.ok sc len (fun cdv A outer s H vs Q E hr h => hbody f cdv A outer s H vs Q E hr h), b, m, F.kp⟩
section
variable {X : Cx} {x : Str} {p pos : Pos} {e : Expr} {es : List Expr} {t : TA}
theorem pe_fn {k : Nat} {ps : List Str} {sp : Sp} (F : Fn X.prog X.w X.K X.mg X.base x k ps sp) (hr : Room k X.A) (hg : Gl X x) (ha : PA X (e :: es) t) (hdb : (x == ("__debug__" : Str)) = false := by decide)
    (he : starEach (e :: es) X.env = (false, eval e X.env) :: starEach es X.env := by rfl) (hpl : (backTo pos (starEach es X.env)).any (·.1) = false := by rfl) : PE X (.Call (.Name x p) (e :: es) [] pos) (tCall sp [] E0 t) := by
  obtain ⟨f, fd, G, b, m, kp⟩ := F
  exact pe_call G hr hg m kp b .nil pass0 ha hdb he hpl
theorem pe_gi {i : Int} (hm : ∃ t, X.mg x = some (.int i t)) (hg : Gl X x) (hd : (x == ("__debug__" : Str)) = false := by decide) : PE X (.Name x pos) (tC (.int i)) := by
  obtain ⟨t, hm⟩ := hm
  exact pe_glob hg hm ⟨t, rfl⟩ hd
theorem pe_gs {z : Str} (hm : ∃ t, X.mg x = some (.str z t)) (hg : Gl X x) (hd : (x == ("__debug__" : Str)) = false := by decide) : PE X (.Name x pos) (tC (.str z)) := by
  obtain ⟨t, hm⟩ := hm
  exact pe_glob hg hm ⟨t, rfl⟩ hd
theorem pe_gr {a : Addr} (hm : X.mg x = some (.ref a)) (hg : Gl X x) (hd : (x == ("__debug__" : Str)) = false := by decide) : PE X (.Name x pos) (tC (.ref a)) := pe_glob hg hm rfl hd
/-- xs[i] for xs[i] op= v -/
theorem get_list : PGet X (fun o i H Q => ∃ p xs k v, o = .ref p ∧ i = .int k ∧ 0 ≤ k ∧ SqL X.K H p xs ∧ xs[k.toNat]? = some v ∧ Q v H) := by
  intro pins s σ H o i ov iv Q I ro ri h
  obtain ⟨p, xs, k, v, rfl, rfl, h0, hq, hv, q⟩ := h
  cases ro
  obtain ⟨t, rfl⟩ := ri
  obtain ⟨its, r, pl, hz⟩ := I.list hq
  obtain ⟨u, hu, ru⟩ := r.get hv
  obtain ⟨hlt, _⟩ := List.getElem?_eq_some_iff.mp hu
  have hl := r.length
  have hn := line63
  exact wpAny_getItem_list pl.isList h0 (by omega) (by simpa using hu) ⟨v, H, I, ru, q⟩
end
/-! ### heaps that only grow -/
theorem same_new {H : Hp} {p : Addr} (h : H p = none) (o : HO) : Same H (upd H p o) := fun b u q => by rw [upd_ne (ne_of_none q h)]; exact q
theorem Same.seqT {K : PySem.W.Frag} {H H' : Hp} {a : Addr} {xs : List V} (e : Same H H') (h : SqT K H a xs) : SqT K H' a xs := by
  rcases h with (h | ⟨o, h⟩) | h
  · exact .inl (.inl (e _ _ h))
  · exact .inl (.inr ⟨o, e _ _ h⟩)
  · exact .inr h
theorem small {n : Nat} (h : n ≤ 1000) : n ≤ sizeLine := Nat.le_of_lt (small1000 h)
/-- a natural number as a value -/
abbrev vn (n : Nat) : V := .int (n : Int)
theorem qi {Q : VK} {H : Hp} {a b : Int} (h : Q (.int a) H) (e : b = a) : Q (.int b) H := by rw [e]; exact h
theorem qb {Q : VK} {H : Hp} {a b : Bool} (h : Q (.bl a) H) (e : b = a) : Q (.bl b) H := by rw [e]; exact h
theorem qs {Q : VK} {H : Hp} {a b : Str} (h : Q (.str a) H) (e : b = a) : Q (.str b) H := by rw [e]; exact h
theorem nat_at {q : List Nat} {i c : Nat} (h : q[i]? = some c) : (q.map vn)[i]? = some (vn c) := by rw [List.getElem?_map, h]; rfl
theorem nat_atI {q : List Nat} {i c : Nat} (h : q[i]? = some c) : atI (q.map vn) ((i : Nat) : Int) = some (vn c) := atI_nat (nat_at h)
theorem flat_nats (q : List Nat) : (q.map vn).all flatV = true := by
  rw [List.all_eq_true]
  intro x hx
  obtain ⟨n, _, rfl⟩ := List.mem_map.mp hx
  rfl
end L2
namespace L2
open PySem PySem.Spec PyProof.Rows
/-! ### a comprehension's block, looked at -/
def blkB (N : List Str) (sc scope : Scope) (own : List (Str × Nat)) : Bool :=
  decide (scope.kind = .function) && (scope.names.all (fun y => decide (scope.names.lookup y.1 = some y.2)) && (own.all (fun p => decide (N[p.2]? = some p.1)) &&
    (scope.names.all (fun y => decide (y.2 ≠ .free) || (decide (sc.names.lookup y.1 = some .cell) || decide (sc.names.lookup y.1 = some .free))) &&
      scope.names.all (fun y => decide (¬ (y.2 = .local ∨ y.2 = .cell)) || (decide (y.1 ∈ own.map (·.1)) || decide (y.1 ∉ N))))))
theorem blk_of {N : List Str} {sc scope : Scope} {own : List (Str × Nat)} (h : blkB N sc scope own = true) : BlkOk N sc scope own := by
  unfold blkB at h
  simp only [Bool.and_eq_true, List.all_eq_true, decide_eq_true_eq, Bool.or_eq_true] at h
  obtain ⟨h1, h2, h3, h4, h5⟩ := h
  refine ⟨h1, h2, h3, fun y hy e => ?_, fun y hy e => ?_⟩
  · rcases h4 y hy with z | z
    · exact absurd e z
    · exact z
  · rcases h5 y hy with z | z
    · exact absurd e z
    · exact z
/-! ### enumerate over a tuple -/
def IteT (K : PySem.W.Frag) (a : Addr) : It :=
  ⟨fun i H => ∃ (xs : List V) (x : V), SqT K H a xs ∧ xs[i]? = some x, fun i H v H' => ∃ T x, v = .ref T ∧ H T = none ∧ H' = upd H T (.tup [.int (i : Nat), x]) ∧ ∀ xs, SqT K H a xs → xs[i]? = some x, fun i H => ∃ xs : List V, SqT K H a xs ∧ xs.length ≤ i⟩
end L2

end

section
set_option linter.all false
set_option maxRecDepth 100000
namespace L2
open PySem PySem.Spec PyProof.Rows
theorem for_enum {K : PySem.W.Frag} {a : Addr} {xs : List V} {g : TG} {tb : TS} {D : Ends} {σ : St} {H : Hp} (Pv : Nat → St → Hp → Prop) (h0 : Pv 0 σ H) (hl : ∀ i σ H, i ≤ xs.length → Pv i σ H → SqL K H a xs)
    (hs : ∀ i x σ H T, xs[i]? = some x → Pv i σ H → H T = none → g (.ref T) σ (upd H T (.tup [vn i, x])) fun σ2 H2 => tb { D with nx := Pv (i + 1), ct := Pv (i + 1), bk := D.nx } σ2 H2) (hd : ∀ σ H, Pv xs.length σ H → D.nx σ H) :
    ∃ W : Nat → Nat → St → Hp → Prop, (∃ m, W 0 m σ H) ∧ ∀ i m σ H, W i m σ H →
      ((Ite K a).stop i H ∧ D.nx σ H) ∨ ((Ite K a).go i H ∧ ∃ N : St → Hp → Prop, (∀ σ' H', N σ' H' → ∃ m', m' < m ∧ W (i + 1) m' σ' H') ∧ ∀ x H', (Ite K a).yld i H x H' → g x σ H' fun σ2 H2 => tb { D with nx := N, ct := N, bk := D.nx } σ2 H2) := by
  refine ⟨fun i m σ H => m = xs.length - i ∧ i ≤ xs.length ∧ Pv i σ H, ⟨xs.length, by simp, Nat.zero_le _, h0⟩, ?_⟩
  rintro i m σ H ⟨rfl, hi, p⟩
  have q := hl i σ H hi p
  by_cases hlt : i < xs.length
  · refine .inr ⟨⟨xs, xs[i], q, by simp [hlt]⟩, Pv (i + 1), fun σ' H' p' => ⟨xs.length - (i + 1), by omega, rfl, hlt, p'⟩, fun x H' y => ?_⟩
    obtain ⟨T, x', rfl, hT, rfl, y⟩ := y
    exact hs i x' σ H T (y xs q) p hT
  · have e : i = xs.length := by omega
    subst e
    exact .inl ⟨⟨xs, q, Nat.le_refl _⟩, hd σ H p⟩
/-- a comprehension: at turn i the value f i comes out, or none; the heap only grows -/
theorem lc_genS {J : It} {n : Nat} {g : TG} {tt : TT} {te : TE} {vs : List Nat} {σ : St} {H1 : Hp} {Q : Addr → Hp → Prop} (f : Nat → Option V) (hn : n < sizeLine)
    (hgo : ∀ i H, i < n → Same H1 H → J.go i H) (hstop : ∀ H, Same H1 H → J.stop n H)
    (hs : ∀ (i : Nat) (x : V) (H H' : Hp) (K1 : V → Hp → Prop) (K0 : Hp → Prop), i < n → Same H1 H → J.yld i H x H' → Same H H' ∧ ((∀ H'' y, Same H' H'' → f i = some y → K1 y H'') → (∀ H'', Same H' H'' → f i = none → K0 H'') →
      g x (wipe σ vs) H' fun σ2 H2 => wipe σ2 vs = wipe σ vs ∧ tt σ2 H2 fun b H3 => if b = true then te σ2 H3 K1 else K0 H3))
    (hd : ∀ D H', Same H1 H' → H1 D = none → H' D = some (.lst ((List.range n).filterMap f)) → Q D H') :
    ∀ D, H1 D = none → ∃ W : Nat → Nat → Hp → Prop, (∃ m, W 0 m (upd H1 D (.lst []))) ∧ ∀ i m H, W i m H →
      (J.stop i H ∧ Q D H) ∨ (J.go i H ∧ ∃ Nx : Hp → Prop, (∀ H', Nx H' → ∃ m', m' < m ∧ W (i + 1) m' H') ∧ ∀ x H', J.yld i H x H' → g x (wipe σ vs) H' fun σ2 H2 => wipe σ2 vs = wipe σ vs ∧ tt σ2 H2 fun b H3 =>
        if b = true then te σ2 H3 fun y H4 => ∃ acc, H4 D = some (.lst acc) ∧ acc.length < sizeLine ∧ Nx (upd H4 D (.lst (acc ++ [y]))) else Nx H3) := by
  intro D hD
  refine ⟨fun i m H => m = n - i ∧ i ≤ n ∧ Same H1 H ∧ H D = some (.lst ((List.range i).filterMap f)), ⟨n, by simp, Nat.zero_le _, same_new hD _, upd_same⟩, ?_⟩
  rintro i m H ⟨rfl, hi, sm, hDl⟩
  by_cases hlt : i < n
  · refine .inr ⟨hgo i H hlt sm, fun H' => i + 1 ≤ n ∧ Same H1 H' ∧ H' D = some (.lst ((List.range (i + 1)).filterMap f)), fun H' p => ⟨n - (i + 1), by omega, rfl, p.1, p.2.1, p.2.2⟩, fun x H' y => ?_⟩
    obtain ⟨s1, h2⟩ := hs i x H H' (fun y H4 => ∃ acc, H4 D = some (.lst acc) ∧ acc.length < sizeLine ∧ (fun H' => i + 1 ≤ n ∧ Same H1 H' ∧ H' D = some (.lst ((List.range (i + 1)).filterMap f))) (upd H4 D (.lst (acc ++ [y])))) (fun H' => i + 1 ≤ n ∧ Same H1 H' ∧ H' D = some (.lst ((List.range (i + 1)).filterMap f))) hlt sm y
    have len : ((List.range i).filterMap f).length ≤ i := by
      have := List.length_filterMap_le f (List.range i)
      rwa [List.length_range] at this
    have e1 : (List.range (i + 1)).filterMap f = (List.range i).filterMap f ++ (f i).toList := by
      rw [List.range_succ, List.filterMap_append]
      cases e : f i <;> simp [List.filterMap_cons, e]
    refine h2 (fun H'' y' s2 ey => ?_) fun H'' s2 en => ?_
    · refine ⟨_, s2 _ _ (s1 _ _ hDl), Nat.lt_of_le_of_lt (Nat.le_trans len (Nat.le_of_lt hlt)) hn, hlt, fun b o e => ?_, ?_⟩
      · rw [upd_ne (ne_of_none e hD)]
        exact s2 _ _ (s1 _ _ (sm _ _ e))
      · rw [upd_same, e1, ey]; rfl
    · refine ⟨hlt, (sm.trans s1).trans s2, ?_⟩
      rw [e1, en]
      simpa using s2 _ _ (s1 _ _ hDl)
  · have e : i = n := by omega
    subst e
    exact .inl ⟨hstop H sm, hd D H sm hD hDl⟩
theorem lc_gen {J : It} {n : Nat} {g : TG} {tt : TT} {te : TE} {vs : List Nat} {σ : St} {H1 : Hp} {Q : Addr → Hp → Prop} (f : Nat → Option V) (hn : n ≤ 1000)
    (hgo : ∀ i H, i < n → Same H1 H → J.go i H) (hstop : ∀ H, Same H1 H → J.stop n H)
    (hs : ∀ (i : Nat) (x : V) (H H' : Hp) (K1 : V → Hp → Prop) (K0 : Hp → Prop), i < n → Same H1 H → J.yld i H x H' → Same H H' ∧ ((∀ H'' y, Same H' H'' → f i = some y → K1 y H'') → (∀ H'', Same H' H'' → f i = none → K0 H'') →
      g x (wipe σ vs) H' fun σ2 H2 => wipe σ2 vs = wipe σ vs ∧ tt σ2 H2 fun b H3 => if b = true then te σ2 H3 K1 else K0 H3))
    (hd : ∀ D H', Same H1 H' → H1 D = none → H' D = some (.lst ((List.range n).filterMap f)) → Q D H') :
    ∀ D, H1 D = none → ∃ W : Nat → Nat → Hp → Prop, (∃ m, W 0 m (upd H1 D (.lst []))) ∧ ∀ i m H, W i m H →
      (J.stop i H ∧ Q D H) ∨ (J.go i H ∧ ∃ Nx : Hp → Prop, (∀ H', Nx H' → ∃ m', m' < m ∧ W (i + 1) m' H') ∧ ∀ x H', J.yld i H x H' → g x (wipe σ vs) H' fun σ2 H2 => wipe σ2 vs = wipe σ vs ∧ tt σ2 H2 fun b H3 =>
        if b = true then te σ2 H3 fun y H4 => ∃ acc, H4 D = some (.lst acc) ∧ acc.length < sizeLine ∧ Nx (upd H4 D (.lst (acc ++ [y]))) else Nx H3) :=
  lc_genS f (small1000 hn) hgo hstop hs hd
/-! ### membership among numbers -/
theorem inV_nats (k : Nat) : ∀ l : List Nat, inV (vn k) (l.map vn) = decide (k ∈ l)
  | [] => rfl
  | x :: r => by
    have ih := inV_nats k r
    unfold inV at ih ⊢
    rw [List.map_cons, List.any_cons, ih]
    show ((x : Int) == (k : Int) || decide (k ∈ r)) = decide (k ∈ x :: r)
    rw [Bool.eq_iff_iff, Bool.or_eq_true, decide_eq_true_eq, decide_eq_true_eq, List.mem_cons, beq_iff_eq]
    constructor
    · rintro (h | h)
      · exact .inl (by omega)
      · exact .inr h
    · rintro (h | h)
      · exact .inl (by omega)
      · exact .inr h
theorem countP_nats (k : Nat) : ∀ l : List Nat, (l.map vn).countP (fun z => eqV z (vn k)) = l.count k
  | [] => rfl
  | x :: r => by
    rw [List.map_cons, List.countP_cons, countP_nats k r, List.count_cons]
    have : eqV (vn x) (vn k) = (x == k) := by
      show ((x : Int) == (k : Int)) = (x == k)
      rw [Bool.eq_iff_iff, beq_iff_eq, beq_iff_eq]; omega
    rw [this]
theorem map_range {α β : Type} (l : List α) (f : α → β) (d : α) : (List.range l.length).map (fun i => f (l.getD i d)) = l.map f := by
  apply List.ext_getElem?
  intro i
  rw [List.getElem?_map, List.getElem?_map]
  by_cases h : i < l.length
  · rw [List.getElem?_range h, List.getElem?_eq_getElem h, Option.map_some, Option.map_some, List.getD_eq_getElem?_getD, List.getElem?_eq_getElem h]; rfl
  · rw [List.getElem?_eq_none (by simpa using h), List.getElem?_eq_none (by omega)]; rfl
theorem range_some {β : Type} (n : Nat) (g : Nat → β) : (List.range n).filterMap (fun i => some (g i)) = (List.range n).map g := by
  rw [show (fun i => some (g i)) = some ∘ g from rfl, List.filterMap_eq_map]
end L2
namespace L2
open PySem PySem.Spec PyProof.Rows
/-! ### within a comprehension's block: the written part named -/
section
variable {X : Cx} {K : PySem.W.Frag}
theorem pg_tupK {es : List Expr} {k : Nat} {pos : Pos} {t : TGs} {n : Nat} (hK : X.K = K) (hc : X.calm = true) (h : PGs X es t)
    (hn : (assignEach es X.env).length = n := by rfl) (hst : (assignEach es X.env).findIdx? (·.1) = none := by rfl) : PG X (.Tuple es k pos) (gTup K n t) := hK ▸ pg_tup hc h hn hst
theorem ix_listK (hK : X.K = K) : IxR X (rIxL K) := hK ▸ ix_list
theorem ix_tupK (hK : X.K = K) : IxR X (rIxT K) := hK ▸ ix_tup
theorem sl_listK (hK : X.K = K) : SlR X (rSlL K) := hK ▸ sl_list
end
end L2

end

section
set_option linter.all false
set_option maxRecDepth 100000
namespace L2
open PySem PySem.Spec PyProof.Rows
section
variable {prog : Program} {w : World} {A : Around} {E : Value → Shared → Prop} {s : Shared}
theorem nextOf_tuple_item {it t : Addr} {i : Nat} {items : Array Value} {x : Value} {Q : Value → Shared → Prop} (hit : s.heap.IsTupleIter it t i)
    (ht : s.heap.IsTuple t items) (hx : items[i]? = some x)
    (hQ : ∀ h', h'.IsTupleIter it t (i + 1) → Heap.SameBut it s.heap h' → Q x { s with heap := h' }) :
    wpAny (model prog w) A (Builtin.SmallTypes.nextOf (.ref it)) Q E s := by
  obtain ⟨o, ho, hc, hd⟩ := id hit
  obtain ⟨ol, hol, _, nl, hdl⟩ := ht
  unfold Builtin.SmallTypes.nextOf
  refine wpAny_bind (wpAny_callSpecial?_slot (name := Str.ofString "__next__") hit.typeIs F.slot_tuple_iterator_next
    (wpAny_call_entry F.slot_tuple_iterator_next hit.typeIs F.entry_tuple_iterator_next ?_ (F.args_tuple_iterator_next_1 _)))
  show wpAny _ _ (field (.ref it) 0 >>= _) _ _ s
  refine wpAny_bind (wpAny_field ho hd (x := .ref t) rfl ?_)
  show wpAny _ _ (if (Value.ref t == Value.none) = true then _ else _) _ _ s
  rw [if_neg (show ¬ ((Value.ref t == Value.none) = true) from Bool.false_ne_true)]
  show wpAny _ _ (field (.ref it) 1 >>= _) _ _ s
  refine wpAny_bind (wpAny_field ho hd (x := .int i 0) rfl ?_)
  show wpAny _ _ (seqItems? (.ref t) >>= _) _ _ s
  refine wpAny_bind (wpAny_seqItems hol hdl ?_)
  simp only [Int.toNat_natCast, hx]
  refine wpAny_bind (wpAny_setField ho hd (by simp) (wpAny_pure ⟨x, rfl, wpAny_pure (hQ _ ?_ (Heap.SameBut.update ..))⟩))
  exact ⟨_, Heap.get?_update_self _ ho (Obj.isFreed_of_fields (Obj.data_mapFields hd _)), (Obj.cls_mapFields ..).trans hc, by
    rw [Obj.data_mapFields hd]; simp [rawInt]⟩
theorem nextOf_tuple_end {it t : Addr} {i : Nat} {items : Array Value} {Q : Value → Shared → Prop} (hh : A.handled = none)
    (hit : s.heap.IsTupleIter it t i) (ht : s.heap.IsTuple t items) (hx : items[i]? = none)
    (hE : ∀ h' e, Heap.ExtBut it s.heap h' → (∃ o, h'.get? e = some o ∧ o.cls = .type "StopIteration") → E (.ref e) { s with heap := h' }) :
    wpAny (model prog w) A (Builtin.SmallTypes.nextOf (.ref it)) Q E s := by
  obtain ⟨o, ho, hc, hd⟩ := id hit
  obtain ⟨ol, hol, _, nl, hdl⟩ := ht
  unfold Builtin.SmallTypes.nextOf
  refine wpAny_bind (wpAny_callSpecial?_slot (name := Str.ofString "__next__") hit.typeIs F.slot_tuple_iterator_next
    (wpAny_call_entry F.slot_tuple_iterator_next hit.typeIs F.entry_tuple_iterator_next ?_ (F.args_tuple_iterator_next_1 _)))
  show wpAny _ _ (field (.ref it) 0 >>= _) _ _ s
  refine wpAny_bind (wpAny_field ho hd (x := .ref t) rfl ?_)
  show wpAny _ _ (if (Value.ref t == Value.none) = true then _ else _) _ _ s
  rw [if_neg (show ¬ ((Value.ref t == Value.none) = true) from Bool.false_ne_true)]
  show wpAny _ _ (field (.ref it) 1 >>= _) _ _ s
  refine wpAny_bind (wpAny_field ho hd (x := .int i 0) rfl ?_)
  show wpAny _ _ (seqItems? (.ref t) >>= _) _ _ s
  refine wpAny_bind (wpAny_seqItems hol hdl ?_)
  simp only [Int.toNat_natCast, hx]
  refine wpAny_bind (wpAny_rule (wpAny_bind (wpAny_setField ho hd (by simp) ?_)))
  show wpAny _ _ (newExc (.type "StopIteration") [] >>= _) _ _ _
  refine wpAny_bind ?_
  simp only [newExc, newTuple]
  refine wpAny_bind (wpAny_newObj_type ?_ (by size_fits))
  refine wpAny_bind (m := firstArgMember _ _) (wpAny_of_eq (a := Value.none) (by first | rfl | (simp only [firstArgMember]; rfl)) ?_)
  refine wpAny_newObj_type ?_ (by size_fits)
  simp only [raiseNew]
  refine wpAny_bind (wpAny_handled ?_)
  first | rw [show A.in1.handled = none from hh] | rw [hh]
  refine wpAny_bind (wpAny_pure (wpAny_throw ?_))
  exact hE _ _ (((Heap.SameBut.update ..).extBut.push _).push _) ⟨_, Heap.get?_push_size _ rfl, rfl⟩
end
theorem drawsT {prog : Program} {w : World} {A : Around} (hh : A.handled = none) (it t : Addr) (hne : t ≠ it) (items : Array Value) :
    Draws prog w A it [it, t] items.size (fun i v => items[i]? = some v) (fun i h => h.IsTupleIter it t i ∧ h.IsTuple t items) where
  live := fun _ _ st => let ⟨o, ho, _⟩ := st.1; ⟨o, ho⟩
  frame := fun _ _ _ st hk => ⟨st.1.at fun o e => hk it (by simp) o e, let ⟨o, ho, r⟩ := st.2; ⟨o, hk t (by simp) o ho, r⟩⟩
  item := fun i s Q E hi st hQ => by
    refine nextOf_tuple_item st.1 st.2 (x := items[i]) (by simp [hi]) fun h' hit' hs' => ?_
    exact hQ _ h' s.toks (by simp [hi]) ⟨hit', let ⟨o, ho, r⟩ := st.2; ⟨o, hs'.extBut t o hne ho, r⟩⟩ hs'
  done := fun s Q E st hE => nextOf_tuple_end hh st.1 st.2 (by simp) hE
theorem turn_enumT {P : Program} {w : World} {K : PySem.W.Frag} {elts : List Expr} {kk : Nat} {tpos : Pos} (a e it : Addr) :
    Turn P w K (.Tuple elts kk tpos) (IteT K a) [e, it] e (fun i h => (∃ old, IsEnum h e it ((i : Nat) : Int) old) ∧ h.IsTupleIter it a i ∧ e ≠ it ∧ a ≠ it ∧ a ≠ e) where
  mem := by simp
  obj := fun i h st b hb => by
    obtain ⟨⟨old, he⟩, ⟨o, ho, hc, hd⟩, _⟩ := st
    have e' : b = e ∨ b = it := by simpa using hb
    rcases e' with z | z
    · rw [z]; exact ⟨_, he, fun v q => nomatch q⟩
    · rw [z]; exact ⟨o, ho, fun v q => by rw [hd] at q; cases q⟩
  keep := fun i h h' st k => let ⟨⟨old, he⟩, hi, hne⟩ := st; ⟨⟨old, k e (by simp) _ he⟩, hi.at fun o q => k it (by simp) o q, hne⟩
  item := by
    intro X hP hw hK hc i pins s σ H E I hf st hg
    subst hP hw hK
    obtain ⟨⟨old, he⟩, hit, hne, hai, hae⟩ := st
    obtain ⟨xs, x, hq, hx⟩ := hg
    obtain ⟨its, rv, p, hz⟩ := I.tuple hq
    have p' : s.heap.IsTuple a its.toArray := p
    have hel : e < s.heap.objs.size := Heap.lt_size he
    have hil : it < s.heap.objs.size := by obtain ⟨_, q, _⟩ := hit; exact Heap.lt_size q
    have hlt : i < its.toArray.size := by
      have := (List.getElem?_eq_some_iff.mp hx).1
      have hl := rv.length
      simp; omega
    refine wpAny_pyNext_enum_itemD (drawsT (A := X.A.in1) (by exact I.ok.hd hc) it a hai its.toArray) he ⟨hit, p'⟩ hlt hne (by simp; exact ⟨hne, fun z => hae z.symm⟩) fun u h' tk hu ho hst' hT hsz hk => ?_
    obtain ⟨u', hu', ru⟩ := rv.get hx
    have eu : u = u' := by
      have : its[i]? = some u := by simpa using hu
      rw [hu'] at this; exact (Option.some.inj this).symm
    subst eu
    refine ⟨_, rfl, wpAny_letOwnedTupleGo_enum (s := { s with heap := h', toks := tk + 1 }) ho fun h'' he' sb => ?_⟩
    have hT2 : h''.get? s.heap.objs.size = some { cls := .type "tuple", data := .seq #[.int i tk, u] } := (sb.2 _ (Nat.ne_of_gt hel)).trans hT
    have new : ObjOk X.prog X.w (upd H s.heap.objs.size (.tup [.int (i : Nat), x])) h'' s.heap.objs.size (.tup [.int (i : Nat), x]) :=
      ⟨by show 2 ≤ sizeLine; decide, [.int i tk, u], .cons ⟨_, rfl⟩ (.cons ru .nil), ⟨_, hT2, rfl, _, rfl⟩⟩
    have I1 : Inv X pins σ (upd H s.heap.objs.size (.tup [.int (i : Nat), x])) { s with heap := h'', toks := tk + 1 } :=
      I.turnedNew (ch := [e, it]) (fun b ob hb q => (sb.2 b (fun z => hb (by simp [z]))).trans (hk b ob (fun z => hb (by simp [z])) (fun z => hb (by simp [z])) q)) hf (Nat.le_refl _) new
    refine ⟨.ref s.heap.objs.size, _, I1, rfl, ⟨_, x, rfl, I.hok.fresh (Nat.le_refl _), rfl, fun ys hy => ?_⟩, ⟨⟨u, ?_⟩, hst'.1.at fun o q => (sb.2 it (Ne.symm hne)).trans q, hne, hai, hae⟩, fun b hb => ?_⟩
    · obtain ⟨its2, rv2, p2, _⟩ := I.tuple hy
      have ei : its2 = its := by
        obtain ⟨o1, e1, _, n1, d1⟩ := p
        obtain ⟨o2, e2, _, n2, d2⟩ := p2
        rw [e1] at e2; cases e2; rw [d1] at d2; cases d2; rfl
      subst ei
      rw [Vals.inj rv2 rv]; exact hx
    · have e1 : ((i + 1 : Nat) : Int) = (i : Int) + 1 := by omega
      rw [e1]; exact he'
    · have hb' : b < s.heap.objs.size := by
        have e' : b = e ∨ b = it := by simpa using hb
        rcases e' with z | z
        · rw [z]; exact hel
        · rw [z]; exact hil
      rw [upd_ne (Nat.ne_of_lt hb')]
      exact (hf b hb).1
  done := by
    intro X hP hw hK hc i pins s σ H E I hf st hg
    subst hP hw hK
    obtain ⟨⟨old, he⟩, hit, hne, hai, hae⟩ := st
    obtain ⟨xs, hq, hx⟩ := hg
    obtain ⟨its, rv, p, hz⟩ := I.tuple hq
    have p' : s.heap.IsTuple a its.toArray := p
    obtain ⟨f0, f1, f2, f3, f4, f5⟩ := hf it (by simp)
    have hl := rv.length
    have none_at : its.toArray[i]? = none := by simp; omega
    have hT : s.TypeIs (.ref e) "enumerate" := ⟨_, he, rfl⟩
    unfold pyNext
    refine wpAny_bind (wpAny_attempt (wpAny_callSpecial?_slot (name := Str.ofString "__next__") hT F.slot_enumerate_next
      (wpAny_call_entry F.slot_enumerate_next hT F.entry_enumerate_next ?_ (F.args_enumerate_next_1 _))))
    show wpAny _ _ (field (.ref e) 2 >>= _) _ _ _
    refine wpAny_bind (wpAny_field he rfl (x := .ref it) rfl ?_)
    refine wpAny_bind (nextOf_tuple_end (by exact I.ok.hd hc) hit p' none_at fun h' x he' hx' => ?_)
    obtain ⟨o, ho, hcc⟩ := hx'
    refine wpAny_bind (wpAny_isInstance (T := "StopIteration") (b := true) ⟨o, ho, hcc⟩ isSubtype_stop ?_)
    exact wpAny_pure ⟨rfl, I.turned (t' := s.toks) (fun b o hb q => he' b o hb q) f0 f1 f3 f4 f5⟩
  self := fun A i s Q E st h => let ⟨⟨_, he⟩, _⟩ := st; wpAny_pyIter_enum he h
end L2

end

section
set_option linter.all false
set_option maxRecDepth 100000
namespace L2
open PySem PySem.Spec PyProof.Rows
open AutoSeq1 (wpAny_loadPart')
theorem meets_enumerate_newT (l : Addr) (items : Array Value) (n : Nat) (dct : Option Addr) (sl : Array (Option Value)) :
    Meets (Builtin.«enumerate.__new__» ⟨[.type "enumerate", .ref l], []⟩) (fun _ R s => s.heap.get? l = some { cls := .type "tuple", dict := dct, data := .seq items n, slots := sl } ∧
      R (.ok (.ret (.ref (s.heap.push { cls := .type "tuple_iterator", data := .fields #[.ref l, .int 0 0] }).objs.size)))
        { s with heap := (s.heap.push { cls := .type "tuple_iterator", data := .fields #[.ref l, .int 0 0] }).push { cls := .type "enumerate", data := .fields #[.none, .bool false, .ref s.heap.objs.size, rawInt 0, .none, .none] } }) :=
  .of_wp fun prog w A R s h => by
    obtain ⟨hp, g, d, tk, os⟩ := s; obtain ⟨hl, h⟩ := h
    have hsub := sub_enumerate
    have hL : Heap.IsTuple (Shared.heap ⟨hp, g, d, tk, os⟩) l items := ⟨_, hl, rfl, n, rfl⟩
    wp_walk using wpAny_loadPart' hl
    refine wpAny_stack_any fun st => wpAny_pure ?_
    split
    · rename_i c _ _ _ _ _
      cases (c == Value.type "enumerate")
      · wp_walk using wpAny_loadPart' hl, wpAny_pyIter_tuple hL
        exact ⟨_, rfl, h⟩
      · wp_walk using wpAny_loadPart' hl, wpAny_pyIter_tuple hL
        exact ⟨_, rfl, h⟩
    · wp_walk using wpAny_loadPart' hl, wpAny_pyIter_tuple hL
      exact ⟨_, rfl, h⟩
theorem call_enumerate_tuple {prog : Program} {w : World} {A : Around} {E : Value → Shared → Prop} {s : Shared} {l : Addr} {items : Array Value} {Q : Value → Shared → Prop} (hL : s.heap.IsTuple l items)
    (h : ∀ h', IsEnum h' (s.heap.objs.size + 1) s.heap.objs.size 0 .none → h'.IsTupleIter s.heap.objs.size l 0 → h'.objs.size = s.heap.objs.size + 2 →
      (∀ b o, s.heap.get? b = some o → h'.get? b = some o) → Q (.ref (s.heap.objs.size + 1)) { s with heap := h' }) :
    wpAny (model prog w) A (call (.type "enumerate") [.ref l]) Q E s := by
  obtain ⟨⟨c, dct, dt, sl⟩, hl, hc, n, hd⟩ := hL
  replace hc : c = .type "tuple" := hc
  replace hd : dt = .seq items n := hd
  subst hc hd
  refine callType_new F.called_enumerate (by decide) (F.typeCall_enumerate_1 _) (F.newCall_enumerate_1 _) (fun obj => F.args_object_init_2 obj _) F.entry_enumerate_new
    (meets_enumerate_newT l items n dct sl) ⟨hl, ?_⟩
  have hz : (s.heap.push { cls := .type "tuple_iterator", data := .fields #[.ref l, .int 0 0] }).objs.size = s.heap.objs.size + 1 := Heap.size_push ..
  show _ ∧ _
  rw [hz]
  have he : IsEnum ((s.heap.push { cls := .type "tuple_iterator", data := .fields #[.ref l, .int 0 0] }).push
      { cls := .type "enumerate", data := .fields #[.none, .bool false, .ref s.heap.objs.size, rawInt 0, .none, .none] }) (s.heap.objs.size + 1) s.heap.objs.size 0 .none := by
    have := Heap.get?_push_size (s.heap.push { cls := .type "tuple_iterator", data := .fields #[.ref l, .int 0 0] })
      (o := { cls := .type "enumerate", data := .fields #[.none, .bool false, .ref s.heap.objs.size, rawInt 0, .none, .none] }) rfl
    rw [hz] at this; exact this
  refine ⟨⟨_, he, rfl⟩, h _ he ⟨_, Heap.get?_push_of_some _ (Heap.get?_push_size _ rfl), rfl, rfl⟩ (by rw [Heap.size_push, hz]) fun b o x => Heap.get?_push_of_some _ (Heap.get?_push_of_some _ x)⟩
def iEnumT (K : PySem.W.Frag) (ta : TA) : TI := fun σ H R => ta σ H fun vs H1 => ∃ a xs, vs = [.ref a] ∧ SqT K H1 a xs ∧ R (IteT K a) H1
theorem pi_enumT {X : Cx} {e : Expr} {ta : TA} {p pos tpos : Pos} {elts : List Expr} {kk : Nat} (hg : Gl X "enumerate") (hm : X.mg "enumerate" = none) (ha : PA X [e] ta) (hs : starEach [e] X.env = [(false, eval e X.env)] := by rfl) :
    PI X (.Tuple elts kk tpos) (.Call (.Name "enumerate" p) [e] [] pos) (iEnumT X.K ta) := by
  intro pins s σ H R I h
  refine Call_ (ld_blt I hg hm boot_enumerate (PyProof.Rows.callWith_type1 (thn (ha pos pins s σ H _ I h) fun us s1 ⟨vs, H1, I1, r1, q1⟩ => ?_) hs rfl))
  obtain ⟨a, xs, ex, hq, q⟩ := q1
  subst ex
  cases r1 with
  | cons r rr =>
    cases rr
    cases r
    obtain ⟨its, rv, p', hz⟩ := I1.tuple hq
    have hlt : a < s1.heap.objs.size := by obtain ⟨_, e, _⟩ := p'; exact Heap.lt_size e
    refine call_enumerate_tuple (show s1.heap.IsTuple a its.toArray from p') fun h' he hit hsz hk => wpAny_pyIter_enum he ?_
    have I2 : Inv X pins σ H1 { s1 with heap := h' } := I1.kept (t' := s1.toks) hk
    refine ⟨s1.heap.objs.size + 1, [s1.heap.objs.size + 1, s1.heap.objs.size], _, _, H1, rfl, I2, turn_enumT a (s1.heap.objs.size + 1) s1.heap.objs.size, ⟨⟨.none, he⟩, hit, Nat.succ_ne_self _, Nat.ne_of_lt hlt, Nat.ne_of_lt (Nat.lt_succ_of_lt hlt)⟩, fun b hb => ?_, q⟩
    have e' : b = s1.heap.objs.size + 1 ∨ b = s1.heap.objs.size := by simpa using hb
    have hle : s1.heap.objs.size ≤ b := by
      rcases e' with z | z
      · rw [z]; exact Nat.le_add_right _ _
      · rw [z]; exact Nat.le_refl _
    exact I1.fpOk hle (I1.hok.fresh hle)
end L2

end

section
set_option linter.all false
set_option maxRecDepth 100000
namespace Km
open PySem PySem.Spec PyProof.Rows L2
/-! ### the tables -/
def pieceNames : List Str := ["", "P", "L", "N", "S", "G", "B", "R", "K", "+P", "+L", "+N", "+S", "", "+B", "+R", "", "p", "l", "n", "s", "g", "b", "r", "k", "+p", "+l", "+n", "+s", "", "+b", "+r"]
abbrev Step := Int × Int
def nearTab : List (Int × List Step) := [(1, [(1, 0)]), (3, [(2, -1), (2, 1)]), (4, [(1, -1), (1, 0), (1, 1), (-1, -1), (-1, 1)]), (5, [(1, -1), (1, 0), (1, 1), (0, -1), (0, 1), (-1, 0)]),
  (8, [(1, -1), (1, 0), (1, 1), (0, -1), (0, 1), (-1, -1), (-1, 0), (-1, 1)]), (14, [(1, 0), (0, -1), (0, 1), (-1, 0)]), (15, [(1, -1), (1, 1), (-1, -1), (-1, 1)])]
def farTab : List (Int × List Step) := [(2, [(1, 0)]), (6, [(1, -1), (1, 1), (-1, -1), (-1, 1)]), (7, [(1, 0), (0, -1), (0, 1), (-1, 0)]), (14, [(1, -1), (1, 1), (-1, -1), (-1, 1)]), (15, [(1, 0), (0, -1), (0, 1), (-1, 0)])]
/-- a tuple of steps, each a pair of ints -/
def StepsT (K : PySem.W.Frag) (H : Hp) (a : Addr) (l : List Step) : Prop := ∃ ps : List Addr, SqT K H a (ps.map V.ref) ∧ Paired (fun (p : Addr) (d : Step) => SqT K H p [.int d.1, .int d.2]) ps l
/-- a dict of the module's own: at each number a tuple of steps -/
def StepDict (K : PySem.W.Frag) (a : Addr) (tab : List (Int × List Step)) : Prop := ∃ as : List Addr, DKr K a ((tab.map (·.1)).zip (as.map V.ref)) ∧ Paired (fun (b : Addr) (x : Int × List Step) => ∀ H, StepsT K H b x.2) as tab

def top (i : Nat) : Stmt := PySem.Challenge.pw_komadai_s02_sg_text.main.body.getD i (.Pass ⟨0, 0, 0, 0⟩)
abbrev st_is_piece : Stmt := top 12
abbrev N_is_piece : List Str := ["number"]
abbrev P_is_piece : List Str := ["number"]
theorem sc_is_piece : FnScope N_is_piece P_is_piece (defScope st_is_piece) := ⟨rfl, rfl, rfl, by decide +kernel, rfl, by decide +kernel, by decide +kernel⟩
abbrev st_side_of : Stmt := top 13
abbrev N_side_of : List Str := ["piece"]
abbrev P_side_of : List Str := ["piece"]
theorem sc_side_of : FnScope N_side_of P_side_of (defScope st_side_of) := ⟨rfl, rfl, rfl, by decide +kernel, rfl, by decide +kernel, by decide +kernel⟩
abbrev st_belongs_to : Stmt := top 14
abbrev N_belongs_to : List Str := ["piece", "side"]
abbrev P_belongs_to : List Str := ["piece", "side"]
theorem sc_belongs_to : FnScope N_belongs_to P_belongs_to (defScope st_belongs_to) := ⟨rfl, rfl, rfl, by decide +kernel, rfl, by decide +kernel, by decide +kernel⟩
abbrev st_kind_of : Stmt := top 15
abbrev N_kind_of : List Str := ["piece"]
abbrev P_kind_of : List Str := ["piece"]
theorem sc_kind_of : FnScope N_kind_of P_kind_of (defScope st_kind_of) := ⟨rfl, rfl, rfl, by decide +kernel, rfl, by decide +kernel, by decide +kernel⟩
abbrev st_plain_kind_of : Stmt := top 16
abbrev N_plain_kind_of : List Str := ["piece"]
abbrev P_plain_kind_of : List Str := ["piece"]
theorem sc_plain_kind_of : FnScope N_plain_kind_of P_plain_kind_of (defScope st_plain_kind_of) := ⟨rfl, rfl, rfl, by decide +kernel, rfl, by decide +kernel, by decide +kernel⟩
abbrev st_near_steps : Stmt := top 17
abbrev N_near_steps : List Str := ["kind"]
abbrev P_near_steps : List Str := ["kind"]
theorem sc_near_steps : FnScope N_near_steps P_near_steps (defScope st_near_steps) := ⟨rfl, rfl, rfl, by decide +kernel, rfl, by decide +kernel, by decide +kernel⟩
abbrev st_far_steps : Stmt := top 18
abbrev N_far_steps : List Str := ["kind"]
abbrev P_far_steps : List Str := ["kind"]
theorem sc_far_steps : FnScope N_far_steps P_far_steps (defScope st_far_steps) := ⟨rfl, rfl, rfl, by decide +kernel, rfl, by decide +kernel, by decide +kernel⟩
abbrev st_squares_of : Stmt := top 23
abbrev N_squares_of : List Str := ["position"]
abbrev P_squares_of : List Str := ["position"]
theorem sc_squares_of : FnScope N_squares_of P_squares_of (defScope st_squares_of) := ⟨rfl, rfl, rfl, by decide +kernel, rfl, by decide +kernel, by decide +kernel⟩
abbrev st_hands_of : Stmt := top 24
abbrev N_hands_of : List Str := ["position"]
abbrev P_hands_of : List Str := ["position"]
theorem sc_hands_of : FnScope N_hands_of P_hands_of (defScope st_hands_of) := ⟨rfl, rfl, rfl, by decide +kernel, rfl, by decide +kernel, by decide +kernel⟩
abbrev st_hand_place : Stmt := top 25
abbrev N_hand_place : List Str := ["kind", "side"]
abbrev P_hand_place : List Str := ["kind", "side"]
theorem sc_hand_place : FnScope N_hand_place P_hand_place (defScope st_hand_place) := ⟨rfl, rfl, rfl, by decide +kernel, rfl, by decide +kernel, by decide +kernel⟩
abbrev st_rows_ahead : Stmt := top 27
abbrev N_rows_ahead : List Str := ["square", "side", "row"]
abbrev P_rows_ahead : List Str := ["square", "side"]
theorem sc_rows_ahead : FnScope N_rows_ahead P_rows_ahead (defScope st_rows_ahead) := ⟨rfl, rfl, rfl, by decide +kernel, rfl, by decide +kernel, by decide +kernel⟩
abbrev st_square_after : Stmt := top 28
abbrev N_square_after : List Str := ["square", "step", "side", "ahead", "row", "column"]
abbrev P_square_after : List Str := ["square", "step", "side"]
theorem sc_square_after : FnScope N_square_after P_square_after (defScope st_square_after) := ⟨rfl, rfl, rfl, by decide +kernel, rfl, by decide +kernel, by decide +kernel⟩
abbrev st_squares_along : Stmt := top 29
abbrev N_squares_along : List Str := ["squares", "square", "step", "side", "found", "target"]
abbrev P_squares_along : List Str := ["squares", "square", "step", "side"]
theorem sc_squares_along : FnScope N_squares_along P_squares_along (defScope st_squares_along) := ⟨rfl, rfl, rfl, by decide +kernel, rfl, by decide +kernel, by decide +kernel⟩
abbrev st_in_check : Stmt := top 30
abbrev N_in_check : List Str := ["squares", "side", "king_square"]
abbrev P_in_check : List Str := ["squares", "side"]
theorem sc_in_check : FnScope N_in_check P_in_check (defScope st_in_check) := ⟨rfl, rfl, rfl, by decide +kernel, rfl, by decide +kernel, by decide +kernel⟩
abbrev st_checking_lines : Stmt := top 31
abbrev N_checking_lines : List Str := ["squares", "king_square", "side", "lines", "step", "line"]
abbrev P_checking_lines : List Str := ["squares", "king_square", "side"]
theorem sc_checking_lines : FnScope N_checking_lines P_checking_lines (defScope st_checking_lines) := ⟨rfl, rfl, rfl, by decide +kernel, rfl, by decide +kernel, by decide +kernel⟩
abbrev st_knight_lines : Stmt := top 32
abbrev N_knight_lines : List Str := ["squares", "king_square", "side", "lines", "step", "square"]
abbrev P_knight_lines : List Str := ["squares", "king_square", "side"]
theorem sc_knight_lines : FnScope N_knight_lines P_knight_lines (defScope st_knight_lines) := ⟨rfl, rfl, rfl, by decide +kernel, rfl, by decide +kernel, by decide +kernel⟩
abbrev st_ends_in_threat : Stmt := top 33
abbrev N_ends_in_threat : List Str := ["squares", "line", "step", "side", "kind", "back"]
abbrev P_ends_in_threat : List Str := ["squares", "line", "step", "side"]
theorem sc_ends_in_threat : FnScope N_ends_in_threat P_ends_in_threat (defScope st_ends_in_threat) := ⟨rfl, rfl, rfl, by decide +kernel, rfl, by decide +kernel, by decide +kernel⟩
abbrev st_can_be : Stmt := top 36
abbrev N_can_be : List Str := ["position", "squares", "turn"]
abbrev P_can_be : List Str := ["position"]
theorem sc_can_be : FnScope N_can_be P_can_be (defScope st_can_be) := ⟨rfl, rfl, rfl, by decide +kernel, rfl, by decide +kernel, by decide +kernel⟩
abbrev st_pieces_are_known : Stmt := top 37
abbrev N_pieces_are_known : List Str := ["squares", "piece"]
abbrev P_pieces_are_known : List Str := ["squares"]
theorem sc_pieces_are_known : FnScope N_pieces_are_known P_pieces_are_known (defScope st_pieces_are_known) := ⟨rfl, rfl, rfl, by decide +kernel, rfl, by decide +kernel, by decide +kernel⟩
abbrev st_no_kind_is_too_many : Stmt := top 38
abbrev N_no_kind_is_too_many : List Str := ["squares", "hands", "counts", "piece", "place", "amount", "kind", "most"]
abbrev P_no_kind_is_too_many : List Str := ["squares", "hands"]
theorem sc_no_kind_is_too_many : FnScope N_no_kind_is_too_many P_no_kind_is_too_many (defScope st_no_kind_is_too_many) := ⟨rfl, rfl, rfl, by decide +kernel, rfl, by decide +kernel, by decide +kernel⟩
abbrev st_kings_are_there : Stmt := top 39
abbrev N_kings_are_there : List Str := ["squares"]
abbrev P_kings_are_there : List Str := ["squares"]
theorem sc_kings_are_there : FnScope N_kings_are_there P_kings_are_there (defScope st_kings_are_there) := ⟨rfl, rfl, rfl, by decide +kernel, rfl, by decide +kernel, by decide +kernel⟩
abbrev st_no_column_has_two_pawns : Stmt := top 40
abbrev N_no_column_has_two_pawns : List Str := ["squares", "column", "standing"]
abbrev P_no_column_has_two_pawns : List Str := ["squares"]
theorem sc_no_column_has_two_pawns : FnScope N_no_column_has_two_pawns P_no_column_has_two_pawns (defScope st_no_column_has_two_pawns) := ⟨rfl, rfl, rfl, by decide +kernel, rfl, by decide +kernel, by decide +kernel⟩
abbrev st_no_piece_is_stuck : Stmt := top 41
abbrev N_no_piece_is_stuck : List Str := ["squares", "square", "piece"]
abbrev P_no_piece_is_stuck : List Str := ["squares"]
theorem sc_no_piece_is_stuck : FnScope N_no_piece_is_stuck P_no_piece_is_stuck (defScope st_no_piece_is_stuck) := ⟨rfl, rfl, rfl, by decide +kernel, rfl, by decide +kernel, by decide +kernel⟩
abbrev st_never_moves : Stmt := top 42
abbrev N_never_moves : List Str := ["piece", "square", "rows", "kind"]
abbrev P_never_moves : List Str := ["piece", "square"]
theorem sc_never_moves : FnScope N_never_moves P_never_moves (defScope st_never_moves) := ⟨rfl, rfl, rfl, by decide +kernel, rfl, by decide +kernel, by decide +kernel⟩
abbrev st_codes_of : Stmt := top 44
abbrev N_codes_of : List Str := ["text", "sign"]
abbrev P_codes_of : List Str := ["text"]
theorem sc_codes_of : FnScope N_codes_of P_codes_of (defScope st_codes_of) := ⟨rfl, rfl, rfl, by decide +kernel, rfl, by decide +kernel, by decide +kernel⟩
abbrev st_write_position : Stmt := top 45
abbrev N_write_position : List Str := ["position", "rows", "start", "board", "turn", "hands", "number"]
abbrev P_write_position : List Str := ["position"]
theorem sc_write_position : FnScope N_write_position P_write_position (defScope st_write_position) := ⟨rfl, rfl, rfl, by decide +kernel, rfl, by decide +kernel, by decide +kernel⟩
abbrev st_write_row : Stmt := top 46
abbrev N_write_row : List Str := ["row", "text", "gap", "piece"]
abbrev P_write_row : List Str := ["row"]
theorem sc_write_row : FnScope N_write_row P_write_row (defScope st_write_row) := ⟨rfl, rfl, rfl, by decide +kernel, rfl, by decide +kernel, by decide +kernel⟩
abbrev st_write_gap : Stmt := top 47
abbrev N_write_gap : List Str := ["gap"]
abbrev P_write_gap : List Str := ["gap"]
theorem sc_write_gap : FnScope N_write_gap P_write_gap (defScope st_write_gap) := ⟨rfl, rfl, rfl, by decide +kernel, rfl, by decide +kernel, by decide +kernel⟩
abbrev st_write_hands : Stmt := top 48
abbrev N_write_hands : List Str := ["hands", "text"]
abbrev P_write_hands : List Str := ["hands"]
theorem sc_write_hands : FnScope N_write_hands P_write_hands (defScope st_write_hands) := ⟨rfl, rfl, rfl, by decide +kernel, rfl, by decide +kernel, by decide +kernel⟩
abbrev st_write_hand : Stmt := top 49
abbrev N_write_hand : List Str := ["hands", "side", "text", "kind", "amount"]
abbrev P_write_hand : List Str := ["hands", "side"]
theorem sc_write_hand : FnScope N_write_hand P_write_hand (defScope st_write_hand) := ⟨rfl, rfl, rfl, by decide +kernel, rfl, by decide +kernel, by decide +kernel⟩
abbrev st_sg_text : Stmt := top 52
abbrev N_sg_text : List Str := ["position"]
abbrev P_sg_text : List Str := ["position"]
theorem sc_sg_text : FnScope N_sg_text P_sg_text (defScope st_sg_text) := ⟨rfl, rfl, rfl, by decide +kernel, rfl, by decide +kernel, by decide +kernel⟩
abbrev st_told : Stmt := top 53
abbrev N_told : List Str := ["text"]
abbrev P_told : List Str := ["text"]
theorem sc_told : FnScope N_told P_told (defScope st_told) := ⟨rfl, rfl, rfl, by decide +kernel, rfl, by decide +kernel, by decide +kernel⟩
/-- what stands behind the top -/
structure Txt (K : PySem.W.Frag) (mg : Str → Option Value) : Prop where
  s_is_piece : Src K mg "is_piece" st_is_piece P_is_piece
  s_side_of : Src K mg "side_of" st_side_of P_side_of
  s_belongs_to : Src K mg "belongs_to" st_belongs_to P_belongs_to
  s_kind_of : Src K mg "kind_of" st_kind_of P_kind_of
  s_plain_kind_of : Src K mg "plain_kind_of" st_plain_kind_of P_plain_kind_of
  s_near_steps : Src K mg "near_steps" st_near_steps P_near_steps
  s_far_steps : Src K mg "far_steps" st_far_steps P_far_steps
  s_squares_of : Src K mg "squares_of" st_squares_of P_squares_of
  s_hands_of : Src K mg "hands_of" st_hands_of P_hands_of
  s_hand_place : Src K mg "hand_place" st_hand_place P_hand_place
  s_rows_ahead : Src K mg "rows_ahead" st_rows_ahead P_rows_ahead
  s_square_after : Src K mg "square_after" st_square_after P_square_after
  s_squares_along : Src K mg "squares_along" st_squares_along P_squares_along
  s_in_check : Src K mg "in_check" st_in_check P_in_check
  s_checking_lines : Src K mg "checking_lines" st_checking_lines P_checking_lines
  s_knight_lines : Src K mg "knight_lines" st_knight_lines P_knight_lines
  s_ends_in_threat : Src K mg "ends_in_threat" st_ends_in_threat P_ends_in_threat
  s_can_be : Src K mg "can_be" st_can_be P_can_be
  s_pieces_are_known : Src K mg "pieces_are_known" st_pieces_are_known P_pieces_are_known
  s_no_kind_is_too_many : Src K mg "no_kind_is_too_many" st_no_kind_is_too_many P_no_kind_is_too_many
  s_kings_are_there : Src K mg "kings_are_there" st_kings_are_there P_kings_are_there
  s_no_column_has_two_pawns : Src K mg "no_column_has_two_pawns" st_no_column_has_two_pawns P_no_column_has_two_pawns
  s_no_piece_is_stuck : Src K mg "no_piece_is_stuck" st_no_piece_is_stuck P_no_piece_is_stuck
  s_never_moves : Src K mg "never_moves" st_never_moves P_never_moves
  s_codes_of : Src K mg "codes_of" st_codes_of P_codes_of
  s_write_position : Src K mg "write_position" st_write_position P_write_position
  s_write_row : Src K mg "write_row" st_write_row P_write_row
  s_write_gap : Src K mg "write_gap" st_write_gap P_write_gap
  s_write_hands : Src K mg "write_hands" st_write_hands P_write_hands
  s_write_hand : Src K mg "write_hand" st_write_hand P_write_hand
  s_sg_text : Src K mg "sg_text" st_sg_text P_sg_text
  s_told : Src K mg "told" st_told P_told
  c_PAWN : ∃ t, mg "PAWN" = some (.int (1) t)
  c_LANCE : ∃ t, mg "LANCE" = some (.int (2) t)
  c_KNIGHT : ∃ t, mg "KNIGHT" = some (.int (3) t)
  c_GOLD : ∃ t, mg "GOLD" = some (.int (5) t)
  c_KING : ∃ t, mg "KING" = some (.int (8) t)
  c_SECOND : ∃ t, mg "SECOND" = some (.int (16) t)
  c_CANNOT_BE : ∃ t, mg "CANNOT_BE" = some (.int (-2) t)
  c_HANDS : ∃ t, mg "HANDS" = some (.int (81) t)
  c_TURN : ∃ t, mg "TURN" = some (.int (95) t)
  c_NUMBER : ∃ t, mg "NUMBER" = some (.int (96) t)
  n_len : mg "len" = none
  n_all : mg "all" = none
  n_any : mg "any" = none
  n_enumerate : mg "enumerate" = none
  n_range : mg "range" = none
  n_ord : mg "ord" = none
  n_str : mg "str" = none
  t_PIECE_NAMES : ∃ a, mg "PIECE_NAMES" = some (.ref a) ∧ ∀ H, SqT K H a (pieceNames.map V.str)
  t_LIKE_GOLD : ∃ a, mg "LIKE_GOLD" = some (.ref a) ∧ ∀ H, SqT K H a ([9, 10, 11, 12].map vn)
  t_MOST_OF_KIND : ∃ a, mg "MOST_OF_KIND" = some (.ref a) ∧ ∀ H, SqT K H a ([0, 18, 4, 4, 4, 4, 2, 2].map vn)
  t_HAND_KINDS : ∃ a, mg "HAND_KINDS" = some (.ref a) ∧ ∀ H, SqT K H a ([7, 6, 5, 4, 3, 2, 1].map vn)
  t_NEAR_STEPS : ∃ a, mg "NEAR_STEPS" = some (.ref a) ∧ StepDict K a nearTab
  t_FAR_STEPS : ∃ a, mg "FAR_STEPS" = some (.ref a) ∧ StepDict K a farTab
end Km

end

section
set_option linter.all false
/-! the mathematics of reach, over the specification's own words -/
namespace Km
open Ql32
/-- a board as a position -/
def bp (b : List Nat) : Pos := ⟨b, [], 0, 0⟩
/-- a step that goes on -/
def Dir (d : Int × Int) : Prop := (d.1 = -1 ∨ d.1 = 0 ∨ d.1 = 1) ∧ (d.2 = -1 ∨ d.2 = 0 ∨ d.2 = 1) ∧ ¬ (d.1 = 0 ∧ d.2 = 0)
instance (d : Int × Int) : Decidable (Dir d) := inferInstanceAs (Decidable (_ ∧ _ ∧ _))
/-- how many squares are left that way -/
def phi (side : Nat) (d : Int × Int) (s : Nat) : Nat :=
  if (if side = 0 then d.1 else -d.1) = 1 then 8 - s / 9 else if (if side = 0 then d.1 else -d.1) = -1 then s / 9 else if d.2 = 1 then 8 - s % 9 else s % 9
theorem phi_le {side : Nat} {d : Int × Int} {s : Nat} (h : s < 81) : phi side d s ≤ 8 := by
  unfold phi
  generalize (if side = 0 then d.1 else -d.1) = e
  split
  · omega
  · split
    · omega
    · split <;> omega
theorem to_some {s side t : Nat} {d : Int × Int} (h : to s side d = some t) : ∃ e, (if side = 0 then d.1 else -d.1) = e ∧ (0 ≤ ((s / 9 : Nat) : Int) + e ∧ ((s / 9 : Nat) : Int) + e < 9 ∧ 0 ≤ ((s % 9 : Nat) : Int) + d.2 ∧ ((s % 9 : Nat) : Int) + d.2 < 9) ∧
    t = (((s / 9 : Nat) : Int) + e).toNat * 9 + (((s % 9 : Nat) : Int) + d.2).toNat := by
  refine ⟨_, rfl, ?_⟩
  unfold to at h
  dsimp only at h
  generalize (if side = 0 then d.1 else -d.1) = e at h ⊢
  by_cases hc : 0 ≤ ((s / 9 : Nat) : Int) + e ∧ ((s / 9 : Nat) : Int) + e < 9 ∧ 0 ≤ ((s % 9 : Nat) : Int) + d.2 ∧ ((s % 9 : Nat) : Int) + d.2 < 9
  · rw [if_pos hc] at h; exact ⟨hc, (Option.some.inj h).symm⟩
  · rw [if_neg hc] at h; cases h
theorem to_lt {s side t : Nat} {d : Int × Int} (h : to s side d = some t) : t < 81 := by
  obtain ⟨e, _, hc, rfl⟩ := to_some h
  omega
theorem phi_step {s side t : Nat} {d : Int × Int} (hd : Dir d) (hs : s < 81) (h : to s side d = some t) : phi side d t + 1 = phi side d s := by
  obtain ⟨h1, h2, h3⟩ := hd
  obtain ⟨e, he, hc, rfl⟩ := to_some h
  have h1' : (e = -1 ∨ e = 0 ∨ e = 1) ∧ (e = 0 → d.1 = 0) := by
    rw [← he]
    by_cases hs : side = 0
    · rw [if_pos hs]; omega
    · rw [if_neg hs]; omega
  unfold phi
  rw [he]
  clear he h
  by_cases c1 : e = 1
  · rw [if_pos c1, if_pos c1]; omega
  · rw [if_neg c1, if_neg c1]
    by_cases c2 : e = -1
    · rw [if_pos c2, if_pos c2]; omega
    · rw [if_neg c2, if_neg c2]
      by_cases c3 : d.2 = 1
      · rw [if_pos c3, if_pos c3]; omega
      · rw [if_neg c3, if_neg c3]; omega
theorem along_none {p : Pos} {side k s : Nat} {d : Int × Int} (h : to s side d = none) : along p side d k s = [] := by
  cases k with
  | zero => rfl
  | succ k => unfold along; rw [h]
theorem along_some {p : Pos} {side k s t : Nat} {d : Int × Int} (h : to s side d = some t) : along p side d (k + 1) s = if at_ p t = 0 then t :: along p side d k t else [t] := by
  rw [along, h]
theorem along_mem {p : Pos} {side : Nat} {d : Int × Int} : ∀ {k s t : Nat}, t ∈ along p side d k s → t < 81
  | 0, _, _, h => by simp [along] at h
  | k + 1, s, t, h => by
    unfold along at h
    split at h
    · simp at h
    · rename_i t' e
      split at h
      · rcases List.mem_cons.mp h with rfl | h
        · exact to_lt e
        · exact along_mem h
      · rw [List.mem_singleton.mp h]; exact to_lt e
theorem along_len {p : Pos} {side : Nat} {d : Int × Int} : ∀ (k s : Nat), (along p side d k s).length ≤ k
  | 0, _ => by simp [along]
  | k + 1, s => by
    unfold along
    split
    · simp
    · split
      · simp only [List.length_cons]
        exact Nat.succ_le_succ (along_len k _)
      · simp
end Km

end

section
set_option linter.all false
set_option maxRecDepth 100000
namespace Km
open PySem PySem.Spec PyProof.Rows L2
section
variable {X : Cx}
theorem boot_list' : bootBuiltins "list" = some (.type "list") := by decide +kernel
theorem boot_min' : bootBuiltins "min" = some (.builtin "min") := by decide +kernel
theorem boot_sum' : bootBuiltins "sum" = some (.builtin "sum") := by decide +kernel
theorem boot_sorted' : bootBuiltins "sorted" = some (.builtin "sorted") := by decide +kernel
/-- range(j) as a thing -/
theorem call_range1E : CallR X (.type "range") (fun xs H Q => ∃ j : Int, xs = [.int j] ∧ ∀ p, H p = none → Q (.ref p) (upd H p (.rng 0 j))) := by
  intro pins s σ H xs us Q I r h
  obtain ⟨j, rfl, q⟩ := h
  obtain ⟨u, rfl, t, rfl⟩ := vals1 r
  refine call_range_1 ?_
  exact ⟨.ref s.heap.objs.size, upd H s.heap.objs.size (.rng 0 j), I.laid (a := s.heap.objs.size) (o := .rng 0 j) (fun _ _ q => Heap.get?_push_of_some _ q) (Nat.le_refl _) ⟨_, _, _, Heap.get?_push_size _ rfl⟩, rfl, q _ (I.hok.fresh (Nat.le_refl _))⟩
/-- list(range(n)) -/
theorem call_listR (hc : X.calm = true) : CallR X (.type "list") (fun xs H Q => ∃ (p : Addr) (n : Nat), xs = [.ref p] ∧ H p = some (.rng 0 (n : Int)) ∧ n ≤ 1000 ∧ ∀ l, H l = none → Q (.ref l) (upd H l (.lst ((List.range n).map vn)))) := by
  intro pins s σ H xs us Q I r h
  obtain ⟨p, n, rfl, hp, hn, q⟩ := h
  obtain ⟨u, rfl, ru⟩ := vals1 r
  cases ru
  obtain ⟨t, u, v, hg⟩ := I.hok p _ hp
  refine call_list_range (n := n) (I.ok.hd hc) hg (small_one (by omega) (by omega) (by omega) (by omega)) ?_ (by omega) fun h' tk acc c' kp hl hi => ?_
  · rw [rangeSize_one]; split <;> omega
  · have hv : ∀ (m : Nat) (l : List Value), l.length = m → (∀ (j : Nat) (v : Value), l[j]? = some v → ∃ t : Tok, v = Value.int ((0 : Int) + (j : Int) * 1) t) → Vals ((List.range m).map vn) l := by
      intro m
      induction m with
      | zero => intro l hl _; rw [List.eq_nil_of_length_eq_zero hl]; exact .nil
      | succ m ih =>
        intro l hl hp
        have e : l = l.dropLast ++ [l.getLast (by intro z; rw [z] at hl; simp at hl)] := (List.dropLast_concat_getLast _).symm
        rw [e, List.range_succ, List.map_append]
        refine Vals.append (ih _ (by rw [List.length_dropLast, hl]; rfl) fun j v hj => ?_) (.cons ?_ .nil)
        · refine hp j v ?_
          rw [e, List.getElem?_append_left (List.getElem?_eq_some_iff.mp hj).1]; exact hj
        · obtain ⟨t, ht⟩ := hp m (l.getLast (by intro z; rw [z] at hl; simp at hl)) (by rw [List.getLast_eq_getElem, List.getElem?_eq_some_iff]; exact ⟨by omega, by congr 1; omega⟩)
          rw [ht]
          exact ⟨t, by congr 1; omega⟩
    obtain ⟨h1, h2⟩ := hi
    have hvv := hv n acc.toList (by simpa using h1) (fun j v hj => h2 j v (by simpa using hj))
    exact ⟨.ref _, _, I.laid (t' := tk) (o := .lst ((List.range n).map vn)) kp (Nat.le_refl _) ⟨by rw [List.length_map, List.length_range]; exact small hn, acc.toList, c', hvv, by simpa using hl⟩, rfl, q _ (I.hok.fresh (Nat.le_refl _))⟩
/-- a step among steps -/
def rInS (K : PySem.W.Frag) : R2 := fun x y H Q => ∃ (a p : Addr) (d : Step) (l : List Step), x = .ref a ∧ y = .ref p ∧ SqT K H a [.int d.1, .int d.2] ∧ StepsT K H p l ∧ Q (.bl (decide (d ∈ l))) H
theorem eq_steps {A : Around} {pins : List (Addr × Obj)} {σ : L2.St} {H : Hp} {s : Shared} {b a : Addr} {d d' : Step} (I : Inv X pins σ H s) (hu : A.units < cLine) (hb : SqT X.K H b [.int d'.1, .int d'.2]) (ha : SqT X.K H a [.int d.1, .int d.2]) : SeqAt.EqAt A s (.ref b) (.ref a) (decide (d' = d)) := by
  by_cases hne : b = a
  · subst hne
    have e := I.tuple_inj hb ha
    have : d' = d := by
      injection e with e1 e2
      injection e2 with e2 _
      exact Prod.ext (V.int.inj e1) (V.int.inj e2)
    rw [decide_eq_true this]
    exact SeqAt.EqAt.same _
  · refine SeqAt.EqAt.of_refs hne ?_
    obtain ⟨its, r, t1, _⟩ := I.tuple hb
    obtain ⟨its', r', t2, _⟩ := I.tuple ha
    obtain ⟨u1, u2, rfl, ⟨x1, rfl⟩, ⟨x2, rfl⟩⟩ := vals2 r
    obtain ⟨w1, w2, rfl, ⟨y1, rfl⟩, ⟨y2, rfl⟩⟩ := vals2 r'
    have := SeqAt.RcAt.tuples (A := A) (e := fun j => if j = 0 then d'.1 == d.1 else d'.2 == d.2) t1 t2 hu (fun j h1 h2 => by
      have hj : j < 2 := by simpa using h1
      rcases (show j = 0 ∨ j = 1 by omega) with rfl | rfl
      · exact SeqAt.EqAt.int_int d'.1 x1 d.1 y1
      · exact SeqAt.EqAt.int_int d'.2 x2 d.2 y2)
    have e : decide (d' = d) = ((List.range (min ([Value.int d'.1 x1, Value.int d'.2 x2].toArray).size ([Value.int d.1 y1, Value.int d.2 y2].toArray).size)).all (fun j => if j = 0 then d'.1 == d.1 else d'.2 == d.2) && ([Value.int d'.1 x1, Value.int d'.2 x2].toArray).size == ([Value.int d.1 y1, Value.int d.2 y2].toArray).size) := by
      rw [Bool.eq_iff_iff, decide_eq_true_eq]
      have : List.range (min 2 2) = [0, 1] := rfl
      simp [this, Prod.ext_iff]
      constructor
      · rintro ⟨h1, h2⟩ x hx
        split
        · exact h1
        · exact h2
      · intro h
        exact ⟨by simpa using h 0 (by decide), by simpa using h 1 (by decide)⟩
    rw [e]
    exact this
theorem op_in_steps (hu : X.A.units + 1 < cLine) : OpR X (compareOp .In) (rInS X.K) := by
  intro pins s σ H x y v u Q I rx ry h
  obtain ⟨a, p, d, l, rfl, rfl, ha, ⟨ps, hps, hp⟩, q⟩ := h
  cases rx
  cases ry
  obtain ⟨its, r, pl, hz⟩ := I.tuple hps
  have eits : its = ps.map Value.ref := by
    clear hps pl hz hp q
    induction ps generalizing its with
    | nil => cases r; rfl
    | cons b ps ih =>
      cases r with
      | cons r1 r2 =>
        rw [List.map_cons, ih _ r2]
        exact congrArg (· :: _) r1
  subst eits
  let e : Value → Bool := fun v => @decide (∃ b, v = .ref b ∧ SqT X.K H b [.int d.1, .int d.2]) (Classical.propDecidable _)
  have stp : ∀ (b : Addr) (d' : Step), SqT X.K H b [.int d'.1, .int d'.2] → e (.ref b) = decide (d' = d) := fun b d' hb => by
    rw [Bool.eq_iff_iff]
    simp only [e, decide_eq_true_eq]
    constructor
    · rintro ⟨b', eb, h2⟩
      obtain rfl : b = b' := by injection eb
      have e := I.tuple_inj hb h2
      injection e with e1 e2
      injection e2 with e2 _
      exact Prod.ext (V.int.inj e1) (V.int.inj e2)
    · rintro rfl
      exact ⟨b, rfl, hb⟩
  refine SeqAt.in_tupleAt e pl (fun y hy => ?_) ⟨.bl _, H, I, rfl, ?_⟩
  · obtain ⟨b, hb, rfl⟩ := List.mem_map.mp (show y ∈ ps.map Value.ref by simpa using hy)
    obtain ⟨i, hi, ei⟩ := List.getElem_of_mem hb
    obtain ⟨d', hd', hS⟩ := paired_get hp (List.getElem?_eq_some_iff.mpr ⟨hi, ei⟩)
    rw [stp b d' hS]
    exact eq_steps I (by show X.A.units + 1 < cLine; exact hu) hS ha
  · have : (ps.map Value.ref).toArray.any e = decide (d ∈ l) := by
      have e1 : (ps.map Value.ref).toArray.any e = (ps.map Value.ref).any e := by simp
      rw [e1]
      clear hps pl r hz q e1
      induction hp with
      | nil => simp
      | @cons b d' ps' l' hb ht ih =>
        rw [List.map_cons, List.any_cons, ih, stp b d' hb, Bool.eq_iff_iff]
        simp only [Bool.or_eq_true, decide_eq_true_eq, List.mem_cons]
        exact or_congr eq_comm Iff.rfl
    rw [this]
    exact q
end
end Km

end

section
set_option linter.all false
set_option maxRecDepth 100000
set_option maxHeartbeats 4000000
namespace Km
open PySem PySem.Spec PyProof.Rows L2
section
variable {P : Program} {w : World} {K : PySem.W.Frag} {mg : Str → Option Value} {base : Heap}
theorem dstr (a b : Str) : decide (V.str a = V.str b) = decide (a = b) := decide_eq_decide.mpr ⟨V.str.inj, congrArg _⟩
theorem dint (a b : Int) : decide (V.int a = V.int b) = decide (a = b) := decide_eq_decide.mpr ⟨V.int.inj, congrArg _⟩
theorem names_at {n : Nat} (h : n < 32) : (pieceNames.map V.str)[n]? = some (.str (pieceNames.getD n "")) := by
  have hl : n < pieceNames.length := h
  rw [List.getElem?_map, List.getElem?_eq_getElem hl, List.getD_eq_getElem?_getD, List.getElem?_eq_getElem hl]; rfl
/-! ### pieces -/
def sp_side_of : Sp := fun vs H Q _ => ∃ n : Nat, vs = [vn n] ∧ Q (vn (n / 16)) H
theorem ok_side_of (T : Txt K mg) : Fn P w K mg base "side_of" 1 P_side_of sp_side_of := by
  have nd := sc_side_of.nd
  refine T.s_side_of.ok sc_side_of (fun vs H Q E h => ?_) (fun f cdv A outer s H vs Q E hr h => ?_)
  · obtain ⟨n, rfl, _⟩ := h; rfl
  obtain ⟨n, rfl, q⟩ := h
  refine ⟨_, (pss_one (ps_ret (pe_op op_fdiv (pv 0) (pe_gi T.c_SECOND rfl)))), ?_⟩
  exact ⟨_, rfl, _, _, rfl, rfl, ⟨by decide, by decide⟩, qi q (by omega)⟩
def sp_kind_of : Sp := fun vs H Q _ => ∃ n : Nat, vs = [vn n] ∧ Q (vn (n % 16)) H
theorem ok_kind_of (T : Txt K mg) : Fn P w K mg base "kind_of" 1 P_kind_of sp_kind_of := by
  have nd := sc_kind_of.nd
  refine T.s_kind_of.ok sc_kind_of (fun vs H Q E h => ?_) (fun f cdv A outer s H vs Q E hr h => ?_)
  · obtain ⟨n, rfl, _⟩ := h; rfl
  obtain ⟨n, rfl, q⟩ := h
  refine ⟨_, (pss_one (ps_ret (pe_op op_mod (pv 0) (pe_gi T.c_SECOND rfl)))), ?_⟩
  exact ⟨_, rfl, _, _, rfl, rfl, (by show (0 : Int) < 16; decide), qi q (by omega)⟩
def sp_plain_kind_of : Sp := fun vs H Q _ => ∃ n : Nat, vs = [vn n] ∧ 1 ≤ n ∧ Q (vn ((n - 1) % 8 + 1)) H
theorem ok_plain_kind_of (T : Txt K mg) : Fn P w K mg base "plain_kind_of" 1 P_plain_kind_of sp_plain_kind_of := by
  have nd := sc_plain_kind_of.nd
  refine T.s_plain_kind_of.ok sc_plain_kind_of (fun vs H Q E h => ?_) (fun f cdv A outer s H vs Q E hr h => ?_)
  · obtain ⟨n, rfl, _⟩ := h; rfl
  obtain ⟨n, rfl, h1, q⟩ := h
  refine ⟨_, (pss_one (ps_ret (pe_op op_add (pe_op op_mod (pe_op op_sub (pv 0) pe_int) pe_int) pe_int))), ?_⟩
  exact ⟨_, rfl, _, _, rfl, rfl, _, _, rfl, rfl, (by show (0 : Int) < 8; decide), _, _, rfl, rfl, qi q (by omega)⟩
/-- is it a piece's number -/
def isPc (n : Nat) : Bool := decide (n < 32) && !decide (pieceNames.getD n "" = "")
def sp_is_piece : Sp := fun vs H Q _ => ∃ n : Nat, vs = [vn n] ∧ Q (.bl (isPc n)) H
theorem ok_is_piece (T : Txt K mg) : Fn P w K mg base "is_piece" 1 P_is_piece sp_is_piece := by
  have nd := sc_is_piece.nd
  obtain ⟨aP, hm_PIECE_NAMES, hP⟩ := T.t_PIECE_NAMES
  refine T.s_is_piece.ok sc_is_piece (fun vs H Q E h => ?_) (fun f cdv A outer s H vs Q E hr h => ?_)
  · obtain ⟨n, rfl, _⟩ := h; rfl
  obtain ⟨n, rfl, q⟩ := h
  refine ⟨_, (pss_one (ps_ret (pe_and (pe_cmpR op_lt (pv 0) (pe_callB call_len_seq rfl T.n_len PySem.boot_len (pa_cons (pe_gr hm_PIECE_NAMES rfl) pa_nil)) (nomark _)) (pe_one (pe_cmpR op_ne (pe_ix ix_tup (pe_gr hm_PIECE_NAMES rfl) (pv 0) (fun _ _ => rfl)) pe_str (nomark _)))))), ?_⟩
  refine ⟨_, rfl, aP, _, rfl, .inr (hP H), _, _, rfl, rfl, ?_⟩
  refine ⟨_, rfl, ite2 (fun c => ?_) (fun c => ?_)⟩
  · have c' : (n : Int) < (((pieceNames.map V.str).length : Nat) : Int) := of_decide_eq_true c
    rw [show (pieceNames.map V.str).length = 32 from rfl] at c'
    have hn : n < 32 := by omega
    refine ⟨_, rfl, aP, _, _, _, rfl, rfl, hP H, atI_nat (names_at hn), rfl, qb q ?_⟩
    rw [dstr]; unfold isPc; rw [decide_eq_true hn]; rfl
  · have c' : ¬ (n : Int) < (((pieceNames.map V.str).length : Nat) : Int) := of_decide_eq_false (Bool.eq_false_iff.mpr c)
    rw [show (pieceNames.map V.str).length = 32 from rfl] at c'
    have hn : ¬ n < 32 := by omega
    refine qb q ?_
    unfold isPc; rw [decide_eq_false hn]; rfl
/-! ### steps -/
def tabGet (tab : List (Int × List Step)) (k : Int) : List Step := ((tab.find? fun x => x.1 = k).map (·.2)).getD []
theorem step_get {tab : List (Int × List Step)} {as : List Addr} (h : Paired (fun (b : Addr) (x : Int × List Step) => ∀ H, StepsT K H b x.2) as tab) (k : Int) :
    (∃ b, valI ((tab.map (·.1)).zip (as.map V.ref)) k = some (.ref b) ∧ ∀ H, StepsT K H b (tabGet tab k)) ∨ (valI ((tab.map (·.1)).zip (as.map V.ref)) k = none ∧ tabGet tab k = []) := by
  induction h with
  | nil => exact .inr ⟨rfl, rfl⟩
  | @cons b x as' tab' hb ht ih =>
    by_cases e : x.1 = k
    · refine .inl ⟨b, ?_, fun H => ?_⟩
      · unfold valI; simp [e]
      · unfold tabGet; simpa [e] using hb H
    · have e1 : valI (((x :: tab').map (·.1)).zip ((b :: as').map V.ref)) k = valI ((tab'.map (·.1)).zip (as'.map V.ref)) k := by unfold valI; simp [e]
      have e2 : tabGet (x :: tab') k = tabGet tab' k := by unfold tabGet; simp [e]
      rw [e1, e2]; exact ih
def nearL (k : Nat) : List Step := if 9 ≤ k ∧ k ≤ 12 then tabGet nearTab 5 else tabGet nearTab k
def farL (k : Nat) : List Step := tabGet farTab k
def sp_near_steps (K : PySem.W.Frag) : Sp := fun vs H Q _ => ∃ k : Nat, vs = [vn k] ∧ k < 16 ∧ ∀ (a : Addr) (H' : Hp), Same H H' → StepsT K H' a (nearL k) → Q (.ref a) H'
def sp_far_steps (K : PySem.W.Frag) : Sp := fun vs H Q _ => ∃ k : Nat, vs = [vn k] ∧ k < 16 ∧ ∀ (a : Addr) (H' : Hp), Same H H' → StepsT K H' a (farL k) → Q (.ref a) H'
theorem like_gold {k : Nat} (h : k < 16) : inV (vn k) ([9, 10, 11, 12].map vn) = decide (9 ≤ k ∧ k ≤ 12) := by
  revert k; decide
theorem steps_nil {H : Hp} {p : Addr} (h : H p = some (.tup [])) : StepsT K H p [] := ⟨[], SqT.of h, .nil⟩
theorem ok_near_steps (T : Txt K mg) : Fn P w K mg base "near_steps" 1 P_near_steps (sp_near_steps K) := by
  have nd := sc_near_steps.nd
  obtain ⟨aL, hm_LIKE_GOLD, hL⟩ := T.t_LIKE_GOLD
  obtain ⟨aN, hm_NEAR_STEPS, as, hD, hp⟩ := T.t_NEAR_STEPS
  refine T.s_near_steps.ok sc_near_steps (fun vs H Q E h => ?_) (fun f cdv A outer s H vs Q E hr h => ?_)
  · obtain ⟨n, rfl, _⟩ := h; rfl
  obtain ⟨k, rfl, hk, q⟩ := h
  refine ⟨_, (pss_cons (ps_if (pt_cmpR op_in_seq (pv 0) (pe_gr hm_LIKE_GOLD rfl) rfl) (pss_one (ps_ret (pe_kget (pe_gr hm_NEAR_STEPS rfl) (pe_gi T.c_GOLD rfl) (fun _ _ => rfl)))) pss_nil)
    (pss_one (ps_ret (pe_kget2 (pe_gr hm_NEAR_STEPS rfl) (pv 0) (pe_tup pa_nil) ⟨rfl, rfl, rfl, rfl⟩)))), ?_⟩
  refine ⟨_, rfl, aL, _, rfl, .inr (hL H), rfl, rfl, _, rfl, ite2 (fun c => ?_) (fun c => ?_)⟩
  · have c' : inV (vn k) ([9, 10, 11, 12].map vn) = true := c
    rw [like_gold hk] at c'
    have e : nearL k = tabGet nearTab 5 := by unfold nearL; rw [if_pos (of_decide_eq_true c')]
    rcases step_get hp 5 with ⟨b, hv, hs⟩ | ⟨_, z⟩
    · exact ⟨aN, _, _, _, rfl, rfl, hD, hv, q b H (Same.refl H) (by rw [e]; exact hs H)⟩
    · exact absurd z (by decide)
  · have c' : ¬ inV (vn k) ([9, 10, 11, 12].map vn) = true := c
    rw [like_gold hk] at c'
    have e : nearL k = tabGet nearTab k := by unfold nearL; rw [if_neg fun z => c' (decide_eq_true z)]
    refine ⟨aN, _, rfl, hD, _, rfl, (by show 0 ≤ sizeLine; decide), fun p hp0 => ⟨_, rfl, ?_⟩⟩
    rcases step_get hp (k : Int) with ⟨b, hv, hs⟩ | ⟨hv, z⟩
    · rw [hv]
      exact q b _ (same_new hp0 _) (by rw [e]; exact hs _)
    · rw [hv]
      exact q p _ (same_new hp0 _) (by rw [e, z]; exact steps_nil upd_same)
theorem ok_far_steps (T : Txt K mg) : Fn P w K mg base "far_steps" 1 P_far_steps (sp_far_steps K) := by
  have nd := sc_far_steps.nd
  obtain ⟨aN, hm_FAR_STEPS, as, hD, hp⟩ := T.t_FAR_STEPS
  refine T.s_far_steps.ok sc_far_steps (fun vs H Q E h => ?_) (fun f cdv A outer s H vs Q E hr h => ?_)
  · obtain ⟨n, rfl, _⟩ := h; rfl
  obtain ⟨k, rfl, hk, q⟩ := h
  refine ⟨_, (pss_one (ps_ret (pe_kget2 (pe_gr hm_FAR_STEPS rfl) (pv 0) (pe_tup pa_nil) ⟨rfl, rfl, rfl, rfl⟩))), ?_⟩
  refine ⟨aN, _, rfl, hD, _, rfl, (by show 0 ≤ sizeLine; decide), fun p hp0 => ⟨_, rfl, ?_⟩⟩
  rcases step_get hp (k : Int) with ⟨b, hv, hs⟩ | ⟨hv, z⟩
  · rw [hv]
    exact q b _ (same_new hp0 _) (hs _)
  · rw [hv]
    exact q p _ (same_new hp0 _) (by unfold farL; rw [z]; exact steps_nil upd_same)
/-! ### squares -/
def sp_rows_ahead : Sp := fun vs H Q _ => ∃ s side : Nat, vs = [vn s, vn side] ∧ s < 81 ∧ Q (vn (Ql32.depth side s)) H
theorem ok_rows_ahead (T : Txt K mg) : Fn P w K mg base "rows_ahead" 1 P_rows_ahead sp_rows_ahead := by
  have nd := sc_rows_ahead.nd
  refine T.s_rows_ahead.ok sc_rows_ahead (fun vs H Q E h => ?_) (fun f cdv A outer s H vs Q E hr h => ?_)
  · obtain ⟨n, m, rfl, _⟩ := h; rfl
  obtain ⟨n, side, rfl, hn, q⟩ := h
  refine ⟨_, (pss_cons (ps_set (i := 2) nd rfl (by first | exact Or.inl rfl | exact Or.inr rfl) (pe_op op_fdiv (pv 0) pe_int))
    (pss_one (ps_ret (pe_ifExp (pt_cmpR op_eq (pv 1) pe_int (nomark _)) (pv 2) (pe_op op_sub pe_int (pv 2)))))), ?_⟩
  refine ⟨_, rfl, _, _, rfl, rfl, ⟨by decide, by decide⟩, _, rfl, rfl, _, rfl, ite2 (fun c => ?_) (fun c => ?_)⟩
  · have c' : decide (V.int (side : Int) = V.int 0) = true := c
    rw [dint] at c'
    have c2 : (side : Int) = 0 := of_decide_eq_true c'
    refine ⟨_, rfl, qi q ?_⟩
    unfold Ql32.depth; rw [if_pos (by omega)]; omega
  · have c' : ¬ decide (V.int (side : Int) = V.int 0) = true := c
    rw [dint] at c'
    have c2 : ¬ (side : Int) = 0 := fun z => c' (decide_eq_true z)
    refine ⟨_, rfl, _, _, rfl, rfl, qi q ?_⟩
    unfold Ql32.depth; rw [if_neg (by omega)]; omega
def aft (s side : Nat) (d : Step) : Int := match Ql32.to s side (-d.1, d.2) with
  | some t => (t : Int)
  | none => -1
def sp_square_after (K : PySem.W.Frag) : Sp := fun vs H Q _ => ∃ (s side : Nat) (st : Addr) (d : Step), vs = [vn s, .ref st, vn side] ∧ s < 81 ∧ side < 2 ∧ SqT K H st [.int d.1, .int d.2] ∧ Q (.int (aft s side d)) H
theorem sq_tail {H : Hp} {Q : VK} {n side : Nat} {st : Addr} {d : Step} {a : Int} (hS : SqT K H st [.int d.1, .int d.2])
    (ra : Q (.int (if 0 ≤ ((n : Int) / 9 + a) ∧ ((n : Int) / 9 + a) < 9 ∧ 0 ≤ ((n : Int) % 9 + d.2) ∧ ((n : Int) % 9 + d.2) < 9 then ((n : Int) / 9 + a) * 9 + ((n : Int) % 9 + d.2) else -1)) H) :
    tSeq (tAsg (tOp (rI0 fun i j => V.int (i + j)) (tOp (rI CDiv fun i j => V.int (i / j)) (tVar 0) (tC (V.int 9))) (tVar 3)) (gName 4))
      (tSeq (tAsg (tOp (rI0 fun i j => V.int (i + j)) (tOp (rI (fun x j => 0 < j) fun i j => V.int (i % j)) (tVar 0) (tC (V.int 9))) (tOp (rIxT K) (tVar 1) (tC (V.int 1)))) (gName 5))
        (tSeq (tIfS (tAnd (tTest (tChain (rI0 fun i j => V.bl (decide (i ≤ j))) (rI0 fun i j => V.bl (decide (i < j))) (tC (V.int 0)) (tVar 4) (tC (V.int 9))))
              (tTest (tChain (rI0 fun i j => V.bl (decide (i ≤ j))) (rI0 fun i j => V.bl (decide (i < j))) (tC (V.int 0)) (tVar 5) (tC (V.int 9)))))
            (tRet (tOp (rI0 fun i j => V.int (i + j)) (tOp (rI CMul fun i j => V.int (i * j)) (tVar 4) (tC (V.int 9))) (tVar 5))) tNext)
          (tRet (tUn (rU fun i => V.int (-i)) (tC (V.int 1))))))
      { nx := fun x H' => Q V.non H', rt := Q } ((L2.start N_square_after [vn n, V.ref st, vn side]).set 3 (some (.int a))) H := by
  have no : ∀ {r c : Int}, r = (n : Int) / 9 + a → c = (n : Int) % 9 + d.2 → ¬ (0 ≤ r ∧ r < 9 ∧ 0 ≤ c ∧ c < 9) → Q (.int (-1)) H := fun {r c} er ec z => by
    subst er ec
    rw [if_neg z] at ra
    exact ra
  refine ⟨_, rfl, _, _, rfl, rfl, ⟨by decide, by decide⟩, _, rfl, _, _, rfl, rfl, ?_⟩
  refine ⟨_, rfl, _, _, rfl, rfl, (by show (0 : Int) < 9; decide), _, rfl, st, _, _, _, rfl, rfl, hS, rfl, _, _, rfl, rfl, ?_⟩
  refine ⟨_, rfl, _, _, rfl, rfl, _, rfl, ite2 (fun c1 => ⟨_, _, rfl, rfl, _, rfl, ite2 (fun c2 => ?_) (fun c2 => iteF ⟨_, rfl, ?_⟩)⟩) (fun c1 => ⟨_, rfl, iteF (iteF ⟨_, rfl, ?_⟩)⟩)⟩
  · have c1' := of_decide_eq_true c1
    have c2' := of_decide_eq_true c2
    refine ⟨_, rfl, _, _, rfl, rfl, _, rfl, ite2 (fun c3 => ⟨_, _, rfl, rfl, _, rfl, ite2 (fun c4 => ?_) (fun c4 => ⟨_, rfl, ?_⟩)⟩) (fun c3 => ⟨_, rfl, iteF ⟨_, rfl, ?_⟩⟩)⟩
    · have c3' := of_decide_eq_true c3
      have c4' := of_decide_eq_true c4
      rw [if_pos ⟨c1', c2', c3', c4'⟩] at ra
      exact ⟨_, rfl, _, _, rfl, rfl, .inl ⟨by omega, by omega⟩, _, rfl, _, _, rfl, rfl, ra⟩
    · exact no rfl rfl fun z => c4 (decide_eq_true z.2.2.2)
    · exact no rfl rfl fun z => c3 (decide_eq_true z.2.2.1)
  · exact no rfl rfl fun z => c2 (decide_eq_true z.2.1)
  · exact no rfl rfl fun z => c1 (decide_eq_true z.1)
theorem ok_square_after (T : Txt K mg) : Fn P w K mg base "square_after" 1 P_square_after (sp_square_after K) := by
  have nd := sc_square_after.nd
  refine T.s_square_after.ok sc_square_after (fun vs H Q E h => ?_) (fun f cdv A outer s H vs Q E hr h => ?_)
  · obtain ⟨n, m, st, d, rfl, _⟩ := h; rfl
  obtain ⟨n, side, st, d, rfl, hn, hside, hS, q⟩ := h
  refine ⟨_, (pss_cons (ps_set (i := 3) nd rfl (by first | exact Or.inl rfl | exact Or.inr rfl) (pe_ifExp (pt_cmpR op_eq (pv 2) pe_int (nomark _)) (pe_ix ix_tup (pv 1) pe_int (fun _ _ => rfl)) (pe_un un_neg (pe_ix ix_tup (pv 1) pe_int (fun _ _ => rfl)))))
    (pss_cons (ps_set (i := 4) nd rfl (by first | exact Or.inl rfl | exact Or.inr rfl) (pe_op op_add (pe_op op_fdiv (pv 0) pe_int) (pv 3)))
    (pss_cons (ps_set (i := 5) nd rfl (by first | exact Or.inl rfl | exact Or.inr rfl) (pe_op op_add (pe_op op_mod (pv 0) pe_int) (pe_ix ix_tup (pv 1) pe_int (fun _ _ => rfl))))
    (pss_cons (ps_if (PW.pt (pw_and (pt_chain op_le op_lt pe_int (pv 4) pe_int) (pw_and1 (pt_chain op_le op_lt pe_int (pv 5) pe_int)))) (pss_one (ps_ret (pe_op op_add (pe_op op_mul (pv 4) pe_int) (pv 5)))) pss_nil)
    (pss_one (ps_ret (pe_un un_neg pe_int))))))), ?_⟩
  have rest : ∀ (a : Int), a = (if side = 1 then d.1 else -d.1) → Q (.int (if 0 ≤ ((n : Int) / 9 + a) ∧ ((n : Int) / 9 + a) < 9 ∧ 0 ≤ ((n : Int) % 9 + d.2) ∧ ((n : Int) % 9 + d.2) < 9 then ((n : Int) / 9 + a) * 9 + ((n : Int) % 9 + d.2) else -1)) H := fun a ea => by
    refine qi q ?_
    unfold aft Ql32.to
    have e1 : (if side = 0 then -d.1 else - -d.1) = a := by
      rw [ea]
      by_cases hs : side = 0
      · rw [if_pos hs, if_neg (by omega)]
      · rw [if_neg hs, if_pos (by omega)]; omega
    have e2 : ((n / 9 : Nat) : Int) = (n : Int) / 9 := by omega
    have e3 : ((n % 9 : Nat) : Int) = (n : Int) % 9 := by omega
    dsimp only
    rw [e1, e2, e3]
    by_cases hc : 0 ≤ ((n : Int) / 9 + a) ∧ ((n : Int) / 9 + a) < 9 ∧ 0 ≤ ((n : Int) % 9 + d.2) ∧ ((n : Int) % 9 + d.2) < 9
    · rw [if_pos hc, if_pos hc]; dsimp only; omega
    · rw [if_neg hc, if_neg hc]
  refine ⟨_, rfl, rfl, _, rfl, ite2 (fun c => ⟨_, rfl, st, _, _, _, rfl, rfl, hS, rfl, ?_⟩) (fun c => ⟨_, rfl, st, _, _, _, rfl, rfl, hS, rfl, _, rfl, ?_⟩)⟩
  · have c' : decide (V.int (side : Int) = V.int 1) = true := c
    rw [dint] at c'
    have c2 : (side : Int) = 1 := of_decide_eq_true c'
    have ra := rest d.1 (by rw [if_pos (by omega)])
    exact sq_tail hS ra
  · have c' : ¬ decide (V.int (side : Int) = V.int 1) = true := c
    rw [dint] at c'
    have c2 : ¬ (side : Int) = 1 := fun z => c' (decide_eq_true z)
    have ra := rest (-d.1) (by rw [if_neg (by omega)])
    exact sq_tail hS ra
end
end Km

end

section
set_option linter.all false
set_option maxRecDepth 100000
set_option maxHeartbeats 4000000
namespace Km
open PySem PySem.Spec PyProof.Rows L2
section
variable {P : Program} {w : World} {K : PySem.W.Frag} {mg : Str → Option Value} {base : Heap}
def wd (d : Step) : Int × Int := (-d.1, d.2)
theorem aft_some {s side t : Nat} {d : Step} (h : Ql32.to s side (wd d) = some t) : aft s side d = (t : Int) := by unfold aft; unfold wd at h; rw [h]
theorem aft_none {s side : Nat} {d : Step} (h : Ql32.to s side (wd d) = none) : aft s side d = -1 := by unfold aft; unfold wd at h; rw [h]
def sp_squares_along (K : PySem.W.Frag) : Sp := fun vs H Q _ => ∃ (ab : Addr) (b : List Nat) (s side : Nat) (st : Addr) (d : Step), vs = [.ref ab, vn s, .ref st, vn side] ∧ SqL K H ab (b.map vn) ∧ b.length = 81 ∧ s < 81 ∧ side < 2 ∧
  SqT K H st [.int d.1, .int d.2] ∧ Dir (wd d) ∧ ∀ (r : Addr) (H' : Hp), Same H H' → H r = none → H' r = some (.lst ((Ql32.along (bp b) side (wd d) 8 s).map vn)) → Q (.ref r) H'
/-- what holds ahead of each test of the loop: m squares may still come -/
def WAl (H : Hp) (ab : Addr) (b : List Nat) (n side : Nat) (st : Addr) (d : Step) (r : Addr) (m : Nat) (σ : L2.St) (H' : Hp) : Prop :=
  ∃ (s' : Nat) (pre : List Nat), phi side (wd d) s' ≤ m ∧ s' < 81 ∧ σ = [some (.ref ab), some (vn n), some (.ref st), some (vn side), some (.ref r), some (.int (aft s' side d))] ∧ Same H H' ∧ H' r = some (.lst (pre.map vn)) ∧
    pre ++ Ql32.along (bp b) side (wd d) m s' = Ql32.along (bp b) side (wd d) 8 n
theorem ok_squares_along (T : Txt K mg) : Fn P w K mg base "squares_along" 2 P_squares_along (sp_squares_along K) := by
  have nd := sc_squares_along.nd
  have F_square_after := ok_square_after (P := P) (w := w) (base := base) T
  refine T.s_squares_along.ok sc_squares_along (fun vs H Q E h => ?_) (fun f cdv A outer s H vs Q E hr h => ?_)
  · obtain ⟨_, _, _, _, _, _, rfl, _⟩ := h; rfl
  obtain ⟨ab, b, n, side, st, d, rfl, hB, hlen, hn, hside, hS, hdir, q⟩ := h
  refine ⟨_, (pss_cons (ps_set (i := 4) nd rfl (by first | exact Or.inl rfl | exact Or.inr rfl) (pe_lst pa_nil))
    (pss_cons (ps_set (i := 5) nd rfl (by first | exact Or.inl rfl | exact Or.inr rfl) (pe_fn F_square_after (hr.mono (by decide)) rfl (pa_cons (pv 1) (pa_cons (pv 2) (pa_cons (pv 3) pa_nil)))))
    (pss_cons (ps_while PassesOwn.never (pt_cmpR op_ge (pv 5) pe_int (nomark _)) (pss_cons (ps_expr (pe_bm PySem.F.plainAttrs_list PySem.F.slot_list_append PySem.F.type_list_append mt_append (pv 4) (pa_cons (pv 5) pa_nil)))
    (pss_cons (ps_if (pt_cmpR op_ne (pe_ix ix_list (pv 0) (pv 5) (fun _ _ => rfl)) pe_int (nomark _)) (pss_one ps_break) pss_nil)
    (pss_one (ps_set (i := 5) nd rfl (by first | exact Or.inl rfl | exact Or.inr rfl) (pe_fn F_square_after (hr.mono (by decide)) rfl (pa_cons (pv 5) (pa_cons (pv 2) (pa_cons (pv 3) pa_nil)))))))))
    (pss_one (ps_ret (pv 4)))))), ?_⟩
  refine ⟨(by show 0 ≤ sizeLine; decide), fun r hr0 => ?_⟩
  have g1 : Same H (upd H r (.lst [])) := same_new hr0 _
  refine ⟨_, rfl, _, rfl, _, rfl, n, side, st, d, rfl, hn, hside, g1.seqT hS, ?_⟩
  refine ⟨WAl H ab b n side st d r, ⟨8, n, [], phi_le hn, hn, rfl, g1, upd_same, rfl⟩, ?_⟩
  rintro m σ H' ⟨s', pre, hphi, hs', rfl, sm, hrl, he⟩
  refine ⟨_, rfl, _, _, rfl, rfl, _, rfl, ite2 (fun c => ?_) (fun c => ?_)⟩
  · have c' : 0 ≤ aft s' side d := of_decide_eq_true c
    cases et : Ql32.to s' side (wd d) with
    | none => rw [aft_none et] at c'; omega
    | some t =>
      have ea := aft_some et
      have ht := to_lt et
      have hst := phi_step hdir hs' et
      obtain ⟨m', rfl⟩ : ∃ m', m = m' + 1 := ⟨m - 1, by omega⟩
      rw [along_some et] at he
      have hpre : pre.length ≤ 8 := by
        have z := congrArg List.length he
        rw [List.length_append] at z
        have z2 := along_len (p := bp b) (side := side) (d := wd d) 8 n
        omega
      obtain ⟨x, hx⟩ : ∃ x, b[t]? = some x := ⟨b[t]'(by omega), List.getElem?_eq_getElem (by omega)⟩
      have hat : Ql32.at_ (bp b) t = x := by unfold Ql32.at_ bp; rw [List.getD_eq_getElem?_getD, hx]; rfl
      rw [hat] at he
      rw [ea]
      refine ⟨fun σ' H'' => ∃ m'', m'' < m' + 1 ∧ WAl H ab b n side st d r m'' σ' H'', fun _ _ z => z, ?_⟩
      refine ⟨_, rfl, .inl ⟨rfl, _, SqL.of hrl⟩, _, rfl, r, _, _, rfl, rfl, hrl, small1000 (by rw [List.length_map]; omega), ?_⟩
      have g2 : Same H (upd H' r (.lst (pre.map vn ++ [vn t]))) := fun b' o e => by rw [upd_ne (ne_of_none e hr0)]; exact sm _ _ e
      have hr2 : (upd H' r (.lst (pre.map vn ++ [vn t]))) r = some (.lst ((pre ++ [t]).map vn)) := by rw [upd_same, List.map_append]; rfl
      refine ⟨_, rfl, _, rfl, ab, _, _, _, rfl, rfl, g2.seq hB, nat_atI hx, rfl, _, rfl, ite2 (fun c2 => ?_) (fun c2 => ?_)⟩
      · -- something stands there
        have c3 : (!decide (vn x = V.int 0)) = true := c2
        rw [dint] at c3
        have hx0 : ¬ x = 0 := fun z => by subst z; exact absurd c3 (by decide)
        rw [if_neg hx0] at he
        refine ⟨_, rfl, q r _ g2 hr0 ?_⟩
        rw [hr2, he]
      · have c3 : ¬ (!decide (vn x = V.int 0)) = true := c2
        rw [dint] at c3
        have hx0 : x = 0 := by
          by_cases z : x = 0
          · exact z
          · exact absurd (by rw [decide_eq_false (by omega)]; rfl) c3
        rw [if_pos hx0] at he
        refine ⟨_, rfl, _, rfl, _, rfl, t, side, st, d, rfl, ht, hside, g2.seqT hS, ?_⟩
        refine ⟨m', Nat.lt_succ_self _, t, pre ++ [t], by omega, ht, rfl, g2, hr2, ?_⟩
        rw [← he, List.append_assoc]; rfl
  · have c' : ¬ 0 ≤ aft s' side d := fun z => c (decide_eq_true z)
    cases et : Ql32.to s' side (wd d) with
    | some t => rw [aft_some et] at c'; omega
    | none =>
      rw [along_none et, List.append_nil] at he
      exact ⟨_, rfl, q r _ sm hr0 (by rw [hrl, he])⟩
end
end Km

end

section
set_option linter.all false
set_option maxRecDepth 100000
set_option maxHeartbeats 4000000
namespace Km
open PySem PySem.Spec PyProof.Rows L2
section
variable {P : Program} {w : World} {K : PySem.W.Frag} {mg : Str → Option Value} {base : Heap}
/-! ### heaps that are as they were but at one list -/
theorem paired_len {α β : Type} {R : α → β → Prop} {l : List α} {m : List β} (h : Paired R l m) : l.length = m.length := Paired.length h
def But (r : Addr) (H H' : Hp) : Prop := ∀ b o, b ≠ r → H b = some o → H' b = some o
theorem But.seqT {r : Addr} {H H' : Hp} {a : Addr} {xs ys : List V} (e : But r H H') (hr : H r = some (.lst ys)) (h : SqT K H a xs) : SqT K H' a xs := by
  rcases h with (h | ⟨o, h⟩) | h
  · exact .inl (.inl (e _ _ (ne_of h hr (by intro z; cases z)) h))
  · exact .inl (.inr ⟨o, e _ _ (ne_of h hr (by intro z; cases z)) h⟩)
  · exact .inr h
theorem But.upd {r : Addr} {H H' : Hp} (e : But r H H') (o : HO) : But r H (upd H' r o) := fun b u nb h => by rw [upd_ne nb]; exact e b u nb h
theorem But.same {r : Addr} {H0 H H' : Hp} (e : But r H H') (h0 : H0 r = none) (s : Same H0 H) : Same H0 H' := fun b o h => e b o (ne_of_none h h0) (s b o h)
theorem But.trans {r : Addr} {H H1 H2 : Hp} (a : But r H H1) (b : But r H1 H2) : But r H H2 := fun c o n h => b c o n (a c o n h)
theorem take_filterMap {α β : Type} {l : List α} {i : Nat} {x : α} (f : α → Option β) (h : l[i]? = some x) : (l.take (i + 1)).filterMap f = (l.take i).filterMap f ++ (f x).toList := by
  rw [List.take_add_one, List.filterMap_append, h]
  cases e : f x <;> simp [e]
theorem take_flatMap {α β : Type} {l : List α} {i : Nat} {x : α} (f : α → List β) (h : l[i]? = some x) : (l.take (i + 1)).flatMap f = (l.take i).flatMap f ++ f x := by
  rw [List.take_add_one, List.flatMap_append, h]; simp
theorem flatMap_len {α β : Type} {f : α → List β} {k : Nat} (hf : ∀ x, (f x).length ≤ k) : ∀ l : List α, (l.flatMap f).length ≤ l.length * k
  | [] => by simp
  | x :: r => by
    have ih := flatMap_len hf r
    have := hf x
    rw [List.flatMap_cons, List.length_append, List.length_cons, Nat.succ_mul]; omega
/-- where the piece at s reaches -/
def nearTo (c s : Nat) (d : Step) : Option Nat := Ql32.to s (c / 16) (wd d)
def farTo (b : List Nat) (c s : Nat) (d : Step) : List Nat := Ql32.along (bp b) (c / 16) (wd d) 8 s
def reachM (b : List Nat) (s : Nat) : List Nat := (nearL (b.getD s 0 % 16)).filterMap (nearTo (b.getD s 0) s) ++ (farL (b.getD s 0 % 16)).flatMap (farTo b (b.getD s 0) s)
theorem steps_few : ∀ k : Nat, k < 16 → (nearL k).length ≤ 8 ∧ (farL k).length ≤ 4 ∧ ∀ d ∈ farL k, Dir (wd d) := by decide
def sp_squares_in_reach (K : PySem.W.Frag) : Sp := fun vs H Q _ => ∃ (ab : Addr) (b : List Nat) (s c : Nat), vs = [.ref ab, vn s] ∧ SqL K H ab (b.map vn) ∧ b.length = 81 ∧ s < 81 ∧ b[s]? = some c ∧ c < 32 ∧
  ∀ (r : Addr) (H' : Hp), Same H H' → H r = none → H' r = some (.lst ((reachM b s).map vn)) → Q (.ref r) H'
end
end Km

end

section
set_option linter.all false
/-! rays: squares along a way, from either end; boards that differ at a square -/
namespace Km
open Ql32
/-- the way in rows down, whoever goes -/
def ab (who : Nat) (d : Int × Int) : Int := if who = 0 then d.1 else -d.1
def pos (s : Nat) (e f : Int) (m : Nat) : Nat := (((s / 9 : Nat) : Int) + (m : Int) * e).toNat * 9 + (((s % 9 : Nat) : Int) + (m : Int) * f).toNat
def inb (s : Nat) (e f : Int) (m : Nat) : Prop := 0 ≤ ((s / 9 : Nat) : Int) + (m : Int) * e ∧ ((s / 9 : Nat) : Int) + (m : Int) * e < 9 ∧ 0 ≤ ((s % 9 : Nat) : Int) + (m : Int) * f ∧ ((s % 9 : Nat) : Int) + (m : Int) * f < 9
theorem to_iff {s who t : Nat} {d : Int × Int} : to s who d = some t ↔ inb s (ab who d) d.2 1 ∧ t = pos s (ab who d) d.2 1 := by
  constructor
  · intro h
    obtain ⟨e, he, hc, rfl⟩ := to_some h
    unfold inb pos ab
    rw [he]
    constructor
    · lia
    · rw [show ((1 : Nat) : Int) * e = e by lia, show ((1 : Nat) : Int) * d.2 = d.2 by lia]
  · rintro ⟨hc, rfl⟩
    unfold inb at hc
    unfold to pos
    dsimp only
    unfold ab at hc ⊢
    generalize (if who = 0 then d.1 else -d.1) = e at hc ⊢
    rw [show ((1 : Nat) : Int) * e = e by lia, show ((1 : Nat) : Int) * d.2 = d.2 by lia] at hc ⊢
    rw [if_pos hc]
theorem pos_row {s : Nat} {e f : Int} {m : Nat} (h : inb s e f m) : ((pos s e f m / 9 : Nat) : Int) = ((s / 9 : Nat) : Int) + (m : Int) * e ∧ ((pos s e f m % 9 : Nat) : Int) = ((s % 9 : Nat) : Int) + (m : Int) * f := by
  unfold inb at h
  unfold pos
  generalize ((s / 9 : Nat) : Int) + (m : Int) * e = r at h ⊢
  generalize ((s % 9 : Nat) : Int) + (m : Int) * f = c at h ⊢
  lia
theorem mul_succ' (m : Nat) (e : Int) : ((m + 1 : Nat) : Int) * e = (m : Int) * e + e := by
  rw [Int.natCast_succ, Int.add_mul, Int.one_mul]
theorem pos_next {s : Nat} {e f : Int} {m : Nat} (h : inb s e f 1) : pos (pos s e f 1) e f m = pos s e f (m + 1) ∧ (inb (pos s e f 1) e f m ↔ inb s e f (m + 1)) := by
  obtain ⟨h1, h2⟩ := pos_row h
  rw [show ((1 : Nat) : Int) * e = e by lia] at h1
  rw [show ((1 : Nat) : Int) * f = f by lia] at h2
  constructor
  · rw [pos, h1, h2, pos, mul_succ', mul_succ']
    rw [show ((s / 9 : Nat) : Int) + e + (m : Int) * e = ((s / 9 : Nat) : Int) + ((m : Int) * e + e) by lia, show ((s % 9 : Nat) : Int) + f + (m : Int) * f = ((s % 9 : Nat) : Int) + ((m : Int) * f + f) by lia]
  · unfold inb
    rw [h1, h2, mul_succ', mul_succ']
    constructor
    · rintro ⟨a, b, c, d⟩; refine ⟨by lia, by lia, by lia, by lia⟩
    · rintro ⟨a, b, c, d⟩; refine ⟨by lia, by lia, by lia, by lia⟩
theorem ab_dir {who : Nat} {d : Int × Int} (h : Dir d) : (ab who d = -1 ∨ ab who d = 0 ∨ ab who d = 1) ∧ (d.2 = -1 ∨ d.2 = 0 ∨ d.2 = 1) ∧ ¬ (ab who d = 0 ∧ d.2 = 0) := by
  obtain ⟨h1, h2, h3⟩ := h
  unfold ab
  split
  · exact ⟨h1, h2, h3⟩
  · exact ⟨by lia, h2, by lia⟩
/-! ### one coordinate -/
theorem one_less {x e : Int} {m n : Nat} (he : e = -1 ∨ e = 0 ∨ e = 1) (h0 : 0 ≤ x) (h9 : x < 9) (h1 : 0 ≤ x + (n : Int) * e) (h2 : x + (n : Int) * e < 9) (hm : m ≤ n) : 0 ≤ x + (m : Int) * e ∧ x + (m : Int) * e < 9 := by
  rcases he with rfl | rfl | rfl <;> lia
theorem one_back {x e : Int} {m n : Nat} (hm : m ≤ n) : x + (n : Int) * e + (m : Int) * (-e) = x + ((n - m : Nat) : Int) * e := by
  rw [Int.natCast_sub hm, Int.sub_mul, Int.mul_neg]; lia
theorem one_ne {e : Int} {n : Nat} (he : e = -1 ∨ e = 0 ∨ e = 1) (hn : 1 ≤ n) (h : (n : Int) * e = 0) : e = 0 := by
  rcases he with rfl | rfl | rfl <;> lia
theorem one_same {e e' : Int} {n n' : Nat} (he : e = -1 ∨ e = 0 ∨ e = 1) (he' : e' = -1 ∨ e' = 0 ∨ e' = 1) (hn : 1 ≤ n) (hn' : 1 ≤ n') (h : (n : Int) * e = (n' : Int) * e') : e = e' := by
  rcases he with rfl | rfl | rfl <;> rcases he' with rfl | rfl | rfl <;> lia
/-- squares between are on the board, too -/
theorem inb_less {s : Nat} {e f : Int} {m n : Nat} (he : e = -1 ∨ e = 0 ∨ e = 1) (hf : f = -1 ∨ f = 0 ∨ f = 1) (hs : s < 81) (h : inb s e f n) (hm : m ≤ n) : inb s e f m := by
  obtain ⟨h1, h2, h3, h4⟩ := h
  obtain ⟨a1, a2⟩ := one_less he (Int.natCast_nonneg _) (by lia) h1 h2 hm
  obtain ⟨b1, b2⟩ := one_less hf (Int.natCast_nonneg _) (by lia) h3 h4 hm
  exact ⟨a1, a2, b1, b2⟩
theorem pos_lt {s : Nat} {e f : Int} {m : Nat} (h : inb s e f m) : pos s e f m < 81 := by
  obtain ⟨h1, h2⟩ := pos_row h
  unfold inb at h
  lia
/-- **what lies along a way** -/
theorem along_iff {b : List Nat} {who : Nat} {d : Int × Int} (hd : Dir d) : ∀ {k s t : Nat}, s < 81 → (t ∈ along (bp b) who d k s ↔
    ∃ n, 1 ≤ n ∧ n ≤ k ∧ inb s (ab who d) d.2 n ∧ t = pos s (ab who d) d.2 n ∧ ∀ m, 1 ≤ m → m < n → b.getD (pos s (ab who d) d.2 m) 0 = 0)
  | 0, s, t, hs => by
    constructor
    · intro h; simp [along] at h
    · rintro ⟨n, h1, h2, _⟩; lia
  | k + 1, s, t, hs => by
    obtain ⟨he, hf, hn0⟩ := ab_dir (who := who) hd
    cases et : to s who d with
    | none =>
      rw [along_none et]
      constructor
      · intro h; simp at h
      · rintro ⟨n, h1, h2, h3, _⟩
        have h4 := inb_less he hf hs h3 h1
        have := to_iff.mpr ⟨h4, rfl⟩
        rw [et] at this; cases this
    | some u =>
      obtain ⟨hu, rfl⟩ := to_iff.mp et
      have hlt := pos_lt hu
      rw [along_some et]
      have ea : at_ (bp b) (pos s (ab who d) d.2 1) = b.getD (pos s (ab who d) d.2 1) 0 := rfl
      rw [ea]
      by_cases hb : b.getD (pos s (ab who d) d.2 1) 0 = 0
      · rw [if_pos hb, List.mem_cons, along_iff hd hlt]
        constructor
        · rintro (rfl | ⟨n, h1, h2, h3, rfl, h5⟩)
          · exact ⟨1, by lia, by lia, hu, rfl, fun m h1 h2 => by lia⟩
          · refine ⟨n + 1, by lia, by lia, (pos_next hu).2.mp h3, (pos_next hu).1, fun m h6 h7 => ?_⟩
            by_cases hm : m = 1
            · rw [hm]; exact hb
            · obtain ⟨m', rfl⟩ : ∃ m', m = m' + 1 := ⟨m - 1, by lia⟩
              rw [← (pos_next hu).1]
              exact h5 m' (by lia) (by lia)
        · rintro ⟨n, h1, h2, h3, rfl, h5⟩
          by_cases hn : n = 1
          · left; rw [hn]
          · right
            obtain ⟨n', rfl⟩ : ∃ n', n = n' + 1 := ⟨n - 1, by lia⟩
            exact ⟨n', by lia, by lia, (pos_next hu).2.mpr h3, (pos_next hu).1.symm, fun m h6 h7 => by rw [(pos_next hu).1]; exact h5 (m + 1) (by lia) (by lia)⟩
      · rw [if_neg hb, List.mem_singleton]
        constructor
        · rintro rfl
          exact ⟨1, by lia, by lia, hu, rfl, fun m h1 h2 => by lia⟩
        · rintro ⟨n, h1, h2, h3, rfl, h5⟩
          by_cases hn : n = 1
          · rw [hn]
          · exact absurd (h5 1 (by lia) (by lia)) hb
/-! ### the way back -/
def rev (d : Int × Int) : Int × Int := (d.1, -d.2)
theorem ab_rev {who who' : Nat} {d : Int × Int} (hw : who ≤ 1) (hw' : who' = 1 - who) : ab who' (rev d) = - ab who d := by
  unfold ab rev
  by_cases h : who = 0
  · rw [if_pos h, if_neg (by lia)]
  · rw [if_neg h, if_pos (by lia)]; simp
theorem rev_dir {d : Int × Int} (h : Dir d) : Dir (rev d) := by
  obtain ⟨h1, h2, h3⟩ := h
  exact ⟨h1, by unfold rev; dsimp only; lia, by unfold rev; dsimp only; lia⟩
theorem rev_rev (d : Int × Int) : rev (rev d) = d := by unfold rev; simp
theorem div_mod_eq {a b : Nat} (h1 : ((a / 9 : Nat) : Int) = ((b / 9 : Nat) : Int)) (h2 : ((a % 9 : Nat) : Int) = ((b % 9 : Nat) : Int)) : a = b := by lia
theorem to_rev {s t who who' : Nat} {d : Int × Int} (hw : who ≤ 1) (hw' : who' = 1 - who) (hs : s < 81) (h : to s who d = some t) : to t who' (rev d) = some s := by
  obtain ⟨h1, rfl⟩ := to_iff.mp h
  obtain ⟨r1, r2⟩ := pos_row h1
  have hlt := pos_lt h1
  rw [to_iff, ab_rev hw hw']
  generalize hp : pos s (ab who d) d.2 1 = t at *
  generalize ab who d = e at *
  have e2 : (rev d).2 = - d.2 := rfl
  rw [e2]
  generalize d.2 = f at *
  rw [show ((1 : Nat) : Int) * e = e by lia] at r1
  rw [show ((1 : Nat) : Int) * f = f by lia] at r2
  have hi : inb t (-e) (-f) 1 := by
    unfold inb
    rw [r1, r2]
    rw [show ((1 : Nat) : Int) * (-e) = -e by lia, show ((1 : Nat) : Int) * (-f) = -f by lia]
    refine ⟨by lia, by lia, by lia, by lia⟩
  refine ⟨hi, ?_⟩
  obtain ⟨q1, q2⟩ := pos_row hi
  refine div_mod_eq ?_ ?_
  · rw [q1, r1, show ((1 : Nat) : Int) * (-e) = -e by lia]; lia
  · rw [q2, r2, show ((1 : Nat) : Int) * (-f) = -f by lia]; lia
theorem pos_back {s : Nat} {e f : Int} {n m : Nat} (he : e = -1 ∨ e = 0 ∨ e = 1) (hf : f = -1 ∨ f = 0 ∨ f = 1) (hs : s < 81) (h : inb s e f n) (hm : m ≤ n) : inb (pos s e f n) (-e) (-f) m ∧ pos (pos s e f n) (-e) (-f) m = pos s e f (n - m) := by
  obtain ⟨r1, r2⟩ := pos_row h
  have h3 := inb_less he hf hs h (m := n - m) (Nat.sub_le _ _)
  have e1 : ((pos s e f n / 9 : Nat) : Int) + (m : Int) * (-e) = ((s / 9 : Nat) : Int) + ((n - m : Nat) : Int) * e := by rw [r1, one_back hm]
  have e2 : ((pos s e f n % 9 : Nat) : Int) + (m : Int) * (-f) = ((s % 9 : Nat) : Int) + ((n - m : Nat) : Int) * f := by rw [r2, one_back hm]
  constructor
  · unfold inb at h3 ⊢
    rw [e1, e2]
    exact h3
  · rw [pos, e1, e2]; rfl
theorem along_rev {b : List Nat} {s t who who' : Nat} {d : Int × Int} (hd : Dir d) (hw : who ≤ 1) (hw' : who' = 1 - who) (hs : s < 81) (h : t ∈ along (bp b) who d 8 s) : s ∈ along (bp b) who' (rev d) 8 t := by
  have ht := along_mem h
  obtain ⟨he, hf, hn0⟩ := ab_dir (who := who) hd
  obtain ⟨n, h1, h2, h3, rfl, h5⟩ := (along_iff hd hs).mp h
  rw [along_iff (rev_dir hd) ht, ab_rev hw hw', show (rev d).2 = - d.2 from rfl]
  refine ⟨n, h1, h2, (pos_back he hf hs h3 (Nat.le_refl n)).1, ?_, fun m h6 h7 => ?_⟩
  · rw [(pos_back he hf hs h3 (Nat.le_refl n)).2, Nat.sub_self]
    unfold pos
    simp
    lia
  · rw [(pos_back he hf hs h3 (Nat.le_of_lt h7)).2]
    exact h5 (n - m) (by lia) (by lia)
/-! ### lines apart -/
theorem along_pos {b : List Nat} {s t who : Nat} {d : Int × Int} {k : Nat} (hd : Dir d) (hs : s < 81) (h : t ∈ along (bp b) who d k s) : ∃ n : Nat, 1 ≤ n ∧ ((t / 9 : Nat) : Int) = ((s / 9 : Nat) : Int) + (n : Int) * ab who d ∧ ((t % 9 : Nat) : Int) = ((s % 9 : Nat) : Int) + (n : Int) * d.2 := by
  obtain ⟨n, h1, h2, h3, rfl, h5⟩ := (along_iff hd hs).mp h
  exact ⟨n, h1, pos_row h3⟩
theorem along_ne {b : List Nat} {s t who : Nat} {d : Int × Int} {k : Nat} (hd : Dir d) (hs : s < 81) (h : t ∈ along (bp b) who d k s) : t ≠ s := by
  obtain ⟨n, h1, h2, h3⟩ := along_pos hd hs h
  obtain ⟨he, hf, hn0⟩ := ab_dir (who := who) hd
  rintro rfl
  exact hn0 ⟨one_ne he h1 (by lia), one_ne hf h1 (by lia)⟩
/-- a square lies on one way only -/
theorem along_apart {b b' : List Nat} {s t who : Nat} {d d' : Int × Int} {k k' : Nat} (hd : Dir d) (hd' : Dir d') (hs : s < 81) (h : t ∈ along (bp b) who d k s) (h' : t ∈ along (bp b') who d' k' s) : d = d' := by
  obtain ⟨n, h1, h2, h3⟩ := along_pos hd hs h
  obtain ⟨n', h1', h2', h3'⟩ := along_pos hd' hs h'
  obtain ⟨he, hf, hn0⟩ := ab_dir (who := who) hd
  obtain ⟨he', hf', hn0'⟩ := ab_dir (who := who) hd'
  have e1 : ab who d = ab who d' := one_same he he' h1 h1' (by lia)
  have e2 : d.2 = d'.2 := one_same hf hf' h1 h1' (by lia)
  have e3 : d.1 = d'.1 := by
    unfold ab at e1
    split at e1 <;> lia
  exact Prod.ext e3 e2
theorem along_nodup {b : List Nat} {who : Nat} {d : Int × Int} (hd : Dir d) : ∀ {k s : Nat}, s < 81 → (along (bp b) who d k s).Nodup
  | 0, s, hs => by simp [along]
  | k + 1, s, hs => by
    cases et : to s who d with
    | none => rw [along_none et]; exact List.nodup_nil
    | some u =>
      rw [along_some et]
      have hlt := to_lt et
      split
      · exact List.nodup_cons.mpr ⟨fun h => along_ne hd hlt h rfl, along_nodup hd hlt⟩
      · simp
/-! ### a line's last square -/
theorem along_stop {b : List Nat} {who : Nat} {d : Int × Int} : ∀ {k s t : Nat}, t ∈ along (bp b) who d k s → b.getD t 0 ≠ 0 → (along (bp b) who d k s).getLast? = some t
  | 0, s, t, h, _ => by simp [along] at h
  | k + 1, s, t, h, ht => by
    cases et : to s who d with
    | none => rw [along_none et] at h; simp at h
    | some u =>
      rw [along_some et] at h ⊢
      by_cases hu : at_ (bp b) u = 0
      · rw [if_pos hu] at h ⊢
        rcases List.mem_cons.mp h with rfl | h
        · exact absurd hu ht
        · rw [List.getLast?_cons, along_stop h ht]; rfl
      · rw [if_neg hu] at h ⊢
        rw [List.mem_singleton.mp h]; rfl
/-- all but the last are empty -/
theorem along_empty {b : List Nat} {who : Nat} {d : Int × Int} {k s t l : Nat} (h : t ∈ along (bp b) who d k s) (hl : (along (bp b) who d k s).getLast? = some l) (hn : t ≠ l) : b.getD t 0 = 0 := by
  by_cases e : b.getD t 0 = 0
  · exact e
  · have := along_stop h e
    rw [hl] at this
    exact absurd (Option.some.inj this).symm hn
/-! ### fuel -/
theorem along_fuel {b : List Nat} {who : Nat} {d : Int × Int} (hd : Dir d) : ∀ {k k' s : Nat}, s < 81 → phi who d s ≤ k → phi who d s ≤ k' → along (bp b) who d k s = along (bp b) who d k' s := by
  intro k
  induction k with
  | zero =>
    intro k' s hs h1 h2
    cases et : to s who d with
    | none => rw [along_none et, along_none et]
    | some u => have := phi_step hd hs et; lia
  | succ k ih =>
    intro k' s hs h1 h2
    cases et : to s who d with
    | none => rw [along_none et, along_none et]
    | some u =>
      have hp := phi_step hd hs et
      obtain ⟨k2, rfl⟩ : ∃ k2, k' = k2 + 1 := ⟨k' - 1, by lia⟩
      rw [along_some et, along_some et, ih (k' := k2) (to_lt et) (by lia) (by lia)]
/-! ### two boards -/
/-- the same pieces along the line: the same line -/
theorem along_same {b b' : List Nat} {who : Nat} {d : Int × Int} : ∀ {k s : Nat}, (∀ u ∈ along (bp b) who d k s, (b'.getD u 0 = 0 ↔ b.getD u 0 = 0)) → along (bp b') who d k s = along (bp b) who d k s
  | 0, s, _ => rfl
  | k + 1, s, h => by
    cases et : to s who d with
    | none => rw [along_none et, along_none et]
    | some u =>
      rw [along_some et] at h ⊢
      rw [along_some et]
      have ea : at_ (bp b) u = b.getD u 0 := rfl
      have ea' : at_ (bp b') u = b'.getD u 0 := rfl
      rw [ea] at h ⊢
      rw [ea']
      by_cases hu : b.getD u 0 = 0
      · rw [if_pos hu] at h ⊢
        rw [if_pos ((h u List.mem_cons_self).mpr hu), along_same fun v hv => h v (List.mem_cons_of_mem _ hv)]
      · rw [if_neg hu] at h ⊢
        rw [if_neg fun z => hu ((h u List.mem_cons_self).mp z)]
/-- something new on the line: it ends there -/
theorem along_block {b b' : List Nat} {who : Nat} {d : Int × Int} {t : Nat} (ht : b'.getD t 0 ≠ 0) : ∀ {k s : Nat}, t ∈ along (bp b) who d k s → (∀ u ∈ along (bp b) who d k s, u ≠ t → b.getD u 0 = 0 → b'.getD u 0 = 0) → (along (bp b') who d k s).getLast? = some t
  | 0, s, h, _ => by simp [along] at h
  | k + 1, s, h, h0 => by
    cases et : to s who d with
    | none => rw [along_none et] at h; simp at h
    | some u =>
      rw [along_some et] at h h0 ⊢
      have ea : at_ (bp b) u = b.getD u 0 := rfl
      have ea' : at_ (bp b') u = b'.getD u 0 := rfl
      rw [ea] at h h0
      rw [ea']
      by_cases hut : u = t
      · subst hut
        rw [if_neg ht]; rfl
      · by_cases hu : b.getD u 0 = 0
        · rw [if_pos hu] at h h0
          have h2 : t ∈ along (bp b) who d k u := (List.mem_cons.mp h).resolve_left fun z => hut z.symm
          rw [if_pos (h0 u List.mem_cons_self hut hu), List.getLast?_cons, along_block ht h2 fun v hv => h0 v (List.mem_cons_of_mem _ hv)]; rfl
        · rw [if_neg hu] at h
          exact absurd (List.mem_singleton.mp h).symm hut
/-- the last piece of the line goes away: the line goes on behind it -/
theorem along_open {b b' : List Nat} {who : Nat} {d : Int × Int} {l : Nat} (hd : Dir d) (hl' : b'.getD l 0 = 0) : ∀ {k s : Nat}, s < 81 → phi who d s ≤ k → (along (bp b) who d k s).getLast? = some l → b.getD l 0 ≠ 0 →
    (∀ u ∈ along (bp b) who d k s, u ≠ l → b'.getD u 0 = 0) → along (bp b') who d k s = along (bp b) who d k s ++ along (bp b') who d 8 l
  | 0, s, _, _, h, _, _ => by simp [along] at h
  | k + 1, s, hs, hk, h, hb, h0 => by
    cases et : to s who d with
    | none => rw [along_none et] at h; simp at h
    | some u =>
      have hp := phi_step hd hs et
      have hlt := to_lt et
      rw [along_some et] at h h0
      rw [along_some et, along_some et]
      have ea : at_ (bp b) u = b.getD u 0 := rfl
      have ea' : at_ (bp b') u = b'.getD u 0 := rfl
      rw [ea] at h h0 ⊢
      rw [ea']
      by_cases hu : b.getD u 0 = 0
      · rw [if_pos hu] at h h0 ⊢
        have hul : u ≠ l := fun z => hb (by rw [← z]; exact hu)
        have h2 : (along (bp b) who d k u).getLast? = some l := by
          rw [List.getLast?_cons] at h
          cases e : (along (bp b) who d k u).getLast? with
          | none => rw [e] at h; exact absurd (Option.some.inj h) hul
          | some v => rw [e] at h; exact h
        rw [if_pos (h0 u List.mem_cons_self hul), along_open hd hl' hlt (by lia) h2 hb fun v hv => h0 v (List.mem_cons_of_mem _ hv)]; rfl
      · rw [if_neg hu] at h ⊢
        have hul : u = l := Option.some.inj h
        subst hul
        rw [if_pos hl', along_fuel hd hlt (k := k) (k' := 8) (by lia) (phi_le hlt)]; rfl
/-- more pieces: shorter lines -/
theorem along_less {b b' : List Nat} {who : Nat} {d : Int × Int} (h : ∀ u, b'.getD u 0 = 0 → b.getD u 0 = 0) : ∀ {k s t : Nat}, t ∈ along (bp b') who d k s → t ∈ along (bp b) who d k s
  | 0, s, t, ht => by simp [along] at ht
  | k + 1, s, t, ht => by
    cases et : to s who d with
    | none => rw [along_none et] at ht; simp at ht
    | some u =>
      rw [along_some et] at ht ⊢
      have ea : at_ (bp b) u = b.getD u 0 := rfl
      have ea' : at_ (bp b') u = b'.getD u 0 := rfl
      rw [ea'] at ht
      rw [ea]
      by_cases hu : b'.getD u 0 = 0
      · rw [if_pos hu] at ht
        rw [if_pos (h u hu)]
        rcases List.mem_cons.mp ht with rfl | ht
        · exact List.mem_cons_self
        · exact List.mem_cons_of_mem _ (along_less h ht)
      · rw [if_neg hu] at ht
        rw [List.mem_singleton.mp ht]
        split
        · exact List.mem_cons_self
        · exact List.mem_singleton.mpr rfl
end Km

end

section
set_option linter.all false
set_option maxRecDepth 100000
set_option maxHeartbeats 4000000
/-! check by lines from the king; what a move does to the lines -/
namespace Km
open Ql32
theorem getD_of {b : List Nat} {i c : Nat} (h : b[i]? = some c) : b.getD i 0 = c := by rw [List.getD_eq_getElem?_getD, h]; rfl
theorem getD_lt {b : List Nat} (h : ∀ c ∈ b, c < 32) (i : Nat) : b.getD i 0 < 32 := by
  rw [List.getD_eq_getElem?_getD]
  cases e : b[i]? with
  | none => decide
  | some v => exact h v (List.mem_of_getElem? e)
/-- the piece at s takes aim at j, and isn't of this side -/
def hits (b : List Nat) (side j s : Nat) : Bool := b.getD s 0 != 0 && (b.getD s 0 / 16 != side && decide (j ∈ reachM b s))
def chk (b : List Nat) (side j : Nat) : Bool := (List.range 81).any (hits b side j)
/-- belongs_to -/
def own (c w : Nat) : Bool := c != 0 && c / 16 == w
theorem own_iff {c w : Nat} : own c w = true ↔ c ≠ 0 ∧ c / 16 = w := by unfold own; simp
def lineM (b : List Nat) (w k : Nat) (d : Step) : List Nat := along (bp b) w (wd d) 8 k
/-- ends_in_threat -/
def thrM (b : List Nat) (w : Nat) (line : List Nat) (d : Step) : Bool := match line.getLast? with
  | none => false
  | some l => own (b.getD l 0) (1 - w) && (decide (rev d ∈ farL (b.getD l 0 % 16)) || (line.length == 1 && decide (rev d ∈ nearL (b.getD l 0 % 16))))
def knOf (b : List Nat) (w k : Nat) (d : Step) : Option (List Nat) := (to k w (wd d)).bind fun t => if b.getD t 0 = 3 + 16 * (1 - w) then some [t] else none
def thrOf (b : List Nat) (w k : Nat) (d : Step) : Option (List Nat) := if thrM b w (lineM b w k d) d = true then some (lineM b w k d) else none
def linesM (b : List Nat) (w k : Nat) : List (List Nat) := (nearL 3).filterMap (knOf b w k) ++ (nearL 8).filterMap (thrOf b w k)
def chkL (b : List Nat) (w k : Nat) : Bool := decide (0 < (linesM b w k).length)
theorem tb1 : ∀ k : Nat, k < 16 → ∀ d ∈ nearL k, (k = 3 ∧ rev d ∈ nearL 3) ∨ (k ≠ 3 ∧ rev d ∈ nearL 8) := by decide +kernel
theorem tb2 : ∀ k : Nat, k < 16 → ∀ d ∈ farL k, rev d ∈ nearL 8 ∧ Dir (wd d) := by decide +kernel
theorem tb3 : ∀ d ∈ nearL 8, Dir (wd d) := by decide +kernel
theorem tb4 : ∀ d ∈ nearL 3, rev d ∈ nearL 3 := by decide +kernel
theorem rev_wd (d : Step) : rev (wd d) = wd (rev d) := rfl
theorem rev_rev' (d : Step) : rev (rev d) = d := rev_rev d
theorem reachM_iff {b : List Nat} {s j : Nat} : j ∈ reachM b s ↔ (∃ d ∈ nearL (b.getD s 0 % 16), to s (b.getD s 0 / 16) (wd d) = some j) ∨ (∃ d ∈ farL (b.getD s 0 % 16), j ∈ along (bp b) (b.getD s 0 / 16) (wd d) 8 s) := by
  unfold reachM
  rw [List.mem_append, List.mem_filterMap, List.mem_flatMap]
  rfl
theorem mem_lines {b : List Nat} {w k : Nat} {l : List Nat} : l ∈ linesM b w k ↔ (∃ d ∈ nearL 3, ∃ t, to k w (wd d) = some t ∧ b.getD t 0 = 3 + 16 * (1 - w) ∧ l = [t]) ∨ (∃ d ∈ nearL 8, thrM b w (lineM b w k d) d = true ∧ l = lineM b w k d) := by
  unfold linesM
  rw [List.mem_append, List.mem_filterMap, List.mem_filterMap]
  refine or_congr (exists_congr fun d => and_congr_right fun _ => ?_) (exists_congr fun d => and_congr_right fun _ => ?_)
  · unfold knOf
    cases to k w (wd d) with
    | none => simp
    | some t =>
      simp only [Option.bind_some]
      constructor
      · intro h
        split at h
        · rename_i hb
          exact ⟨t, rfl, hb, (Option.some.inj h).symm⟩
        · cases h
      · rintro ⟨t', e, hb, rfl⟩
        obtain rfl := Option.some.inj e
        rw [if_pos hb]
  · unfold thrOf
    constructor
    · intro h
      split at h
      · rename_i hb
        exact ⟨hb, (Option.some.inj h).symm⟩
      · cases h
    · rintro ⟨hb, rfl⟩
      rw [if_pos hb]
theorem chkL_iff {b : List Nat} {w k : Nat} : chkL b w k = true ↔ ∃ l, l ∈ linesM b w k := by
  unfold chkL
  rw [decide_eq_true_eq, List.length_pos_iff_exists_mem]
theorem thr_iff {b : List Nat} {w : Nat} {line : List Nat} {d : Step} : thrM b w line d = true ↔ ∃ l, line.getLast? = some l ∧ b.getD l 0 ≠ 0 ∧ b.getD l 0 / 16 = 1 - w ∧ (rev d ∈ farL (b.getD l 0 % 16) ∨ (line.length = 1 ∧ rev d ∈ nearL (b.getD l 0 % 16))) := by
  unfold thrM
  cases e : line.getLast? with
  | none => simp
  | some l =>
    simp only [Bool.and_eq_true, Bool.or_eq_true, own_iff, decide_eq_true_eq, beq_iff_eq]
    constructor
    · rintro ⟨⟨h1, h2⟩, h3⟩; exact ⟨l, rfl, h1, h2, h3⟩
    · rintro ⟨l', e', h1, h2, h3⟩
      obtain rfl := Option.some.inj e'
      exact ⟨⟨h1, h2⟩, h3⟩
/-- **check, seen from the king** -/
theorem chk_lines {b : List Nat} {w k : Nat} (hw : w ≤ 1) (hk : k < 81) (hb : ∀ c ∈ b, c < 32) : chkL b w k = chk b w k := by
  rw [Bool.eq_iff_iff, chkL_iff]
  unfold chk
  rw [List.any_eq_true]
  constructor
  · rintro ⟨l, hl⟩
    rcases mem_lines.mp hl with ⟨d, hd, t, ht, hbt, rfl⟩ | ⟨d, hd, hthr, rfl⟩
    · refine ⟨t, List.mem_range.mpr (to_lt ht), ?_⟩
      unfold hits
      simp only [Bool.and_eq_true, bne_iff_ne, decide_eq_true_eq]
      rw [reachM_iff, hbt]
      refine ⟨by omega, by omega, .inl ⟨rev d, ?_, ?_⟩⟩
      · rw [show (3 + 16 * (1 - w)) % 16 = 3 by omega]; exact tb4 d hd
      · rw [show (3 + 16 * (1 - w)) / 16 = 1 - w by omega, ← rev_wd]
        exact to_rev hw rfl hk ht
    · obtain ⟨l, hlast, h1, h2, h3⟩ := thr_iff.mp hthr
      have hmem : l ∈ lineM b w k d := List.mem_of_getLast? hlast
      refine ⟨l, List.mem_range.mpr (along_mem hmem), ?_⟩
      unfold hits
      simp only [Bool.and_eq_true, bne_iff_ne, decide_eq_true_eq]
      rw [reachM_iff, h2]
      refine ⟨h1, by omega, ?_⟩
      rcases h3 with h3 | ⟨h3, h4⟩
      · exact .inr ⟨rev d, h3, by rw [← rev_wd]; exact along_rev (tb3 d hd) hw rfl hk hmem⟩
      · refine .inl ⟨rev d, h4, ?_⟩
        rw [← rev_wd]
        refine to_rev hw rfl hk ?_
        unfold lineM at h3 hmem
        cases et : to k w (wd d) with
        | none => rw [along_none et] at hmem; simp at hmem
        | some u =>
          rw [along_some et] at h3 hmem
          split at h3
          · rename_i hu
            rw [if_pos hu] at hmem
            have : along (bp b) w (wd d) 7 u = [] := List.eq_nil_of_length_eq_zero (by simpa using h3)
            rw [this] at hmem
            rw [List.mem_singleton.mp hmem]
          · rename_i hu
            rw [if_neg hu] at hmem
            rw [List.mem_singleton.mp hmem]
  · rintro ⟨s, hs, h⟩
    unfold hits at h
    simp only [Bool.and_eq_true, bne_iff_ne, decide_eq_true_eq] at h
    obtain ⟨h1, h2, h3⟩ := h
    have hlt := getD_lt hb s
    have hs' := List.mem_range.mp hs
    have hw2 : b.getD s 0 / 16 = 1 - w := by omega
    have hk16 : b.getD s 0 % 16 < 16 := by omega
    rw [reachM_iff, hw2] at h3
    rcases h3 with ⟨d, hd, ht⟩ | ⟨d, hd, ht⟩
    · have hr : to k w (wd (rev d)) = some s := by rw [← rev_wd]; exact to_rev (by omega) (by omega) hs' ht
      rcases tb1 _ hk16 d hd with ⟨e3, hd3⟩ | ⟨e3, hd8⟩
      · exact ⟨[s], mem_lines.mpr (.inl ⟨rev d, hd3, s, hr, by omega, rfl⟩)⟩
      · have el : lineM b w k (rev d) = [s] := by
          unfold lineM
          rw [along_some hr, if_neg (show ¬ at_ (bp b) s = 0 from h1)]
        refine ⟨_, mem_lines.mpr (.inr ⟨rev d, hd8, ?_, rfl⟩)⟩
        rw [el]
        exact thr_iff.mpr ⟨s, rfl, h1, hw2, .inr ⟨rfl, by rw [rev_rev']; exact hd⟩⟩
    · obtain ⟨hd8, hdir⟩ := tb2 _ hk16 d hd
      have hr : s ∈ lineM b w k (rev d) := by unfold lineM; rw [← rev_wd]; exact along_rev hdir (by omega) (by omega) hs' ht
      refine ⟨_, mem_lines.mpr (.inr ⟨rev d, hd8, ?_, rfl⟩)⟩
      exact thr_iff.mpr ⟨s, along_stop hr h1, h1, hw2, .inl (by rw [rev_rev']; exact hd)⟩
/-! ### a move -/
structure Moved (b b' : List Nat) (w t : Nat) (S : Option Nat) : Prop where
  att : b'.getD t 0 ≠ 0 ∧ b'.getD t 0 / 16 = w
  ats : ∀ s, S = some s → b'.getD s 0 = 0 ∧ b.getD s 0 ≠ 0 ∧ b.getD s 0 / 16 = w ∧ s ≠ t
  els : ∀ u, u ≠ t → S ≠ some u → b'.getD u 0 = b.getD u 0
/-- a pin along a way: what is pinned, and all squares from the king to the threat -/
def pinD (b : List Nat) (w k : Nat) (d : Step) : Option (Nat × List Nat) := match (lineM b w k d).getLast? with
  | none => none
  | some l => if own (b.getD l 0) w = true then
      (if (lineM b w k d ++ lineM b w l d).getLast? ≠ some l ∧ thrM b w (lineM b w k d ++ lineM b w l d) d = true then some (l, lineM b w k d ++ lineM b w l d) else none) else none
theorem pin_iff {b : List Nat} {w k s : Nat} {d : Step} {full : List Nat} : pinD b w k d = some (s, full) ↔ (lineM b w k d).getLast? = some s ∧ b.getD s 0 ≠ 0 ∧ b.getD s 0 / 16 = w ∧ full = lineM b w k d ++ lineM b w s d ∧ full.getLast? ≠ some s ∧ thrM b w full d = true := by
  unfold pinD
  cases e : (lineM b w k d).getLast? with
  | none => simp
  | some l =>
    dsimp only
    constructor
    · intro h
      split at h
      · rename_i h1
        split at h
        · rename_i h2
          obtain ⟨rfl, rfl⟩ := Prod.mk.inj (Option.some.inj h)
          obtain ⟨h3, h4⟩ := own_iff.mp h1
          exact ⟨rfl, h3, h4, rfl, h2.1, h2.2⟩
        · cases h
      · cases h
    · rintro ⟨e1, h1, h2, rfl, h3, h4⟩
      obtain rfl := Option.some.inj e1
      rw [if_pos (own_iff.mpr ⟨h1, h2⟩), if_pos ⟨h3, h4⟩]
theorem thr_own {b : List Nat} {w l : Nat} {line : List Nat} {d : Step} (hw : w ≤ 1) (h : line.getLast? = some l) (ho : b.getD l 0 / 16 = w) : ¬ thrM b w line d = true := fun z => by
  obtain ⟨l', e, h1, h2, _⟩ := thr_iff.mp z
  rw [h] at e
  obtain rfl := Option.some.inj e
  omega
theorem thr_congr {b b' : List Nat} {w : Nat} {line : List Nat} {d : Step} (h : ∀ l, line.getLast? = some l → b'.getD l 0 = b.getD l 0) : thrM b' w line d = thrM b w line d := by
  unfold thrM
  cases e : line.getLast? with
  | none => rfl
  | some l => dsimp only; rw [h l e]
theorem last_app {l m : List Nat} {x : Nat} (h : m.getLast? = some x) : (l ++ m).getLast? = some x := by rw [List.getLast?_append, h]; rfl
theorem thr_moved {b b' : List Nat} {w k t : Nat} {S : Option Nat} {d : Step} (hw : w ≤ 1) (hd : d ∈ nearL 8) (hk : k < 81) (M : Moved b b' w t S) :
    thrM b' w (lineM b' w k d) d = true ↔ (thrM b w (lineM b w k d) d = true ∧ t ∉ lineM b w k d) ∨ (∃ s full, S = some s ∧ pinD b w k d = some (s, full) ∧ t ∉ full) := by
  have hdir := tb3 d hd
  by_cases ht : t ∈ lineM b w k d
  · have hl : (lineM b' w k d).getLast? = some t := along_block M.att.1 ht fun u hu hut h0 => by
      by_cases hS : S = some u
      · exact (M.ats u hS).1
      · rw [M.els u hut hS]; exact h0
    constructor
    · intro z; exact absurd z (thr_own hw hl M.att.2)
    · rintro (⟨_, z⟩ | ⟨s, full, _, hp, hn⟩)
      · exact absurd ht z
      · obtain ⟨_, _, _, rfl, _⟩ := pin_iff.mp hp
        exact absurd (List.mem_append_left _ ht) hn
  · by_cases hs : ∃ s, S = some s ∧ s ∈ lineM b w k d
    · obtain ⟨s, hS, hsl⟩ := hs
      obtain ⟨a1, a2, a3, a4⟩ := M.ats s hS
      have hlast : (lineM b w k d).getLast? = some s := along_stop hsl a2
      have hs81 : s < 81 := along_mem hsl
      have hop : lineM b' w k d = lineM b w k d ++ along (bp b') w (wd d) 8 s := along_open hdir a1 hk (phi_le hk) hlast a2 fun u hu hus => by
        rw [M.els u (fun z => ht (z ▸ hu)) (fun z => hus (Option.some.inj (hS.symm.trans z)).symm)]
        exact along_empty hu hlast hus
      have no1 : ¬ thrM b w (lineM b w k d) d = true := thr_own hw hlast a3
      by_cases hte : t ∈ lineM b w s d
      · have hl : (along (bp b') w (wd d) 8 s).getLast? = some t := along_block M.att.1 hte fun u hu hut h0 => by
          by_cases hS' : S = some u
          · exact (M.ats u hS').1
          · rw [M.els u hut hS']; exact h0
        constructor
        · intro z
          rw [hop] at z
          exact absurd z (thr_own hw (last_app hl) M.att.2)
        · rintro (⟨z, _⟩ | ⟨s', full, hS', hp, hn⟩)
          · exact absurd z no1
          · obtain rfl : s = s' := Option.some.inj (hS.symm.trans hS')
            obtain ⟨_, _, _, rfl, _⟩ := pin_iff.mp hp
            exact absurd (List.mem_append_right _ hte) hn
      · have hsame : along (bp b') w (wd d) 8 s = lineM b w s d := along_same fun u hu => by
          rw [M.els u (fun z => hte (z ▸ hu)) (fun z => along_ne hdir hs81 hu (Option.some.inj (hS.symm.trans z)).symm)]
        rw [hop, hsame]
        cases hext : (lineM b w s d).getLast? with
        | none =>
          have en : lineM b w s d = [] := List.getLast?_eq_none_iff.mp hext
          rw [en, List.append_nil]
          constructor
          · intro z
            obtain ⟨l, e, h1, _⟩ := thr_iff.mp z
            rw [hlast] at e
            obtain rfl := Option.some.inj e
            exact absurd a1 h1
          · rintro (⟨z, _⟩ | ⟨s', full, hS', hp, hn⟩)
            · exact absurd z no1
            · obtain rfl : s = s' := Option.some.inj (hS.symm.trans hS')
              obtain ⟨_, _, _, rfl, h5, _⟩ := pin_iff.mp hp
              rw [en, List.append_nil] at h5
              exact absurd hlast h5
        | some l =>
          have hlm : l ∈ lineM b w s d := List.mem_of_getLast? hext
          have hls : l ≠ s := along_ne hdir hs81 hlm
          have hfl := last_app (l := lineM b w k d) hext
          have ec : thrM b' w (lineM b w k d ++ lineM b w s d) d = thrM b w (lineM b w k d ++ lineM b w s d) d := thr_congr fun l' e => by
            rw [hfl] at e
            obtain rfl := Option.some.inj e
            exact M.els l (fun z => hte (z ▸ hlm)) (fun z => hls (Option.some.inj (hS.symm.trans z)).symm)
          rw [ec]
          constructor
          · intro z
            refine .inr ⟨s, _, hS, pin_iff.mpr ⟨hlast, a2, a3, rfl, ?_, z⟩, fun q => ?_⟩
            · rw [hfl]; exact fun q => hls (Option.some.inj q)
            · rcases List.mem_append.mp q with q | q
              · exact ht q
              · exact hte q
          · rintro (⟨z, _⟩ | ⟨s', full, hS', hp, hn⟩)
            · exact absurd z no1
            · obtain rfl : s = s' := Option.some.inj (hS.symm.trans hS')
              obtain ⟨_, _, _, rfl, _, h6⟩ := pin_iff.mp hp
              exact h6
    · have hu : ∀ u ∈ lineM b w k d, b'.getD u 0 = b.getD u 0 := fun u hu => M.els u (fun z => ht (z ▸ hu)) fun z => hs ⟨u, z, hu⟩
      have hsame : lineM b' w k d = lineM b w k d := along_same fun u h => by rw [hu u h]
      rw [hsame, thr_congr fun l e => hu l (List.mem_of_getLast? e)]
      constructor
      · intro z; exact .inl ⟨z, ht⟩
      · rintro (⟨z, _⟩ | ⟨s', full, hS', hp, hn⟩)
        · exact z
        · obtain ⟨h1, _⟩ := pin_iff.mp hp
          exact absurd ⟨s', hS', List.mem_of_getLast? h1⟩ hs
theorem chk_moved {b b' : List Nat} {w k t : Nat} {S : Option Nat} (hw : w ≤ 1) (hk : k < 81) (M : Moved b b' w t S) :
    chkL b' w k = true ↔ (∃ l ∈ linesM b w k, t ∉ l) ∨ (∃ d ∈ nearL 8, ∃ s full, S = some s ∧ pinD b w k d = some (s, full) ∧ t ∉ full) := by
  rw [chkL_iff]
  constructor
  · rintro ⟨l, hl⟩
    rcases mem_lines.mp hl with ⟨d, hd, u, hu, hbu, rfl⟩ | ⟨d, hd, hthr, rfl⟩
    · have hut : u ≠ t := fun z => by
        have := M.att.2
        rw [← z, hbu] at this
        omega
      have hS : S ≠ some u := fun z => by
        have := (M.ats u z).1
        rw [hbu] at this
        omega
      rw [M.els u hut hS] at hbu
      exact .inl ⟨[u], mem_lines.mpr (.inl ⟨d, hd, u, hu, hbu, rfl⟩), fun z => hut (List.mem_singleton.mp z).symm⟩
    · rcases (thr_moved hw hd hk M).mp hthr with ⟨h1, h2⟩ | h
      · exact .inl ⟨_, mem_lines.mpr (.inr ⟨d, hd, h1, rfl⟩), h2⟩
      · exact .inr ⟨d, hd, h⟩
  · rintro (⟨l, hl, hn⟩ | ⟨d, hd, h⟩)
    · rcases mem_lines.mp hl with ⟨d, hd, u, hu, hbu, rfl⟩ | ⟨d, hd, hthr, rfl⟩
      · have hut : u ≠ t := fun z => hn (List.mem_singleton.mpr z.symm)
        have hS : S ≠ some u := fun z => by
          have := (M.ats u z).2.2.1
          rw [hbu] at this
          omega
        refine ⟨[u], mem_lines.mpr (.inl ⟨d, hd, u, hu, ?_, rfl⟩)⟩
        rw [M.els u hut hS]; exact hbu
      · exact ⟨_, mem_lines.mpr (.inr ⟨d, hd, (thr_moved hw hd hk M).mpr (.inl ⟨hthr, hn⟩), rfl⟩)⟩
    · exact ⟨_, mem_lines.mpr (.inr ⟨d, hd, (thr_moved hw hd hk M).mpr (.inr h), rfl⟩)⟩
/-! ### squares that help -/
def helpM (b : List Nat) (w k : Nat) : List Nat := match linesM b w k with
  | [] => List.range 81
  | [l] => l
  | _ => []
theorem near8_nodup : (nearL 8).Nodup := by decide +kernel
theorem near3_two : nearL 3 = [(2, -1), (2, 1)] := by decide +kernel
theorem line_lines {b : List Nat} {w k : Nat} {d d' : Step} {t : Nat} (hk : k < 81) (hd : d ∈ nearL 8) (hd' : d' ∈ nearL 8) (h : t ∈ lineM b w k d) (h' : t ∈ lineM b w k d') : d = d' := by
  have := along_apart (tb3 d hd) (tb3 d' hd') hk h h'
  unfold wd at this
  obtain ⟨e1, e2⟩ := Prod.mk.inj this
  exact Prod.ext (by omega) e2
theorem knight_off {b : List Nat} {w k : Nat} {d d' : Step} {t : Nat} (hk : k < 81) (hd : d ∈ nearL 3) (hd' : d' ∈ nearL 8) (h : to k w (wd d) = some t) (h' : t ∈ lineM b w k d') : False := by
  obtain ⟨h1, rfl⟩ := to_iff.mp h
  obtain ⟨r1, r2⟩ := pos_row h1
  obtain ⟨n, n1, p1, p2⟩ := along_pos (tb3 d' hd') hk h'
  obtain ⟨he, hf, _⟩ := ab_dir (who := w) (tb3 d' hd')
  rw [r1] at p1
  rw [r2] at p2
  generalize ab w (wd d') = e at *
  generalize (wd d').2 = f at *
  have hA : ab w (wd d) = 2 ∨ ab w (wd d) = -2 := by
    rw [near3_two] at hd
    unfold ab wd
    rcases List.mem_cons.mp hd with rfl | hd
    · by_cases z : w = 0
      · rw [if_pos z]; exact .inr rfl
      · rw [if_neg z]; exact .inl rfl
    · rw [List.mem_singleton.mp hd]
      by_cases z : w = 0
      · rw [if_pos z]; exact .inr rfl
      · rw [if_neg z]; exact .inl rfl
  have hB : (wd d).2 = 1 ∨ (wd d).2 = -1 := by
    rw [near3_two] at hd
    rcases List.mem_cons.mp hd with rfl | hd
    · exact .inr rfl
    · rw [List.mem_singleton.mp hd]; exact .inl rfl
  generalize ab w (wd d) = e2 at *
  generalize (wd d).2 = f2 at *
  rcases hA with rfl | rfl <;> rcases hB with rfl | rfl <;> rcases he with rfl | rfl | rfl <;> rcases hf with rfl | rfl | rfl <;> omega
theorem knights_two {w k : Nat} {t : Nat} (h : to k w (wd (2, -1)) = some t) (h' : to k w (wd (2, 1)) = some t) : False := by
  obtain ⟨h1, rfl⟩ := to_iff.mp h
  obtain ⟨h2, e⟩ := to_iff.mp h'
  obtain ⟨r1, r2⟩ := pos_row h1
  obtain ⟨q1, q2⟩ := pos_row h2
  rw [e] at r2
  have a1 : (wd (2, -1)).2 = -1 := rfl
  have a2 : (wd (2, 1)).2 = 1 := rfl
  rw [q2, a1, a2] at r2
  omega
theorem fm_pair {α β : Type} {R : α → α → Prop} {R' : β → β → Prop} {f : α → Option β} : ∀ {l : List α}, (∀ a ∈ l, ∀ a' ∈ l, R a a' → ∀ x y, f a = some x → f a' = some y → R' x y) → l.Pairwise R → (l.filterMap f).Pairwise R'
  | [], _, _ => List.Pairwise.nil
  | a :: r, h, p => by
    obtain ⟨p1, p2⟩ := List.pairwise_cons.mp p
    have ih := fm_pair (R := R) (R' := R') (f := f) (l := r) (fun a1 h1 a2 h2 => h a1 (List.mem_cons_of_mem _ h1) a2 (List.mem_cons_of_mem _ h2)) p2
    rw [List.filterMap_cons]
    cases e : f a with
    | none => exact ih
    | some x =>
      refine List.pairwise_cons.mpr ⟨fun y hy => ?_, ih⟩
      obtain ⟨a', ha', ey⟩ := List.mem_filterMap.mp hy
      exact h a List.mem_cons_self a' (List.mem_cons_of_mem _ ha') (p1 a' ha') x y e ey
theorem kn_of {b : List Nat} {w k : Nat} {d : Step} {l : List Nat} (h : knOf b w k d = some l) : ∃ t, to k w (wd d) = some t ∧ l = [t] := by
  unfold knOf at h
  cases e : to k w (wd d) with
  | none => rw [e] at h; cases h
  | some t =>
    rw [e] at h
    simp only [Option.bind_some] at h
    split at h
    · exact ⟨t, rfl, (Option.some.inj h).symm⟩
    · cases h
theorem thr_of {b : List Nat} {w k : Nat} {d : Step} {l : List Nat} (h : thrOf b w k d = some l) : l = lineM b w k d := by
  unfold thrOf at h
  split at h
  · exact (Option.some.inj h).symm
  · cases h
theorem lines_apart {b : List Nat} {w k : Nat} (hk : k < 81) : (linesM b w k).Pairwise fun l m => ∀ t, t ∈ l → t ∈ m → False := by
  unfold linesM
  refine List.pairwise_append.mpr ⟨?_, ?_, ?_⟩
  · refine fm_pair (R := fun a a' => a ≠ a') (fun d hd d' hd' hne x y hx hy t ht ht' => ?_) (by rw [near3_two]; decide)
    obtain ⟨u, hu, rfl⟩ := kn_of hx
    obtain ⟨u', hu', rfl⟩ := kn_of hy
    obtain rfl := List.mem_singleton.mp ht
    obtain rfl := List.mem_singleton.mp ht'
    rw [near3_two] at hd hd'
    simp only [List.mem_cons, List.not_mem_nil, or_false] at hd hd'
    rcases hd with rfl | rfl <;> rcases hd' with rfl | rfl
    · exact hne rfl
    · exact knights_two hu hu'
    · exact knights_two hu' hu
    · exact hne rfl
  · refine fm_pair (R := fun a a' => a ≠ a') (fun d hd d' hd' hne x y hx hy t ht ht' => ?_) near8_nodup
    rw [thr_of hx] at ht
    rw [thr_of hy] at ht'
    exact hne (line_lines hk hd hd' ht ht')
  · intro l hl m hm t ht ht'
    obtain ⟨d, hd, e⟩ := List.mem_filterMap.mp hl
    obtain ⟨d', hd', e'⟩ := List.mem_filterMap.mp hm
    obtain ⟨u, hu, rfl⟩ := kn_of e
    obtain rfl := List.mem_singleton.mp ht
    rw [thr_of e'] at ht'
    exact knight_off hk hd hd' hu ht'
theorem help_iff {b : List Nat} {w k t : Nat} (hk : k < 81) (ht : t < 81) : t ∈ helpM b w k ↔ ∀ l ∈ linesM b w k, t ∈ l := by
  have ap := lines_apart (b := b) (w := w) hk
  unfold helpM
  generalize linesM b w k = L at ap
  match L, ap with
  | [], _ => simp [ht]
  | [l], _ => simp
  | l :: m :: r, ap =>
    constructor
    · intro h; simp at h
    · intro h
      obtain ⟨p1, _⟩ := List.pairwise_cons.mp ap
      exact (p1 m List.mem_cons_self t (h l List.mem_cons_self) (h m (List.mem_cons_of_mem _ List.mem_cons_self))).elim
theorem lines_sq {b : List Nat} {w k : Nat} {l : List Nat} (hk : k < 81) (hl : l ∈ linesM b w k) : l.Nodup ∧ l.length ≤ 8 ∧ ∀ t ∈ l, t < 81 := by
  rcases mem_lines.mp hl with ⟨d, hd, u, hu, _, rfl⟩ | ⟨d, hd, _, rfl⟩
  · exact ⟨by simp, by simp, fun t ht => by rw [List.mem_singleton.mp ht]; exact to_lt hu⟩
  · exact ⟨along_nodup (tb3 d hd) hk, along_len 8 k, fun t ht => along_mem ht⟩
theorem help_sq {b : List Nat} {w k : Nat} (hk : k < 81) : (helpM b w k).Nodup ∧ (helpM b w k).length ≤ 81 ∧ ∀ t ∈ helpM b w k, t < 81 := by
  have := fun l hl => lines_sq (b := b) (w := w) (l := l) hk hl
  unfold helpM
  generalize linesM b w k = L at this
  match L with
  | [] => exact ⟨List.nodup_range, by simp, fun t ht => List.mem_range.mp ht⟩
  | [l] => obtain ⟨h1, h2, h3⟩ := this l List.mem_cons_self; exact ⟨h1, by dsimp only; omega, h3⟩
  | l :: m :: r => exact ⟨List.nodup_nil, by simp, fun t ht => by simp at ht⟩
/-! ### pins -/
def pinsM (b : List Nat) (w k : Nat) : List (Nat × List Nat) := (nearL 8).filterMap (pinD b w k)
def pinGet (b : List Nat) (w k s : Nat) : Option (List Nat) := ((pinsM b w k).find? fun x => x.1 == s).map (·.2)
theorem pin_one {b : List Nat} {w k s : Nat} {d d' : Step} {f f' : List Nat} (hk : k < 81) (hd : d ∈ nearL 8) (hd' : d' ∈ nearL 8) (h : pinD b w k d = some (s, f)) (h' : pinD b w k d' = some (s, f')) : d = d' :=
  line_lines hk hd hd' (List.mem_of_getLast? (pin_iff.mp h).1) (List.mem_of_getLast? (pin_iff.mp h').1)
theorem pinGet_iff {b : List Nat} {w k s : Nat} {f : List Nat} (hk : k < 81) : pinGet b w k s = some f ↔ ∃ d ∈ nearL 8, pinD b w k d = some (s, f) := by
  unfold pinGet
  constructor
  · intro h
    obtain ⟨⟨s', f'⟩, h1, h2⟩ := Option.map_eq_some_iff.mp h
    have h3 : f' = f := h2
    subst h3
    have h4 := List.find?_some h1
    have h5 : s' = s := by simpa using h4
    subst h5
    exact List.mem_filterMap.mp (List.mem_of_find?_eq_some h1)
  · rintro ⟨d, hd, h⟩
    have hm : (s, f) ∈ pinsM b w k := List.mem_filterMap.mpr ⟨d, hd, h⟩
    cases e : (pinsM b w k).find? (fun x => x.1 == s) with
    | none =>
      have := List.find?_eq_none.mp e _ hm
      simp at this
    | some x =>
      obtain ⟨s', f'⟩ := x
      have h4 := List.find?_some e
      have h5 : s' = s := by simpa using h4
      subst h5
      obtain ⟨d', hd', h'⟩ := List.mem_filterMap.mp (List.mem_of_find?_eq_some e)
      obtain rfl := pin_one hk hd hd' h h'
      rw [h] at h'
      obtain ⟨_, rfl⟩ := Prod.mk.inj (Option.some.inj h')
      rfl
/-- **safe moves of pieces other than the king** -/
theorem safe_piece {b b' : List Nat} {w k s t : Nat} (hw : w ≤ 1) (hk : k < 81) (ht : t < 81) (M : Moved b b' w t (some s)) : chkL b' w k = false ↔ t ∈ helpM b w k ∧ ∀ f, pinGet b w k s = some f → t ∈ f := by
  rw [← Bool.not_eq_true, chk_moved hw hk M, help_iff hk ht]
  constructor
  · intro h
    refine ⟨fun l hl => ?_, fun f hf => ?_⟩
    · by_cases z : t ∈ l
      · exact z
      · exact absurd (.inl ⟨l, hl, z⟩) h
    · obtain ⟨d, hd, hp⟩ := (pinGet_iff hk).mp hf
      by_cases z : t ∈ f
      · exact z
      · exact absurd (.inr ⟨d, hd, s, f, rfl, hp, z⟩) h
  · rintro ⟨h1, h2⟩ (⟨l, hl, hn⟩ | ⟨d, hd, s', f, hS, hp, hn⟩)
    · exact hn (h1 l hl)
    · obtain rfl := Option.some.inj hS
      exact hn (h2 f ((pinGet_iff hk).mpr ⟨d, hd, hp⟩))
theorem safe_drop {b b' : List Nat} {w k t : Nat} (hw : w ≤ 1) (hk : k < 81) (ht : t < 81) (M : Moved b b' w t none) : chkL b' w k = false ↔ t ∈ helpM b w k := by
  rw [← Bool.not_eq_true, chk_moved hw hk M, help_iff hk ht]
  constructor
  · intro h l hl
    by_cases z : t ∈ l
    · exact z
    · exact absurd (.inl ⟨l, hl, z⟩) h
  · rintro h1 (⟨l, hl, hn⟩ | ⟨d, hd, s', f, hS, hp, hn⟩)
    · exact hn (h1 l hl)
    · cases hS
end Km

end

section
set_option linter.all false
set_option maxRecDepth 100000
set_option maxHeartbeats 4000000
namespace Km
open PySem PySem.Spec PyProof.Rows L2
section
variable {P : Program} {w : World} {K : PySem.W.Frag} {mg : Str → Option Value} {base : Heap}
theorem nat_of_at {b : List Nat} {i : Nat} {x : V} (h : (b.map vn)[i]? = some x) : ∃ c, b[i]? = some c ∧ x = vn c := by
  rw [List.getElem?_map] at h
  cases e : b[i]? with
  | none => rw [e] at h; cases h
  | some c => rw [e] at h; exact ⟨c, rfl, (Option.some.inj h).symm⟩
theorem ref_of_at {ps : List Addr} {i : Nat} {x : V} (h : (ps.map V.ref)[i]? = some x) : ∃ p, ps[i]? = some p ∧ x = V.ref p := by
  rw [List.getElem?_map] at h
  cases e : ps[i]? with
  | none => rw [e] at h; cases h
  | some c => rw [e] at h; exact ⟨c, rfl, (Option.some.inj h).symm⟩
theorem at_of_lt {b : List Nat} {i : Nat} (h : i < b.length) : b[i]? = some (b.getD i 0) := by
  rw [List.getD_eq_getElem?_getD, List.getElem?_eq_getElem h]; rfl
theorem ne0_of {c : Nat} (h : (!decide (vn c = V.int 0)) = true) : c ≠ 0 := fun z => by subst z; exact absurd h (by decide)
theorem eq0_of {c : Nat} (h : ¬ (!decide (vn c = V.int 0)) = true) : c = 0 := by
  by_cases z : c = 0
  · exact z
  · exact absurd (by rw [dint, decide_eq_false (by omega)]; rfl) h
def sp_belongs_to : Sp := fun vs H Q _ => ∃ c w : Nat, vs = [vn c, vn w] ∧ Q (.bl (own c w)) H
theorem ok_belongs_to (T : Txt K mg) : Fn P w K mg base "belongs_to" 2 P_belongs_to sp_belongs_to := by
  have nd := sc_belongs_to.nd
  have F_side_of := ok_side_of (P := P) (w := w) (base := base) T
  refine T.s_belongs_to.ok sc_belongs_to (fun vs H Q E h => ?_) (fun f cdv A outer s H vs Q E hr h => ?_)
  · obtain ⟨n, m, rfl, _⟩ := h; rfl
  obtain ⟨c, side, rfl, q⟩ := h
  refine ⟨_, (pss_one (ps_ret (pe_and (pe_cmpR op_ne (pv 0) pe_int (nomark _)) (pe_one (pe_cmpR op_eq (pe_fn F_side_of (hr.mono (by decide)) rfl (pa_cons (pv 0) pa_nil)) (pv 1) (nomark _)))))), ?_⟩
  refine ⟨_, rfl, rfl, _, rfl, ite2 (fun c1 => ?_) (fun c1 => ?_)⟩
  · have h0 := ne0_of c1
    refine ⟨_, rfl, c, rfl, _, rfl, rfl, qb q ?_⟩
    rw [dint, Bool.eq_iff_iff, decide_eq_true_eq, own_iff]
    omega
  · have h0 := eq0_of c1
    refine qb q ?_
    rw [h0]; rfl
def sp_squares_of (K : PySem.W.Frag) : Sp := fun vs H Q _ => ∃ (ap : Addr) (q : List Nat), vs = [.ref ap] ∧ SqL K H ap (q.map vn) ∧ q.length = 97 ∧ ∀ (r : Addr) (H' : Hp), Same H H' → H r = none → H' r = some (.lst ((q.take 81).map vn)) → Q (.ref r) H'
theorem cut_nats {q : List Nat} {a c : Nat} (h1 : a ≤ c) (h2 : c ≤ q.length) : cutV (q.map vn) (some (a : Int)) (some (c : Int)) = ((q.drop a).take (c - a)).map vn := by
  unfold cutV
  rw [HT.sIx_nat, HT.sIx_nat, List.length_map, Nat.min_eq_left (Nat.le_trans h1 h2), Nat.min_eq_left h2, ← List.map_drop, ← List.map_take]
theorem ok_squares_of (T : Txt K mg) : Fn P w K mg base "squares_of" 1 P_squares_of (sp_squares_of K) := by
  have nd := sc_squares_of.nd
  refine T.s_squares_of.ok sc_squares_of (fun vs H Q E h => ?_) (fun f cdv A outer s H vs Q E hr h => ?_)
  · obtain ⟨_, _, rfl, _⟩ := h; rfl
  obtain ⟨ap, q, rfl, hP, hlen, k⟩ := h
  refine ⟨_, (pss_one (ps_ret (pe_slice sl_list (pv 0) (po_some pe_int) (po_some (pe_gi T.c_HANDS rfl))))), ?_⟩
  refine ⟨_, rfl, _, rfl, _, rfl, ap, _, rfl, hP, fun p1 hp1 => k p1 _ (same_new hp1 _) hp1 ?_⟩
  rw [upd_same]; exact congrArg some (congrArg HO.lst (cut_nats (a := 0) (c := 81) (by decide) (by omega)))
def sp_hands_of (K : PySem.W.Frag) : Sp := fun vs H Q _ => ∃ (ap : Addr) (q : List Nat), vs = [.ref ap] ∧ SqL K H ap (q.map vn) ∧ q.length = 97 ∧ ∀ (r : Addr) (H' : Hp), Same H H' → H r = none → H' r = some (.lst (((q.drop 81).take 14).map vn)) → Q (.ref r) H'
theorem ok_hands_of (T : Txt K mg) : Fn P w K mg base "hands_of" 1 P_hands_of (sp_hands_of K) := by
  have nd := sc_hands_of.nd
  refine T.s_hands_of.ok sc_hands_of (fun vs H Q E h => ?_) (fun f cdv A outer s H vs Q E hr h => ?_)
  · obtain ⟨_, _, rfl, _⟩ := h; rfl
  obtain ⟨ap, q, rfl, hP, hlen, k⟩ := h
  refine ⟨_, (pss_one (ps_ret (pe_slice sl_list (pv 0) (po_some (pe_gi T.c_HANDS rfl)) (po_some (pe_gi T.c_TURN rfl))))), ?_⟩
  refine ⟨_, rfl, _, rfl, _, rfl, ap, _, rfl, hP, fun p1 hp1 => k p1 _ (same_new hp1 _) hp1 ?_⟩
  rw [upd_same]; exact congrArg some (congrArg HO.lst (cut_nats (a := 81) (c := 95) (by decide) (by omega)))
/-! ### lines of check -/
/-- a list of lists, each of them apart from the outer one -/
def LLs (r : Addr) (H : Hp) (rs : List Addr) (L : List (List Nat)) : Prop := Paired (fun (a : Addr) (l : List Nat) => a ≠ r ∧ H a = some (.lst (l.map vn))) rs L
theorem LLs.but {r : Addr} {H H' : Hp} {rs : List Addr} {L : List (List Nat)} (h : LLs r H rs L) (e : But r H H') : LLs r H' rs L := Paired.mapP h fun _ _ z => ⟨z.1, e _ _ z.1 z.2⟩
theorem LLs.snoc {r a : Addr} {H : Hp} {rs : List Addr} {L : List (List Nat)} {l : List Nat} (h : LLs r H rs L) (h1 : a ≠ r) (h2 : H a = some (.lst (l.map vn))) : LLs r H (rs ++ [a]) (L ++ [l]) := Paired.snoc h ⟨h1, h2⟩
theorem LLs.same {r : Addr} {H H' : Hp} {rs : List Addr} {L : List (List Nat)} (h : LLs r H rs L) (e : Same H H') : LLs r H' rs L := Paired.mapP h fun _ _ z => ⟨z.1, e _ _ z.2⟩
theorem fm_len {α β : Type} (f : α → Option β) (l : List α) (i : Nat) : ((l.take i).filterMap f).length ≤ l.length := by
  have z := List.length_filterMap_le f (l.take i)
  rw [List.length_take] at z; omega
def sp_knight_lines (K : PySem.W.Frag) : Sp := fun vs H Q _ => ∃ (ab : Addr) (b : List Nat) (k w : Nat), vs = [.ref ab, vn k, vn w] ∧ SqL K H ab (b.map vn) ∧ b.length = 81 ∧ k < 81 ∧ w ≤ 1 ∧
  ∀ (r : Addr) (rs : List Addr) (H' : Hp), Same H H' → H r = none → H' r = some (.lst (rs.map V.ref)) → LLs r H' rs ((nearL 3).filterMap (knOf b w k)) → Q (.ref r) H'
theorem ok_knight_lines (T : Txt K mg) : Fn P w K mg base "knight_lines" 2 P_knight_lines (sp_knight_lines K) := by
  have nd := sc_knight_lines.nd
  have F_near_steps := ok_near_steps (P := P) (w := w) (base := base) T
  have F_square_after := ok_square_after (P := P) (w := w) (base := base) T
  refine T.s_knight_lines.ok sc_knight_lines (fun vs H Q E h => ?_) (fun f cdv A outer s H vs Q E hr h => ?_)
  · obtain ⟨_, _, _, _, rfl, _⟩ := h; rfl
  obtain ⟨ab, b, k, side, rfl, hB, hlen, hk, hside, q⟩ := h
  refine ⟨_, (pss_cons (ps_set (i := 3) nd rfl (by first | exact Or.inl rfl | exact Or.inr rfl) (pe_lst pa_nil))
    (pss_cons (ps_for PassesOwn.never rfl (pi_tup (pe_fn F_near_steps (hr.mono (by decide)) rfl (pa_cons (pe_gi T.c_KNIGHT rfl) pa_nil))) (pg_name (i := 4) nd rfl (by first | exact Or.inl rfl | exact Or.inr rfl)) (pss_cons (ps_set (i := 5) nd rfl (by first | exact Or.inl rfl | exact Or.inr rfl) (pe_fn F_square_after (hr.mono (by decide)) rfl (pa_cons (pv 1) (pa_cons (pv 4) (pa_cons (pv 2) pa_nil)))))
    (pss_one (ps_if (PW.pt (pw_and (pt_cmpR op_ge (pv 5) pe_int (nomark _)) (pw_and1 (pt_cmpR op_eq (pe_ix ix_list (pv 0) (pv 5) (fun _ _ => rfl)) (pe_op op_add (pe_gi T.c_KNIGHT rfl) (pe_op op_mul (pe_gi T.c_SECOND rfl) (pe_op op_sub pe_int (pv 2)))) (nomark _))))) (pss_one (ps_expr (pe_bm PySem.F.plainAttrs_list PySem.F.slot_list_append PySem.F.type_list_append mt_append (pv 3) (pa_cons (pe_lst (pa_cons (pv 5) pa_nil)) pa_nil)))) pss_nil))))
    (pss_one (ps_ret (pv 3))))), ?_⟩
  refine ⟨(by show 0 ≤ sizeLine; decide), fun r hr0 => ?_⟩
  have g1 : Same H (upd H r (.lst [])) := same_new hr0 _
  refine ⟨3, rfl, by decide, fun aN H2 g2 hst => ?_⟩
  obtain ⟨ps, hps, hpair⟩ := hst
  have hr2 : H2 r = some (.lst []) := g2 _ _ upd_same
  have g12 : Same H H2 := g1.trans g2
  refine ⟨aN, rfl, ⟨_, hps⟩, for_tup (xs := ps.map V.ref) (fun i σ H' => (∃ u v, σ = [some (.ref ab), some (vn k), some (vn side), some (.ref r), u, v]) ∧ But r H2 H' ∧ ∃ rs : List Addr, H' r = some (.lst (rs.map V.ref)) ∧ LLs r H' rs (((nearL 3).take i).filterMap (knOf b side k)))
    ⟨⟨_, _, rfl⟩, fun _ _ _ z => z, [], hr2, .nil⟩ (fun i σ H' _ hP => hP.2.1.seqT hr2 hps) (fun i x σ H' hx hP => ?_) (fun σ H' hP => ?_)⟩
  · obtain ⟨⟨u, v, rfl⟩, bt, rs, hrl, hll⟩ := hP
    obtain ⟨p, hp, rfl⟩ := ref_of_at hx
    obtain ⟨d, hd, hS⟩ := paired_get hpair hp
    have g3 : Same H H' := bt.same hr0 g12
    have hrs : rs.length ≤ 8 := by
      have z := paired_len hll
      have z2 := fm_len (knOf b side k) (nearL 3) i
      have z3 := (steps_few 3 (by decide)).1
      omega
    refine ⟨_, rfl, _, rfl, _, rfl, k, side, p, d, rfl, hk, by omega, bt.seqT hr2 hS, ?_⟩
    refine ⟨_, rfl, _, _, rfl, rfl, _, rfl, ite2 (fun cc => ?_) (fun cc => iteF ?_)⟩
    · have c' : 0 ≤ aft k side d := of_decide_eq_true cc
      cases et : Ql32.to k side (wd d) with
      | none => rw [aft_none et] at c'; omega
      | some t =>
        have ea := aft_some et
        have ht := to_lt et
        rw [ea]
        refine ⟨_, rfl, _, rfl, ab, _, _, _, rfl, rfl, g3.seq hB, nat_atI (at_of_lt (by omega)), _, rfl, _, _, rfl, rfl, _, _, rfl, rfl, .inl ⟨by decide, by decide⟩, _, _, rfl, rfl, rfl, _, rfl, ite2 (fun c2 => ?_) (fun c2 => ?_)⟩
        · have c3 : decide (vn (b.getD t 0) = V.int (3 + 16 * (1 - (side : Int)))) = true := c2
          rw [dint] at c3
          have hb3 : b.getD t 0 = 3 + 16 * (1 - side) := by have := of_decide_eq_true c3; omega
          refine ⟨_, rfl, .inl ⟨rfl, _, SqL.of hrl⟩, _, rfl, (by show 1 ≤ sizeLine; decide), fun p2 hp2 => ⟨r, _, _, rfl, rfl, same_new hp2 _ _ _ hrl, small1000 (by rw [List.length_map]; omega), ?_⟩⟩
          have hne : p2 ≠ r := fun z => by subst z; rw [hp2] at hrl; cases hrl
          have bt2 : But r H' (upd (upd H' p2 (.lst [vn t])) r (.lst (rs.map V.ref ++ [V.ref p2]))) := But.upd (fun b' o _ e => same_new hp2 _ b' o e) _
          refine ⟨⟨_, _, rfl⟩, bt.trans bt2, rs ++ [p2], ?_, ?_⟩
          · rw [upd_same, List.map_append]; rfl
          · rw [take_filterMap _ hd]
            have : knOf b side k d = some [t] := by unfold knOf; rw [et, Option.bind_some, if_pos hb3]
            rw [this]
            refine (hll.but bt2).snoc hne ?_
            rw [upd_ne hne, upd_same]; rfl
        · have c3 : ¬ decide (vn (b.getD t 0) = V.int (3 + 16 * (1 - (side : Int)))) = true := c2
          rw [dint] at c3
          have hb3 : ¬ b.getD t 0 = 3 + 16 * (1 - side) := fun z => c3 (decide_eq_true (by omega))
          refine ⟨⟨_, _, rfl⟩, bt, rs, hrl, ?_⟩
          rw [take_filterMap _ hd]
          have : knOf b side k d = none := by unfold knOf; rw [et, Option.bind_some, if_neg hb3]
          rw [this]
          simpa using hll
    · have c' : ¬ 0 ≤ aft k side d := fun z => cc (decide_eq_true z)
      cases et : Ql32.to k side (wd d) with
      | some t => rw [aft_some et] at c'; omega
      | none =>
        refine ⟨⟨_, _, rfl⟩, bt, rs, hrl, ?_⟩
        rw [take_filterMap _ hd]
        have : knOf b side k d = none := by unfold knOf; rw [et]; rfl
        rw [this]
        simpa using hll
  · obtain ⟨⟨u, v, rfl⟩, bt, rs, hrl, hll⟩ := hP
    rw [List.length_map, paired_len hpair, List.take_length] at hll
    exact ⟨_, rfl, q r rs _ (bt.same hr0 g12) hr0 hrl hll⟩
theorem last_at {l : List Nat} {x : Nat} (h : l.getLast? = some x) : atI (l.map vn) (-1) = some (vn x) := by
  obtain ⟨m, rfl⟩ := List.getLast?_eq_some_iff.mp h
  rw [List.map_append]
  exact atI_last _ _
theorem last_lt {l : List Nat} {x : Nat} (h : l.getLast? = some x) (hl : ∀ y ∈ l, y < 81) : x < 81 := hl x (List.mem_of_getLast? h)
def sp_ends_in_threat (K : PySem.W.Frag) : Sp := fun vs H Q _ => ∃ (ab al st : Addr) (b line : List Nat) (d : Step) (w : Nat), vs = [.ref ab, .ref al, .ref st, vn w] ∧ SqL K H ab (b.map vn) ∧ b.length = 81 ∧ (∀ c ∈ b, c < 32) ∧ SqL K H al (line.map vn) ∧ (∀ x ∈ line, x < 81) ∧
  SqT K H st [.int d.1, .int d.2] ∧ w ≤ 1 ∧ ∀ H', Same H H' → Q (.bl (thrM b w line d)) H'
theorem ok_ends_in_threat (T : Txt K mg) : Fn P w K mg base "ends_in_threat" 3 P_ends_in_threat (sp_ends_in_threat K) := by
  have nd := sc_ends_in_threat.nd
  have F_near_steps := ok_near_steps (P := P) (w := w) (base := base) T
  have F_far_steps := ok_far_steps (P := P) (w := w) (base := base) T
  have F_kind_of := ok_kind_of (P := P) (w := w) (base := base) T
  have F_belongs_to := ok_belongs_to (P := P) (w := w) (base := base) T
  refine T.s_ends_in_threat.ok sc_ends_in_threat (fun vs H Q E h => ?_) (fun f cdv A outer s H vs Q E hr h => ?_)
  · obtain ⟨_, _, _, _, _, _, _, rfl, _⟩ := h; rfl
  obtain ⟨ab, al, st, b, line, d, side, rfl, hB, hlen, hall, hL, hL81, hS, hside, q⟩ := h
  refine ⟨_, (pss_cons (ps_if (PW.pt (pw_or (pt_cmpR op_eq (pe_callB call_len_seq rfl T.n_len PySem.boot_len (pa_cons (pv 1) pa_nil)) pe_int (nomark _)) (pw_or1 (pt_not (pt_truth (pe_fn F_belongs_to (hr.mono (by decide)) rfl (pa_cons (pe_ix ix_list (pv 0) (pe_ix ix_list (pv 1) (pe_un un_neg pe_int) (fun _ _ => rfl)) (fun _ _ => rfl)) (pa_cons (pe_op op_sub pe_int (pv 3)) pa_nil))) (fun _ => rfl)))))) (pss_one (ps_ret pe_bl)) pss_nil)
    (pss_cons (ps_set (i := 4) nd rfl (by first | exact Or.inl rfl | exact Or.inr rfl) (pe_fn F_kind_of (hr.mono (by decide)) rfl (pa_cons (pe_ix ix_list (pv 0) (pe_ix ix_list (pv 1) (pe_un un_neg pe_int) (fun _ _ => rfl)) (fun _ _ => rfl)) pa_nil)))
    (pss_cons (ps_set (i := 5) nd rfl (by first | exact Or.inl rfl | exact Or.inr rfl) (pe_tup (pa_cons (pe_ix ix_tup (pv 2) pe_int (fun _ _ => rfl)) (pa_cons (pe_un un_neg (pe_ix ix_tup (pv 2) pe_int (fun _ _ => rfl))) pa_nil))))
    (pss_one (ps_ret (pe_or (pe_cmpR (op_in_steps (hu_of hr)) (pv 5) (pe_fn F_far_steps (hr.mono (by decide)) rfl (pa_cons (pv 4) pa_nil)) rfl) (pe_one (pe_and (pe_cmpR op_eq (pe_callB call_len_seq rfl T.n_len PySem.boot_len (pa_cons (pv 1) pa_nil)) pe_int (nomark _)) (pe_one (pe_cmpR (op_in_steps (hu_of hr)) (pv 5) (pe_fn F_near_steps (hr.mono (by decide)) rfl (pa_cons (pv 4) pa_nil)) rfl)))))))))), ?_⟩
  refine ⟨_, rfl, al, _, rfl, .inl hL, rfl, _, rfl, ite2 (fun c1 => iteT (qb (q H (Same.refl H)) ?_)) (fun c1 => ?_)⟩
  · have c1' : decide (V.int (((line.map vn).length : Nat) : Int) = V.int 0) = true := c1
    rw [dint, List.length_map] at c1'
    have h0 : line = [] := List.eq_nil_of_length_eq_zero (by have := of_decide_eq_true c1'; omega)
    unfold thrM
    rw [h0]; rfl
  · have c1' : ¬ decide (V.int (((line.map vn).length : Nat) : Int) = V.int 0) = true := c1
    rw [dint, List.length_map] at c1'
    cases hlast : line.getLast? with
    | none => exact absurd (by rw [List.getLast?_eq_none_iff.mp hlast]; rfl) c1'
    | some l =>
      have hl81 := last_lt hlast hL81
      have hc32 := getD_lt hall l
      have e1 : thrM b side line d = (own (b.getD l 0) (1 - side) && (decide (Km.rev d ∈ farL (b.getD l 0 % 16)) || (line.length == 1 && decide (Km.rev d ∈ nearL (b.getD l 0 % 16))))) := by unfold thrM; rw [hlast]
      rw [e1] at q
      have es : (1 - (side : Int)) = ((1 - side : Nat) : Int) := by omega
      refine ⟨_, rfl, _, rfl, _, rfl, al, _, _, _, rfl, rfl, hL, last_at hlast, ab, _, _, _, rfl, rfl, hB, nat_atI (at_of_lt (by omega)), _, rfl, _, _, rfl, rfl, b.getD l 0, 1 - side, ?_, _, rfl, ite2 (fun c2 => qb (q H (Same.refl H)) ?_) (fun c2 => ?_)⟩
      · show [vn (b.getD l 0), V.int (1 - (side : Int))] = [vn (b.getD l 0), vn (1 - side)]
        rw [es]
      · have c2' : own (b.getD l 0) (1 - side) = false := by simpa using c2
        rw [c2']; rfl
      · have c2' : own (b.getD l 0) (1 - side) = true := by simpa using c2
        refine ⟨_, rfl, _, rfl, _, rfl, al, _, _, _, rfl, rfl, hL, last_at hlast, ab, _, _, _, rfl, rfl, hB, nat_atI (at_of_lt (by omega)), b.getD l 0, rfl, ?_⟩
        refine ⟨_, rfl, st, _, _, _, rfl, rfl, hS, rfl, _, rfl, st, _, _, _, rfl, rfl, hS, rfl, _, rfl, (by show 2 ≤ sizeLine; decide), fun p hp => ?_⟩
        have g1 : Same H (upd H p (.tup [.int d.1, .int (-d.2)])) := same_new hp _
        have hb1 : (upd H p (.tup [.int d.1, .int (-d.2)])) p = some (.tup [.int (Km.rev d).1, .int (Km.rev d).2]) := upd_same
        refine ⟨_, rfl, _, rfl, b.getD l 0 % 16, rfl, by omega, fun aF H2 g2 hst => ⟨p, aF, Km.rev d, _, rfl, rfl, SqT.of (g2 _ _ hb1), hst, _, rfl, ite2 (fun c3 => qb (q H2 (g1.trans g2)) ?_) (fun c3 => ?_)⟩⟩
        · have c3' : decide (Km.rev d ∈ farL (b.getD l 0 % 16)) = true := c3
          rw [c2', c3']; rfl
        · have c3' : decide (Km.rev d ∈ farL (b.getD l 0 % 16)) = false := Bool.eq_false_iff.mpr c3
          have g12 := g1.trans g2
          refine ⟨_, rfl, al, _, rfl, .inl (g12.seq hL), rfl, _, rfl, ite2 (fun c4 => ?_) (fun c4 => qb (q H2 g12) ?_)⟩
          · have c4' : decide (V.int (((line.map vn).length : Nat) : Int) = V.int 1) = true := c4
            rw [dint, List.length_map] at c4'
            have hl1 : line.length = 1 := by have := of_decide_eq_true c4'; omega
            refine ⟨_, rfl, _, rfl, b.getD l 0 % 16, rfl, by omega, fun aN H3 g3 hst3 => ⟨p, aN, Km.rev d, _, rfl, rfl, SqT.of (g3 _ _ (g2 _ _ hb1)), hst3, qb (q H3 (g12.trans g3)) ?_⟩⟩
            rw [c2', c3', hl1]; rfl
          · have c4' : ¬ decide (V.int (((line.map vn).length : Nat) : Int) = V.int 1) = true := c4
            have hl1 : (line.length == 1) = false := by
              rw [dint, List.length_map] at c4'
              rw [beq_eq_false_iff_ne]
              intro z
              exact c4' (decide_eq_true (by omega))
            rw [c2', c3', hl1]
            rfl
def sp_checking_lines (K : PySem.W.Frag) : Sp := fun vs H Q _ => ∃ (ab : Addr) (b : List Nat) (k w : Nat), vs = [.ref ab, vn k, vn w] ∧ SqL K H ab (b.map vn) ∧ b.length = 81 ∧ (∀ c ∈ b, c < 32) ∧ k < 81 ∧ w ≤ 1 ∧
  ∀ (r : Addr) (rs : List Addr) (H' : Hp), Same H H' → H r = none → H' r = some (.lst (rs.map V.ref)) → LLs r H' rs (linesM b w k) → Q (.ref r) H'
theorem near8_len : (nearL 8).length = 8 := by decide +kernel
theorem ok_checking_lines (T : Txt K mg) : Fn P w K mg base "checking_lines" 4 P_checking_lines (sp_checking_lines K) := by
  have nd := sc_checking_lines.nd
  have F_near_steps := ok_near_steps (P := P) (w := w) (base := base) T
  have F_knight_lines := ok_knight_lines (P := P) (w := w) (base := base) T
  have F_squares_along := ok_squares_along (P := P) (w := w) (base := base) T
  have F_ends_in_threat := ok_ends_in_threat (P := P) (w := w) (base := base) T
  refine T.s_checking_lines.ok sc_checking_lines (fun vs H Q E h => ?_) (fun f cdv A outer s H vs Q E hr h => ?_)
  · obtain ⟨_, _, _, _, rfl, _⟩ := h; rfl
  obtain ⟨ab, b, k, side, rfl, hB, hlen, hall, hk, hside, q⟩ := h
  refine ⟨_, (pss_cons (ps_set (i := 3) nd rfl (by first | exact Or.inl rfl | exact Or.inr rfl) (pe_fn F_knight_lines (hr.mono (by decide)) rfl (pa_cons (pv 0) (pa_cons (pv 1) (pa_cons (pv 2) pa_nil)))))
    (pss_cons (ps_for PassesOwn.never rfl (pi_tup (pe_fn F_near_steps (hr.mono (by decide)) rfl (pa_cons (pe_gi T.c_KING rfl) pa_nil))) (pg_name (i := 4) nd rfl (by first | exact Or.inl rfl | exact Or.inr rfl)) (pss_cons (ps_set (i := 5) nd rfl (by first | exact Or.inl rfl | exact Or.inr rfl) (pe_fn F_squares_along (hr.mono (by decide)) rfl (pa_cons (pv 0) (pa_cons (pv 1) (pa_cons (pv 4) (pa_cons (pv 2) pa_nil))))))
    (pss_one (ps_if (pt_truth (pe_fn F_ends_in_threat (hr.mono (by decide)) rfl (pa_cons (pv 0) (pa_cons (pv 5) (pa_cons (pv 4) (pa_cons (pv 2) pa_nil))))) (fun _ => rfl)) (pss_one (ps_expr (pe_bm PySem.F.plainAttrs_list PySem.F.slot_list_append PySem.F.type_list_append mt_append (pv 3) (pa_cons (pv 5) pa_nil)))) pss_nil))))
    (pss_one (ps_ret (pv 3))))), ?_⟩
  refine ⟨_, rfl, _, rfl, _, rfl, ab, b, k, side, rfl, hB, hlen, hk, hside, fun r rs1 H1 g1 hr0 hr1 hll1 => ?_⟩
  refine ⟨8, rfl, by decide, fun aN H2 g2 hst => ?_⟩
  obtain ⟨ps, hps, hpair⟩ := hst
  have hr2 := g2 _ _ hr1
  have g12 : Same H H2 := g1.trans g2
  have hkl : ((nearL 3).filterMap (knOf b side k)).length ≤ 8 := by
    have z2 := List.length_filterMap_le (knOf b side k) (nearL 3)
    have z3 := (steps_few 3 (by decide)).1
    omega
  refine ⟨aN, rfl, ⟨_, hps⟩, for_tup (xs := ps.map V.ref) (fun i σ H' => (∃ u v, σ = [some (.ref ab), some (vn k), some (vn side), some (.ref r), u, v]) ∧ But r H2 H' ∧ ∃ rs : List Addr, H' r = some (.lst (rs.map V.ref)) ∧ LLs r H' rs ((nearL 3).filterMap (knOf b side k) ++ ((nearL 8).take i).filterMap (thrOf b side k)))
    ⟨⟨_, _, rfl⟩, fun _ _ _ z => z, rs1, hr2, by simpa using hll1.same g2⟩ (fun i σ H' _ hP => hP.2.1.seqT hr2 hps) (fun i x σ H' hx hP => ?_) (fun σ H' hP => ?_)⟩
  · obtain ⟨⟨u, v, rfl⟩, bt, rs, hrl, hll⟩ := hP
    obtain ⟨p, hp, rfl⟩ := ref_of_at hx
    obtain ⟨d, hd, hS⟩ := paired_get hpair hp
    have g3 : Same H H' := bt.same hr0 g12
    have hrs : rs.length ≤ 16 := by
      have z := paired_len hll
      have z2 := fm_len (thrOf b side k) (nearL 8) i
      rw [near8_len] at z2
      rw [List.length_append] at z
      omega
    have hdm : d ∈ nearL 8 := List.mem_of_getElem? hd
    refine ⟨_, rfl, _, rfl, _, rfl, _, rfl, ab, b, k, side, p, d, rfl, g3.seq hB, hlen, hk, by omega, bt.seqT hr2 hS, tb3 d hdm, fun al H5 g5 hal0 hal => ?_⟩
    have g35 := g3.trans g5
    have hS5 := g5.seqT (bt.seqT hr2 hS)
    refine ⟨_, rfl, _, rfl, _, rfl, _, rfl, ab, al, p, b, _, d, side, rfl, g35.seq hB, hlen, hall, SqL.of hal, fun x hx => along_mem hx, hS5, hside, fun H6 g6 => ⟨_, rfl, ite2 (fun c1 => ?_) (fun c1 => ?_)⟩⟩
    · have c1' : thrM b side (lineM b side k d) d = true := c1
      have hr6 := g6 _ _ (g5 _ _ hrl)
      have hal6 := g6 _ _ hal
      refine ⟨_, rfl, .inl ⟨rfl, _, SqL.of hr6⟩, _, rfl, r, _, _, rfl, rfl, hr6, small1000 (by rw [List.length_map]; omega), ?_⟩
      have hne : al ≠ r := fun z => by subst z; rw [hal0] at hrl; cases hrl
      have bt2 : But r H' (upd H6 r (.lst (rs.map V.ref ++ [V.ref al]))) := But.upd (fun b' o _ e => g6 _ _ (g5 _ _ e)) _
      refine ⟨⟨_, _, rfl⟩, bt.trans bt2, rs ++ [al], ?_, ?_⟩
      · rw [upd_same, List.map_append]; rfl
      · rw [take_filterMap _ hd]
        have : thrOf b side k d = some (lineM b side k d) := by unfold thrOf; rw [if_pos c1']
        rw [this, ← List.append_assoc]
        refine (hll.but bt2).snoc hne ?_
        rw [upd_ne hne, hal6]; rfl
    · have c1' : ¬ thrM b side (lineM b side k d) d = true := c1
      have bt2 : But r H' H6 := fun b' o _ e => g6 _ _ (g5 _ _ e)
      refine ⟨⟨_, _, rfl⟩, bt.trans bt2, rs, g6 _ _ (g5 _ _ hrl), ?_⟩
      rw [take_filterMap _ hd]
      have : thrOf b side k d = none := by unfold thrOf; rw [if_neg c1']
      rw [this]
      simpa using hll.but bt2
  · obtain ⟨⟨u, v, rfl⟩, bt, rs, hrl, hll⟩ := hP
    rw [List.length_map, paired_len hpair, List.take_length] at hll
    exact ⟨_, rfl, q r rs _ (bt.same hr0 g12) hr0 hrl hll⟩
/-- squares.index(king) -/
theorem king_ix {b : List Nat} {side j : Nat} (hno : ∀ m, m < j → ¬ b[m]? = some (8 + 16 * side)) : ∀ (m : Nat) (z : V), m < j → (b.map vn)[m]? = some z → eqV z (.int (8 + 16 * (side : Int))) = false := by
  intro m z hm hz
  obtain ⟨c, hc, rfl⟩ := nat_of_at hz
  show (((c : Nat) : Int) == (8 + 16 * (side : Int))) = false
  rw [beq_eq_false_iff_ne]
  intro e
  exact hno m hm (by rw [hc]; exact congrArg some (by omega))
theorem king_eq (side : Nat) : eqV (vn (8 + 16 * side)) (.int (8 + 16 * (side : Int))) = true := by
  show ((((8 + 16 * side : Nat) : Int)) == (8 + 16 * (side : Int))) = true
  rw [beq_iff_eq]; omega
def sp_in_check (K : PySem.W.Frag) : Sp := fun vs H Q _ => ∃ (ab : Addr) (b : List Nat) (side j : Nat), vs = [.ref ab, vn side] ∧ SqL K H ab (b.map vn) ∧ b.length = 81 ∧ side < 2 ∧ (∀ c ∈ b, c < 32) ∧ b[j]? = some (8 + 16 * side) ∧
  (∀ m, m < j → ¬ b[m]? = some (8 + 16 * side)) ∧ ∀ H', Same H H' → Q (.bl (chk b side j)) H'
theorem ok_in_check (T : Txt K mg) : Fn P w K mg base "in_check" 5 P_in_check (sp_in_check K) := by
  have nd := sc_in_check.nd
  have F_checking_lines := ok_checking_lines (P := P) (w := w) (base := base) T
  refine T.s_in_check.ok sc_in_check (fun vs H Q E h => ?_) (fun f cdv A outer s H vs Q E hr h => ?_)
  · obtain ⟨_, _, _, _, rfl, _⟩ := h; rfl
  obtain ⟨ab, b, side, j, rfl, hB, hlen, hside, hall, hj, hno, q⟩ := h
  have hj81 : j < 81 := by have := (List.getElem?_eq_some_iff.mp hj).1; omega
  refine ⟨_, (pss_cons (ps_set (i := 2) nd rfl (by first | exact Or.inl rfl | exact Or.inr rfl) (pe_bm PySem.F.plainAttrs_list PySem.F.slot_list_index PySem.F.type_list_index mt_index (pv 0) (pa_cons (pe_op op_add (pe_gi T.c_KING rfl) (pe_op op_mul (pe_gi T.c_SECOND rfl) (pv 1))) pa_nil)))
    (pss_one (ps_ret (pe_cmpR op_gt (pe_callB call_len_seq rfl T.n_len PySem.boot_len (pa_cons (pe_fn F_checking_lines (hr.mono (by decide)) rfl (pa_cons (pv 0) (pa_cons (pv 2) (pa_cons (pv 1) pa_nil)))) pa_nil)) pe_int (nomark _))))), ?_⟩
  refine ⟨_, rfl, .inl ⟨rfl, _, hB⟩, _, rfl, _, _, rfl, rfl, .inl ⟨by decide, by decide⟩, _, _, rfl, rfl, ab, _, _, j, vn (8 + 16 * side), rfl, rfl, hB, rfl, flat_nats b, nat_at hj, king_eq side, king_ix hno, ?_⟩
  refine ⟨_, rfl, _, rfl, _, rfl, ab, b, j, side, rfl, hB, hlen, hall, hj81, by omega, fun r rs H1 g1 hr0 hr1 hll => ?_⟩
  refine ⟨r, _, rfl, .inl (SqL.of hr1), _, _, rfl, rfl, qb (q H1 g1) ?_⟩
  rw [← chk_lines (by omega) hj81 hall]
  unfold chkL
  rw [List.length_map, paired_len hll]
  exact decide_eq_decide.mpr ⟨fun z => by omega, fun z => by omega⟩
/-! ### the rules -/
def sp_pieces_are_known (K : PySem.W.Frag) : Sp := fun vs H Q _ => ∃ (ab : Addr) (b : List Nat), vs = [.ref ab] ∧ SqL K H ab (b.map vn) ∧ b.length = 81 ∧ ∀ H', Same H H' → Q (.bl (b.all fun c => c == 0 || isPc c)) H'
theorem ok_pieces_are_known (T : Txt K mg) : Fn P w K mg base "pieces_are_known" 2 P_pieces_are_known (sp_pieces_are_known K) := by
  have nd := sc_pieces_are_known.nd
  have F_is_piece := ok_is_piece (P := P) (w := w) (base := base) T
  refine T.s_pieces_are_known.ok sc_pieces_are_known (fun vs H Q E h => ?_) (fun f cdv A outer s H vs Q E hr h => ?_)
  · obtain ⟨_, _, rfl, _⟩ := h; rfl
  obtain ⟨ab, b, rfl, hB, hlen, q⟩ := h
  refine ⟨_, (pss_one (ps_ret (pe_callB (cr_all rfl) rfl T.n_all boot_all (pa_cons (pe_lc rfl nd (pi_list (pv 0)) (blk_of (own := [("piece", 1)]) (by with_unfolding_all rfl)) (fun _ _ _ _ _ => (pg_name (i := 1) nd rfl (by first | exact Or.inl rfl | exact Or.inr rfl))) (fun _ _ _ _ _ => pts_nil) (fun _ _ _ _ _ => (pe_or (pe_cmpR op_eq (pv 1) pe_int (nomark _)) (pe_one (pe_fn F_is_piece (hr.mono (by decide)) rfl (pa_cons (pv 1) pa_nil)))))) pa_nil)))), ?_⟩
  refine ⟨_, rfl, ab, rfl, ⟨_, hB⟩, lc_gen (J := Itl K ab) (n := b.length) (fun i => some (.bl (b.getD i 0 == 0 || isPc (b.getD i 0)))) (by omega) (fun i H' hi sm => ?_) (fun H' sm => ⟨_, sm.seq hB, by rw [List.length_map]; exact Nat.le_refl _⟩) (fun i x H2 H3 K1 K0 hi sm hy => ?_) (fun D H' sm hD hl => ?_)⟩
  · exact ⟨_, _, sm.seq hB, nat_at (List.getElem?_eq_getElem hi)⟩
  · obtain ⟨rfl, hx⟩ := hy
    obtain ⟨c, hc, rfl⟩ := nat_of_at (hx _ (sm.seq hB))
    have hcD := getD_of hc
    refine ⟨Same.refl _, fun h1 h0 => ⟨rfl, ?_⟩⟩
    rw [hcD] at h1
    refine iteT (B := K0 H3) ⟨_, rfl, rfl, _, rfl, ite2 (fun c1 => ?_) (fun c1 => ?_)⟩
    · have c1' : decide (vn c = V.int 0) = true := c1
      rw [dint] at c1'
      have hc0 : c = 0 := by have := of_decide_eq_true c1'; omega
      exact h1 _ _ (Same.refl _) (by rw [hc0]; rfl)
    · have c1' : ¬ decide (vn c = V.int 0) = true := c1
      rw [dint] at c1'
      have hc0 : c ≠ 0 := fun z => c1' (by rw [z]; rfl)
      exact ⟨_, rfl, c, rfl, h1 _ _ (Same.refl _) (by simp [hc0])⟩
  · refine ⟨D, b.map (fun c => c == 0 || isPc c), rfl, SqL.of ?_, qb (q _ sm) ?_⟩
    · rw [hl, range_some, List.map_map, ← map_range b _ 0]
      rfl
    · simp [List.all_map, Function.comp_def]
end
end Km

end

section
set_option linter.all false
set_option maxRecDepth 100000
set_option maxHeartbeats 4000000
namespace Km
open PySem PySem.Spec PyProof.Rows L2
section
variable {P : Program} {w : World} {K : PySem.W.Frag} {mg : Str → Option Value} {base : Heap}
def kings (b : List Nat) : Bool := b.count 8 == 1 && b.count 24 == 1
def sp_kings_are_there (K : PySem.W.Frag) : Sp := fun vs H Q _ => ∃ (ab : Addr) (b : List Nat), vs = [.ref ab] ∧ SqL K H ab (b.map vn) ∧ Q (.bl (kings b)) H
theorem dcount (b : List Nat) (k : Nat) : decide (V.int (((b.map vn).countP (fun z => eqV z (vn k)) : Nat) : Int) = V.int 1) = (b.count k == 1) := by
  rw [dint, countP_nats, Bool.eq_iff_iff, decide_eq_true_eq, beq_iff_eq]; omega
theorem ok_kings_are_there (T : Txt K mg) : Fn P w K mg base "kings_are_there" 1 P_kings_are_there (sp_kings_are_there K) := by
  have nd := sc_kings_are_there.nd
  refine T.s_kings_are_there.ok sc_kings_are_there (fun vs H Q E h => ?_) (fun f cdv A outer s H vs Q E hr h => ?_)
  · obtain ⟨_, _, rfl, _⟩ := h; rfl
  obtain ⟨ab, b, rfl, hB, q⟩ := h
  refine ⟨_, (pss_one (ps_ret (pe_and (pe_cmpR op_eq (pe_bm PySem.F.plainAttrs_list PySem.F.slot_list_count PySem.F.type_list_count mt_lcount (pv 0) (pa_cons (pe_gi T.c_KING rfl) pa_nil)) pe_int (nomark _)) (pe_one (pe_cmpR op_eq (pe_bm PySem.F.plainAttrs_list PySem.F.slot_list_count PySem.F.type_list_count mt_lcount (pv 0) (pa_cons (pe_op op_add (pe_gi T.c_KING rfl) (pe_gi T.c_SECOND rfl)) pa_nil)) pe_int (nomark _)))))), ?_⟩
  refine ⟨_, rfl, .inl ⟨rfl, _, hB⟩, ab, _, _, rfl, rfl, hB, rfl, flat_nats b, rfl, _, rfl, ite2 (fun c => ?_) (fun c => ?_)⟩
  · have c' : (b.count 8 == 1) = true := (dcount b 8).symm.trans c
    refine ⟨_, rfl, .inl ⟨rfl, _, hB⟩, _, _, rfl, rfl, ab, _, _, rfl, rfl, hB, rfl, flat_nats b, rfl, qb q ?_⟩
    unfold kings
    rw [c', Bool.true_and]
    exact dcount b 24
  · have c' : ¬ (b.count 8 == 1) = true := fun z => c ((dcount b 8).trans z)
    refine qb q ?_
    unfold kings
    rw [Bool.eq_false_iff.mpr c']; rfl
theorem lt1 (d : Nat) : decide ((d : Int) < 1) = (d == 0) := by rw [Bool.eq_iff_iff, decide_eq_true_eq, beq_iff_eq]; omega
def nev (c s : Nat) : Bool := Ql32.stuck (c % 16) (c / 16) s
def sp_never_moves : Sp := fun vs H Q _ => ∃ c s : Nat, vs = [vn c, vn s] ∧ s < 81 ∧ ∀ H', Same H H' → Q (.bl (nev c s)) H'
theorem ok_never_moves (T : Txt K mg) : Fn P w K mg base "never_moves" 2 P_never_moves sp_never_moves := by
  have nd := sc_never_moves.nd
  have F_side_of := ok_side_of (P := P) (w := w) (base := base) T
  have F_kind_of := ok_kind_of (P := P) (w := w) (base := base) T
  have F_rows_ahead := ok_rows_ahead (P := P) (w := w) (base := base) T
  refine T.s_never_moves.ok sc_never_moves (fun vs H Q E h => ?_) (fun f cdv A outer s H vs Q E hr h => ?_)
  · obtain ⟨_, _, rfl, _⟩ := h; rfl
  obtain ⟨c, n, rfl, hn, q⟩ := h
  refine ⟨_, (pss_cons (ps_set (i := 2) nd rfl (by first | exact Or.inl rfl | exact Or.inr rfl) (pe_fn F_rows_ahead (hr.mono (by decide)) rfl (pa_cons (pv 1) (pa_cons (pe_fn F_side_of (hr.mono (by decide)) rfl (pa_cons (pv 0) pa_nil)) pa_nil))))
    (pss_cons (ps_set (i := 3) nd rfl (by first | exact Or.inl rfl | exact Or.inr rfl) (pe_fn F_kind_of (hr.mono (by decide)) rfl (pa_cons (pv 0) pa_nil)))
    (pss_cons (ps_if (pt_cmpR op_in_seq (pv 3) (pe_tup (pa_cons (pe_gi T.c_PAWN rfl) (pa_cons (pe_gi T.c_LANCE rfl) pa_nil))) rfl) (pss_one (ps_ret (pe_cmpR op_lt (pv 2) pe_int (nomark _)))) pss_nil)
    (pss_one (ps_ret (pe_and (pe_cmpR op_eq (pv 3) (pe_gi T.c_KNIGHT rfl) (nomark _)) (pe_one (pe_cmpR op_lt (pv 2) pe_int (nomark _))))))))), ?_⟩
  refine ⟨_, rfl, _, rfl, c, rfl, n, c / 16, rfl, hn, ?_⟩
  refine ⟨_, rfl, c, rfl, ?_⟩
  refine ⟨_, rfl, (by show 2 ≤ sizeLine; decide), fun p hp => ⟨p, _, rfl, .inr (SqT.of upd_same), rfl, rfl, _, rfl, ite2 (fun c1 => ?_) (fun c1 => ?_)⟩⟩
  · have c1' : inV (vn (c % 16)) ([1, 2].map vn) = true := c1
    rw [inV_nats] at c1'
    have hm : c % 16 = 1 ∨ c % 16 = 2 := by simpa using c1'
    refine ⟨_, rfl, _, _, rfl, rfl, qb (q _ (same_new hp _)) ?_⟩
    unfold nev Ql32.stuck
    generalize Ql32.depth (c / 16) n = dd
    rcases hm with z | z
    · rw [z]; simp; exact lt1 dd
    · rw [z]; simp; exact lt1 dd
  · have c1' : ¬ inV (vn (c % 16)) ([1, 2].map vn) = true := c1
    rw [inV_nats] at c1'
    have hm : c % 16 ≠ 1 ∧ c % 16 ≠ 2 := by simpa using c1'
    refine ⟨_, rfl, rfl, _, rfl, ite2 (fun c2 => ⟨_, rfl, _, _, rfl, rfl, qb (q _ (same_new hp _)) ?_⟩) (fun c2 => qb (q _ (same_new hp _)) ?_)⟩
    · have c2' : decide (vn (c % 16) = V.int 3) = true := c2
      rw [dint] at c2'
      have z : c % 16 = 3 := by have := of_decide_eq_true c2'; omega
      unfold nev Ql32.stuck
      generalize Ql32.depth (c / 16) n = dd
      rw [z]; simp; omega
    · have c2' : ¬ decide (vn (c % 16) = V.int 3) = true := c2
      rw [dint] at c2'
      have z : c % 16 ≠ 3 := fun e => c2' (decide_eq_true (by omega))
      unfold nev Ql32.stuck
      simp [hm.1, hm.2, z]
def stuckAt (b : List Nat) (s : Nat) : Bool := b.getD s 0 != 0 && nev (b.getD s 0) s
def sp_no_piece_is_stuck (K : PySem.W.Frag) : Sp := fun vs H Q _ => ∃ (ab : Addr) (b : List Nat), vs = [.ref ab] ∧ SqL K H ab (b.map vn) ∧ b.length = 81 ∧ ∀ H', Same H H' → Q (.bl (!((List.range 81).any (stuckAt b)))) H'
theorem ok_no_piece_is_stuck (T : Txt K mg) : Fn P w K mg base "no_piece_is_stuck" 3 P_no_piece_is_stuck (sp_no_piece_is_stuck K) := by
  have nd := sc_no_piece_is_stuck.nd
  have F_never_moves := ok_never_moves (P := P) (w := w) (base := base) T
  refine T.s_no_piece_is_stuck.ok sc_no_piece_is_stuck (fun vs H Q E h => ?_) (fun f cdv A outer s H vs Q E hr h => ?_)
  · obtain ⟨_, _, rfl, _⟩ := h; rfl
  obtain ⟨ab, b, rfl, hB, hlen, q⟩ := h
  refine ⟨_, (pss_one (ps_ret (pe_not (pe_callB (cr_any rfl) rfl T.n_any boot_any (pa_cons (pe_lc rfl nd (pi_enum rfl T.n_enumerate (pa_cons (pv 0) pa_nil)) (blk_of (own := [("square", 1), ("piece", 2)]) (by with_unfolding_all rfl)) (fun _ _ _ _ _ => (pg_tupK (K := K) (n := 2) rfl rfl (pgs_cons (pg_name (i := 1) nd rfl (by first | exact Or.inl rfl | exact Or.inr rfl)) (pgs_cons (pg_name (i := 2) nd rfl (by first | exact Or.inl rfl | exact Or.inr rfl)) pgs_nil)))) (fun _ _ _ _ _ => pts_nil) (fun _ _ _ _ _ => (pe_and (pe_cmpR op_ne (pv 2) pe_int (nomark _)) (pe_one (pe_fn F_never_moves (hr.mono (by decide)) rfl (pa_cons (pv 2) (pa_cons (pv 1) pa_nil))))))) pa_nil))))), ?_⟩
  refine ⟨_, rfl, ab, _, rfl, hB, lc_gen (J := Ite K ab) (n := b.length) (fun i => some (.bl (stuckAt b i))) (by omega) (fun i H' hi sm => ?_) (fun H' sm => ⟨_, sm.seq hB, by rw [List.length_map]; exact Nat.le_refl _⟩) (fun i x H2 H3 K1 K0 hi sm hy => ?_) (fun D H' sm hD hl => ?_)⟩
  · exact ⟨_, _, sm.seq hB, nat_at (List.getElem?_eq_getElem hi)⟩
  · obtain ⟨T, x', rfl, hT, rfl, hx⟩ := hy
    obtain ⟨c, hc, rfl⟩ := nat_of_at (hx _ (sm.seq hB))
    have hcD := getD_of hc
    refine ⟨same_new hT _, fun h1 h0 => ⟨T, _, rfl, SqT.of upd_same, rfl, _, _, rfl, _, _, rfl, rfl, rfl, ?_⟩⟩
    have e : stuckAt b i = (c != 0 && nev c i) := by unfold stuckAt; rw [hcD]
    rw [e] at h1
    refine iteT (B := K0 (upd H2 T (.tup [vn i, vn c]))) ⟨_, rfl, rfl, _, rfl, ite2 (fun c1 => ?_) (fun c1 => ?_)⟩
    · have c1' : (!decide (vn c = V.int 0)) = true := c1
      rw [dint] at c1'
      have hc0 : c ≠ 0 := fun z => by subst z; exact absurd c1' (by decide)
      exact ⟨_, rfl, _, rfl, c, i, rfl, by omega, fun H' s' => h1 _ _ s' (by simp [hc0])⟩
    · have c1' : ¬ (!decide (vn c = V.int 0)) = true := c1
      rw [dint] at c1'
      have hc0 : c = 0 := by
        by_cases z : c = 0
        · exact z
        · exact absurd (by rw [decide_eq_false (by omega)]; rfl) c1'
      exact h1 _ _ (Same.refl _) (by simp [hc0])
  · refine ⟨D, (List.range b.length).map (stuckAt b), rfl, SqL.of ?_, _, rfl, qb (q _ sm) ?_⟩
    · rw [hl, range_some, List.map_map]; rfl
    · rw [hlen]; simp [List.any_map, Function.comp_def]
/-! ### two pawns in a column -/
theorem cutBy_map {α β : Type} (f : α → β) (xs : List α) (lo hi st : Option Int) : cutBy (xs.map f) lo hi st = (cutBy xs lo hi st).map f := by
  unfold cutBy
  rw [List.length_map, List.map_filterMap]
  congr 1
  funext i
  rw [List.getElem?_map]
def colOf (b : List Nat) (col : Nat) : List Nat := cutBy b (some (col : Int)) (some 81) (some 9)
def colOk (b : List Nat) (col : Nat) : Bool := decide ((colOf b col).count 1 ≤ 1) && decide ((colOf b col).count 17 ≤ 1)
theorem colOf_len (b : List Nat) {col : Nat} (h : col < 9) (hb : b.length = 81) : (colOf b col).length ≤ 9 := by
  unfold colOf cutBy
  refine Nat.le_trans (List.length_filterMap_le _ _) ?_
  rw [hb]
  revert col; decide
def sp_no_column_has_two_pawns (K : PySem.W.Frag) : Sp := fun vs H Q _ => ∃ (ab : Addr) (b : List Nat), vs = [.ref ab] ∧ SqL K H ab (b.map vn) ∧ b.length = 81 ∧ ∀ H', Same H H' → Q (.bl ((List.range 9).all (colOk b))) H'
theorem ok_no_column_has_two_pawns (T : Txt K mg) : Fn P w K mg base "no_column_has_two_pawns" 1 P_no_column_has_two_pawns (sp_no_column_has_two_pawns K) := by
  have nd := sc_no_column_has_two_pawns.nd
  refine T.s_no_column_has_two_pawns.ok sc_no_column_has_two_pawns (fun vs H Q E h => ?_) (fun f cdv A outer s H vs Q E hr h => ?_)
  · obtain ⟨_, _, rfl, _⟩ := h; rfl
  obtain ⟨ab, b, rfl, hB, hlen, q⟩ := h
  refine ⟨_, (pss_cons (ps_for PassesOwn.never rfl (pi_range1 rfl T.n_range (pa_cons pe_int pa_nil)) (pg_name (i := 1) nd rfl (by first | exact Or.inl rfl | exact Or.inr rfl)) (pss_cons (ps_set (i := 2) nd rfl (by first | exact Or.inl rfl | exact Or.inr rfl) (pe_sliceS (pv 0) (po_some (pv 1)) (po_some pe_int) pe_int))
    (pss_one (ps_if (PW.pt (pw_or (pt_cmpR op_gt (pe_bm PySem.F.plainAttrs_list PySem.F.slot_list_count PySem.F.type_list_count mt_lcount (pv 2) (pa_cons (pe_gi T.c_PAWN rfl) pa_nil)) pe_int (nomark _)) (pw_or1 (pt_cmpR op_gt (pe_bm PySem.F.plainAttrs_list PySem.F.slot_list_count PySem.F.type_list_count mt_lcount (pv 2) (pa_cons (pe_op op_add (pe_gi T.c_PAWN rfl) (pe_gi T.c_SECOND rfl)) pa_nil)) pe_int (nomark _))))) (pss_one (ps_ret pe_bl)) pss_nil))))
    (pss_one (ps_ret pe_bl))), ?_⟩
  refine ⟨9, rfl, by decide, by decide, for_range (n := 9) (fun i σ H' => (∃ u v, σ = [some (.ref ab), u, v]) ∧ Same H H' ∧ ∀ s, s < i → colOk b s = true)
    ⟨⟨_, _, rfl⟩, Same.refl H, fun s hs => absurd hs (Nat.not_lt_zero _)⟩ (fun i σ H' hi hP => ?_) (fun σ H' hP => ?_)⟩
  · obtain ⟨⟨u, v, rfl⟩, sm, hf⟩ := hP
    have ei : (0 : Int) + (i : Int) = (i : Int) := Int.zero_add _
    rw [ei]
    have hcl := colOf_len b hi hlen
    refine ⟨_, rfl, _, rfl, _, rfl, _, rfl, _, rfl, ab, _, rfl, sm.seq hB, by decide, small (by rw [cutBy_map, List.length_map]; exact Nat.le_trans hcl (by decide)), fun p hp => ?_⟩
    have g2 : Same H (upd H' p (.lst (cutBy (b.map vn) (some (i : Int)) (some 81) (some 9)))) := sm.trans (same_new hp _)
    have hst : (upd H' p (.lst (cutBy (b.map vn) (some (i : Int)) (some 81) (some 9)))) p = some (.lst ((colOf b i).map vn)) := by rw [upd_same, cutBy_map]; rfl
    have bad : colOk b i = false → Q (.bl false) (upd H' p (.lst (cutBy (b.map vn) (some (i : Int)) (some 81) (some 9)))) := fun z => by
      refine qb (q _ g2) (Bool.eq_false_iff.mpr fun z2 => ?_).symm
      rw [List.all_eq_true.mp z2 i (List.mem_range.mpr hi)] at z
      cases z
    refine ⟨_, rfl, .inl ⟨rfl, _, SqL.of hst⟩, p, _, _, rfl, rfl, SqL.of hst, rfl, flat_nats _, _, _, rfl, rfl, _, rfl, ite2 (fun c1 => iteT (bad ?_)) (fun c1 => ?_)⟩
    · have c1' : (1 : Int) < ((((colOf b i).map vn).countP (fun z => eqV z (vn 1)) : Nat) : Int) := of_decide_eq_true c1
      rw [countP_nats] at c1'
      unfold colOk
      rw [decide_eq_false (by omega)]; rfl
    · have c1' : ¬ (1 : Int) < ((((colOf b i).map vn).countP (fun z => eqV z (vn 1)) : Nat) : Int) := fun z => c1 (decide_eq_true z)
      rw [countP_nats] at c1'
      refine ⟨_, rfl, .inl ⟨rfl, _, SqL.of hst⟩, _, _, rfl, rfl, p, _, _, rfl, rfl, SqL.of hst, rfl, flat_nats _, _, _, rfl, rfl, _, rfl, ite2 (fun c2 => bad ?_) (fun c2 => ?_)⟩
      · have c2' : (1 : Int) < ((((colOf b i).map vn).countP (fun z => eqV z (vn 17)) : Nat) : Int) := of_decide_eq_true c2
        rw [countP_nats] at c2'
        unfold colOk
        rw [decide_eq_false (p := (colOf b i).count 17 ≤ 1) (by omega), Bool.and_false]
      · have c2' : ¬ (1 : Int) < ((((colOf b i).map vn).countP (fun z => eqV z (vn 17)) : Nat) : Int) := fun z => c2 (decide_eq_true z)
        rw [countP_nats] at c2'
        refine ⟨⟨_, _, rfl⟩, g2, fun s hs => ?_⟩
        rcases Nat.lt_succ_iff_lt_or_eq.mp hs with z | z
        · exact hf s z
        · rw [z]; unfold colOk
          rw [decide_eq_true (by omega), decide_eq_true (by omega)]; rfl
  · obtain ⟨⟨u, v, rfl⟩, sm, hf⟩ := hP
    refine qb (q H' sm) ?_
    exact (List.all_eq_true.mpr fun i hi => hf i (List.mem_range.mp hi)).symm
def sp_hand_place : Sp := fun vs H Q _ => ∃ k side : Nat, vs = [vn k, vn side] ∧ 1 ≤ k ∧ Q (vn (7 * side + (k - 1))) H
theorem ok_hand_place (T : Txt K mg) : Fn P w K mg base "hand_place" 1 P_hand_place sp_hand_place := by
  have nd := sc_hand_place.nd
  refine T.s_hand_place.ok sc_hand_place (fun vs H Q E h => ?_) (fun f cdv A outer s H vs Q E hr h => ?_)
  · obtain ⟨n, m, rfl, _⟩ := h; rfl
  obtain ⟨k, side, rfl, hk, q⟩ := h
  refine ⟨_, (pss_one (ps_ret (pe_op op_sub (pe_op op_add (pe_op op_mul pe_int (pv 1)) (pv 0)) pe_int))), ?_⟩
  exact ⟨_, rfl, _, _, rfl, rfl, .inl ⟨by decide, by decide⟩, _, rfl, _, _, rfl, rfl, _, _, rfl, rfl, qi q (by omega)⟩
end
end Km

end

section
set_option linter.all false
set_option maxRecDepth 100000
set_option maxHeartbeats 4000000
namespace Km
open PySem PySem.Spec PyProof.Rows L2
section
variable {P : Program} {w : World} {K : PySem.W.Frag} {mg : Str → Option Value} {base : Heap}
/-! ### how many of each kind -/
def bump (cs : List Nat) (k a : Nat) : List Nat := cs.set k (cs.getD k 0 + a)
theorem bump_len (cs : List Nat) (k a : Nat) : (bump cs k a).length = cs.length := List.length_set
def cnt1 (l : List Nat) : List Nat := l.foldl (fun cs c => if c = 0 then cs else bump cs ((c - 1) % 8 + 1) 1) (List.replicate 9 0)
def cnt2 (cs : List Nat) (h : List Nat) (n : Nat) : List Nat := (List.range n).foldl (fun cs i => bump cs (i % 7 + 1) (h.getD i 0)) cs
theorem cnt1_len (l : List Nat) : (cnt1 l).length = 9 := by
  have : ∀ (l cs : List Nat), cs.length = 9 → (l.foldl (fun cs c => if c = 0 then cs else bump cs ((c - 1) % 8 + 1) 1) cs).length = 9 := by
    intro l
    induction l with
    | nil => intro cs h; exact h
    | cons x r ih =>
      intro cs h
      rw [List.foldl_cons]
      apply ih
      split
      · exact h
      · rw [bump_len]; exact h
  exact this l _ rfl
theorem cnt2_len (cs h : List Nat) (n : Nat) (hc : cs.length = 9) : (cnt2 cs h n).length = 9 := by
  induction n with
  | zero => exact hc
  | succ n ih => unfold cnt2 at ih ⊢; rw [List.range_succ, List.foldl_append, List.foldl_cons, List.foldl_nil, bump_len]; exact ih
theorem cnt2_succ (cs h : List Nat) (n : Nat) : cnt2 cs h (n + 1) = bump (cnt2 cs h n) (n % 7 + 1) (h.getD n 0) := by
  unfold cnt2; rw [List.range_succ, List.foldl_append]; rfl
theorem cnt1_take {b : List Nat} {i c : Nat} (h : b[i]? = some c) : cnt1 (b.take (i + 1)) = if c = 0 then cnt1 (b.take i) else bump (cnt1 (b.take i)) ((c - 1) % 8 + 1) 1 := by
  unfold cnt1; rw [List.take_add_one, h, List.foldl_append]; rfl
def mosts : List Nat := [0, 18, 4, 4, 4, 4, 2, 2]
def kindAt (b h : List Nat) (i : Nat) : Option Bool := if 0 < i then some (decide ((cnt2 (cnt1 b) h 14).getD i 0 ≤ mosts.getD i 0)) else none
def kindsOk (b h : List Nat) : Bool := ((List.range 8).filterMap (kindAt b h)).all id
def sp_no_kind_is_too_many (K : PySem.W.Frag) : Sp := fun vs H Q _ => ∃ (ab ah : Addr) (b h : List Nat), vs = [.ref ab, .ref ah] ∧ SqL K H ab (b.map vn) ∧ b.length = 81 ∧ SqL K H ah (h.map vn) ∧ h.length = 14 ∧ ∀ H', Same H H' → Q (.bl (kindsOk b h)) H'
theorem But.seqL {r : Addr} {H0 H H' : Hp} {a : Addr} {xs : List V} (e : But r H H') (h0 : H0 r = none) (s : Same H0 H) (h : SqL K H0 a xs) : SqL K H' a xs := (e.same h0 s).seq h
theorem ixN_nat {n k : Nat} (h : k < n) : ixN n (k : Int) = some k := by
  unfold ixN; rw [if_pos (by omega), if_pos (by omega)]; rfl
theorem set_nats (cs : List Nat) (k a : Nat) : (cs.map vn).set k (.int ((cs.getD k 0 : Nat) + (a : Int))) = (bump cs k a).map vn := by
  unfold bump; rw [List.map_set]; rfl
theorem at_nats {cs : List Nat} {k : Nat} (h : k < cs.length) : (cs.map vn)[k]? = some (vn (cs.getD k 0)) := by
  rw [List.getElem?_map, List.getD_eq_getElem?_getD, List.getElem?_eq_getElem h]; rfl
theorem ok_no_kind_is_too_many (T : Txt K mg) : Fn P w K mg base "no_kind_is_too_many" 2 P_no_kind_is_too_many (sp_no_kind_is_too_many K) := by
  have nd := sc_no_kind_is_too_many.nd
  have F_plain_kind_of := ok_plain_kind_of (P := P) (w := w) (base := base) T
  obtain ⟨aM, hm_MOST_OF_KIND, hM⟩ := T.t_MOST_OF_KIND
  refine T.s_no_kind_is_too_many.ok sc_no_kind_is_too_many (fun vs H Q E h => ?_) (fun f cdv A outer s H vs Q E hr h => ?_)
  · obtain ⟨_, _, _, _, rfl, _⟩ := h; rfl
  obtain ⟨ab, ah, b, h, rfl, hB, hlen, hH, hhl, q⟩ := h
  refine ⟨_, (pss_cons (ps_set (i := 2) nd rfl (by first | exact Or.inl rfl | exact Or.inr rfl) (pe_op op_rep (pe_lst (pa_cons pe_int pa_nil)) (pe_op op_add (pe_gi T.c_KING rfl) pe_int)))
    (pss_cons (ps_for PassesOwn.never rfl (pi_list (pv 0)) (pg_name (i := 3) nd rfl (by first | exact Or.inl rfl | exact Or.inr rfl)) (pss_one (ps_if (pt_cmpR op_ne (pv 3) pe_int (nomark _)) (pss_one (ps_augS (pv 2) (pe_fn F_plain_kind_of (hr.mono (by decide)) rfl (pa_cons (pv 3) pa_nil)) get_list pe_int ip_add set_list)) pss_nil)))
    (pss_cons (ps_for PassesOwn.never rfl (pi_enum rfl T.n_enumerate (pa_cons (pv 1) pa_nil)) (pg_tup rfl (pgs_cons (pg_name (i := 4) nd rfl (by first | exact Or.inl rfl | exact Or.inr rfl)) (pgs_cons (pg_name (i := 5) nd rfl (by first | exact Or.inl rfl | exact Or.inr rfl)) pgs_nil))) (pss_one (ps_augS (pv 2) (pe_op op_add (pe_op op_mod (pv 4) pe_int) pe_int) get_list (pv 5) ip_add set_list)))
    (pss_one (ps_ret (pe_callB (cr_all rfl) rfl T.n_all boot_all (pa_cons (pe_lc rfl nd (pi_enumT rfl T.n_enumerate (pa_cons (pe_gr hm_MOST_OF_KIND rfl) pa_nil)) (blk_of (own := [("kind", 6), ("most", 7)]) (by with_unfolding_all rfl)) (fun _ _ _ _ _ => (pg_tupK (K := K) (n := 2) rfl rfl (pgs_cons (pg_name (i := 6) nd rfl (by first | exact Or.inl rfl | exact Or.inr rfl)) (pgs_cons (pg_name (i := 7) nd rfl (by first | exact Or.inl rfl | exact Or.inr rfl)) pgs_nil)))) (fun _ _ _ _ _ => (pts_one (pt_cmpR op_gt (pv 6) pe_int (nomark _)))) (fun _ _ _ _ _ => (pe_cmpR op_le (pe_ix (ix_listK (K := K) rfl) (pv 2) (pv 6) (fun _ _ => rfl)) (pv 7) (nomark _)))) pa_nil))))))), ?_⟩
  refine ⟨(by show 1 ≤ sizeLine; decide), fun p0 hp0 => ⟨_, _, rfl, rfl, p0, _, _, rfl, rfl, upd_same, by decide, by decide, (by show 1 * 9 ≤ sizeLine; decide), fun r hr1 => ?_⟩⟩
  have g0 : Same H (upd H p0 (.lst [.int 0])) := same_new hp0 _
  have hr0 : H r = none := g0.free hr1
  have g1 := g0.trans (same_new hr1 (.lst (List.replicate (8 + 1 : Int).toNat [V.int 0]).flatten))
  generalize hH2 : upd (upd H p0 (.lst [.int 0])) r (.lst (List.replicate (8 + 1 : Int).toNat [V.int 0]).flatten) = H2 at g1
  have hr2 : H2 r = some (.lst ((cnt1 (b.take 0)).map vn)) := by rw [← hH2, upd_same]; rfl
  refine ⟨_, rfl, ab, rfl, ⟨_, g1.seq hB⟩, for_list (xs := b.map vn) (fun i σ H' => (∃ u3 u4 u5 u6 u7, σ = [some (.ref ab), some (.ref ah), some (.ref r), u3, u4, u5, u6, u7]) ∧ But r H2 H' ∧ H' r = some (.lst ((cnt1 (b.take i)).map vn)))
    ⟨⟨_, _, _, _, _, rfl⟩, fun _ _ _ z => z, hr2⟩ (fun i σ H' _ hP => hP.2.1.seqL hr0 g1 hB) (fun i x σ H' hx hP => ?_) (fun σ H' hP => ?_)⟩
  · obtain ⟨⟨u3, u4, u5, u6, u7, rfl⟩, bt, hrl⟩ := hP
    obtain ⟨c, hc, rfl⟩ := nat_of_at hx
    have e1 := cnt1_take hc
    have hl := cnt1_len (b.take i)
    refine ⟨_, rfl, rfl, _, rfl, ite2 (fun c1 => ?_) (fun c1 => ?_)⟩
    · have c1' : (!decide (vn c = V.int 0)) = true := c1
      rw [dint] at c1'
      have hc0 : c ≠ 0 := fun z => by subst z; exact absurd c1' (by decide)
      have hk : (c - 1) % 8 + 1 < (cnt1 (b.take i)).length := by rw [hl]; omega
      rw [if_neg hc0] at e1
      refine ⟨_, rfl, _, rfl, c, rfl, by omega, r, _, _, _, rfl, rfl, by omega, SqL.of hrl, at_nats hk, _, _, rfl, rfl, r, _, _, _, rfl, rfl, hrl, ixN_nat (by rw [List.length_map]; exact hk), ?_⟩
      refine ⟨⟨_, _, _, _, _, rfl⟩, bt.upd _, ?_⟩
      rw [upd_same, e1, ← set_nats]; rfl
    · have c1' : ¬ (!decide (vn c = V.int 0)) = true := c1
      rw [dint] at c1'
      have hc0 : c = 0 := by
        by_cases z : c = 0
        · exact z
        · exact absurd (by rw [decide_eq_false (by omega)]; rfl) c1'
      rw [if_pos hc0] at e1
      exact ⟨⟨_, _, _, _, _, rfl⟩, bt, by rw [e1]; exact hrl⟩
  · obtain ⟨⟨u3, u4, u5, u6, u7, rfl⟩, bt, hrl⟩ := hP
    rw [List.length_map, List.take_length] at hrl
    have g3 : Same H H' := bt.same hr0 g1
    refine ⟨_, rfl, ah, _, rfl, g3.seq hH, for_enum (xs := h.map vn) (fun i σ H4 => (∃ u3 u4 u5 u6 u7, σ = [some (.ref ab), some (.ref ah), some (.ref r), u3, u4, u5, u6, u7]) ∧ But r H' H4 ∧ H4 r = some (.lst ((cnt2 (cnt1 b) h i).map vn)))
      ⟨⟨_, _, _, _, _, rfl⟩, fun _ _ _ z => z, hrl⟩ (fun i σ H4 _ hP => hP.2.1.seqL hr0 g3 hH) (fun i x σ H4 T hx hP hT => ?_) (fun σ H4 hP => ?_)⟩
    · obtain ⟨⟨u3, u4, u5, u6, u7, rfl⟩, bt4, hr4⟩ := hP
      obtain ⟨c, hc, rfl⟩ := nat_of_at hx
      have hl := cnt2_len (cnt1 b) h i (cnt1_len b)
      have hk : i % 7 + 1 < (cnt2 (cnt1 b) h i).length := by rw [hl]; omega
      have hTr : T ≠ r := fun z => by subst z; rw [hT] at hr4; cases hr4
      have hr5 : (upd H4 T (.tup [vn i, vn c])) r = some (.lst ((cnt2 (cnt1 b) h i).map vn)) := by rw [upd_ne (Ne.symm hTr)]; exact hr4
      have bt5 : But r H' (upd H4 T (.tup [vn i, vn c])) := bt4.trans fun b' o _ e => same_new hT _ b' o e
      have ek : ((i : Int) % 7 + 1) = ((i % 7 + 1 : Nat) : Int) := by omega
      refine ⟨T, _, rfl, SqT.of upd_same, rfl, _, _, rfl, _, _, rfl, rfl, ?_⟩
      refine ⟨_, rfl, _, rfl, _, _, rfl, rfl, (by show (0 : Int) < 7; decide), _, _, rfl, rfl, r, _, _, vn ((cnt2 (cnt1 b) h i).getD (i % 7 + 1) 0), rfl, rfl, by omega, SqL.of hr5, ?_, _, rfl, _, _, rfl, rfl, r, _, _, i % 7 + 1, rfl, rfl, hr5, ?_, ?_⟩
      · rw [ek, Int.toNat_natCast]; exact at_nats hk
      · rw [ek]; exact ixN_nat (by rw [List.length_map]; exact hk)
      · refine ⟨⟨_, _, _, _, _, rfl⟩, bt5.upd _, ?_⟩
        rw [upd_same, cnt2_succ, getD_of hc, ← set_nats]
    · obtain ⟨⟨u3, u4, u5, u6, u7, rfl⟩, bt4, hr4⟩ := hP
      rw [List.length_map, hhl] at hr4
      have g4 : Same H H4 := bt4.same hr0 g3
      have hl := cnt2_len (cnt1 b) h 14 (cnt1_len b)
      refine ⟨aM, _, rfl, hM H4, lc_gen (J := IteT K aM) (n := 8) (fun i => (kindAt b h i).map V.bl) (by decide) (fun i H5 hi sm => ⟨_, vn (mosts.getD i 0), hM H5, at_nats (cs := mosts) hi⟩) (fun H5 sm => ⟨_, hM H5, by decide⟩) (fun i x H5 H6 K1 K0 hi sm hy => ?_) (fun D H5 sm hD hl5 => ?_)⟩
      · obtain ⟨T, x', rfl, hT, rfl, hx⟩ := hy
        obtain ⟨m, hm, rfl⟩ := nat_of_at (b := mosts) (hx _ (hM H5))
        have hmD := getD_of hm
        have g5 : Same H4 (upd H5 T (.tup [vn i, vn m])) := sm.trans (same_new hT _)
        refine ⟨same_new hT _, fun h1 h0 => ⟨T, _, rfl, SqT.of upd_same, rfl, _, _, rfl, _, _, rfl, rfl, rfl, ?_⟩⟩
        refine ⟨_, rfl, _, _, rfl, rfl, _, rfl, ite2 (fun c1 => ?_) (fun c1 => ?_)⟩
        · have c1' : 0 < i := by have := of_decide_eq_true c1; omega
          refine ⟨_, rfl, _, rfl, r, _, _, _, rfl, rfl, SqL.of (g5 _ _ hr4), atI_nat (at_nats (by rw [hl]; omega)), _, rfl, _, _, rfl, rfl, h1 _ _ (Same.refl _) ?_⟩
          unfold kindAt
          rw [if_pos c1', hmD]
          show some _ = some _
          refine congrArg some (congrArg V.bl (decide_eq_decide.mpr ⟨fun z => by omega, fun z => by omega⟩))
        · have c1' : ¬ 0 < i := fun z => c1 (decide_eq_true (by omega))
          refine h0 _ (Same.refl _) ?_
          unfold kindAt
          rw [if_neg c1']; rfl
      · refine ⟨D, (List.range 8).filterMap (kindAt b h), rfl, SqL.of ?_, qb (q _ (g4.trans sm)) rfl⟩
        rw [hl5, List.map_filterMap]
end
end Km

end

section
set_option linter.all false
set_option maxRecDepth 100000
set_option maxHeartbeats 4000000
namespace Km
open PySem PySem.Spec PyProof.Rows L2
section
variable {P : Program} {w : World} {K : PySem.W.Frag} {mg : Str → Option Value} {base : Heap}
/-- where a side's king stands -/
def kingIx (b : List Nat) (side : Nat) : Nat := ((List.range 81).find? fun s => b.getD s 0 == 8 + 16 * side).getD 0
theorem king_at {b : List Nat} {side : Nat} (hl : b.length = 81) (h : b.count (8 + 16 * side) = 1) :
    (List.range 81).find? (fun s => b.getD s 0 == 8 + 16 * side) = some (kingIx b side) ∧ b[kingIx b side]? = some (8 + 16 * side) ∧ ∀ m, m < kingIx b side → ¬ b[m]? = some (8 + 16 * side) := by
  have hm : 8 + 16 * side ∈ b := List.count_pos_iff.mp (by omega)
  obtain ⟨i, hi, e⟩ := List.getElem_of_mem hm
  cases hf : (List.range 81).find? (fun s => b.getD s 0 == 8 + 16 * side) with
  | none =>
    have := List.find?_eq_none.mp hf i (List.mem_range.mpr (by omega))
    rw [List.getD_eq_getElem?_getD, List.getElem?_eq_getElem hi, e] at this
    simp at this
  | some j =>
    have ej : kingIx b side = j := by unfold kingIx; rw [hf]; rfl
    rw [ej]
    obtain ⟨h1, h2, h3⟩ := List.find?_range_eq_some.mp hf
    have hj : j < b.length := by have := List.mem_range.mp h2; omega
    refine ⟨rfl, ?_, fun m hm z => ?_⟩
    · rw [List.getD_eq_getElem?_getD, List.getElem?_eq_getElem hj] at h1
      rw [List.getElem?_eq_getElem hj]
      exact congrArg some (by simpa using h1)
    · have h4 := h3 m hm
      rw [List.getD_eq_getElem?_getD, z] at h4
      simp at h4
def brd (q : List Nat) : List Nat := q.take 81
def hnd (q : List Nat) : List Nat := (q.drop 81).take 14
def trn (q : List Nat) : Nat := q.getD 95 0
def num (q : List Nat) : Nat := q.getD 96 0
def posN (q : List Nat) : Ql32.Pos := ⟨brd q, hnd q, trn q, num q⟩
def canBe (q : List Nat) : Bool :=
  decide (trn q ≤ 1) && ((brd q).all (fun c => c == 0 || isPc c) && (kindsOk (brd q) (hnd q) && (kings (brd q) && ((List.range 9).all (colOk (brd q)) && (!((List.range 81).any (stuckAt (brd q))) &&
    !(chk (brd q) (1 - trn q) (kingIx (brd q) (1 - trn q))))))))
theorem pc_lt {n : Nat} (h : isPc n = true) : n < 32 := by
  unfold isPc at h
  exact of_decide_eq_true (Bool.and_eq_true_iff.mp h).1
theorem known_lt {b : List Nat} (h : b.all (fun c => c == 0 || isPc c) = true) : ∀ c ∈ b, c < 32 := fun c hc => by
  have := List.all_eq_true.mp h c hc
  rcases Bool.or_eq_true_iff.mp this with z | z
  · have : c = 0 := by simpa using z
    omega
  · exact pc_lt z
def sp_can_be (K : PySem.W.Frag) : Sp := fun vs H Q _ => ∃ (ap : Addr) (q : List Nat), vs = [.ref ap] ∧ SqL K H ap (q.map vn) ∧ q.length = 97 ∧ ∀ H', Same H H' → Q (.bl (canBe q)) H'
theorem ok_can_be (T : Txt K mg) : Fn P w K mg base "can_be" 6 P_can_be (sp_can_be K) := by
  have nd := sc_can_be.nd
  have F_pieces_are_known := ok_pieces_are_known (P := P) (w := w) (base := base) T
  have F_no_kind_is_too_many := ok_no_kind_is_too_many (P := P) (w := w) (base := base) T
  have F_kings_are_there := ok_kings_are_there (P := P) (w := w) (base := base) T
  have F_no_column_has_two_pawns := ok_no_column_has_two_pawns (P := P) (w := w) (base := base) T
  have F_no_piece_is_stuck := ok_no_piece_is_stuck (P := P) (w := w) (base := base) T
  have F_in_check := ok_in_check (P := P) (w := w) (base := base) T
  have F_squares_of := ok_squares_of (P := P) (w := w) (base := base) T
  have F_hands_of := ok_hands_of (P := P) (w := w) (base := base) T
  refine T.s_can_be.ok sc_can_be (fun vs H Q E h => ?_) (fun f cdv A outer s H vs Q E hr h => ?_)
  · obtain ⟨_, _, rfl, _⟩ := h; rfl
  obtain ⟨ap, q, rfl, hP, hlen, k⟩ := h
  have hb : (brd q).length = 81 := by unfold brd; rw [List.length_take]; omega
  have hh : (hnd q).length = 14 := by unfold hnd; rw [List.length_take, List.length_drop]; omega
  have h95 : q[95]? = some (trn q) := by unfold trn; rw [List.getD_eq_getElem?_getD, List.getElem?_eq_getElem (by omega)]; rfl
  refine ⟨_, (pss_cons (ps_set (i := 1) nd rfl (by first | exact Or.inl rfl | exact Or.inr rfl) (pe_fn F_squares_of (hr.mono (by decide)) rfl (pa_cons (pv 0) pa_nil)))
    (pss_cons (ps_set (i := 2) nd rfl (by first | exact Or.inl rfl | exact Or.inr rfl) (pe_ix ix_list (pv 0) (pe_gi T.c_TURN rfl) (fun _ _ => rfl)))
    (pss_one (ps_ret (pe_and (pe_cmpR op_in_seq (pv 2) (pe_tup (pa_cons pe_int (pa_cons pe_int pa_nil))) rfl) (pe_and (pe_fn F_pieces_are_known (hr.mono (by decide)) rfl (pa_cons (pv 1) pa_nil)) (pe_and (pe_fn F_no_kind_is_too_many (hr.mono (by decide)) rfl (pa_cons (pv 1) (pa_cons (pe_fn F_hands_of (hr.mono (by decide)) rfl (pa_cons (pv 0) pa_nil)) pa_nil))) (pe_and (pe_fn F_kings_are_there (hr.mono (by decide)) rfl (pa_cons (pv 1) pa_nil)) (pe_and (pe_fn F_no_column_has_two_pawns (hr.mono (by decide)) rfl (pa_cons (pv 1) pa_nil)) (pe_and (pe_fn F_no_piece_is_stuck (hr.mono (by decide)) rfl (pa_cons (pv 1) pa_nil)) (pe_one (pe_not (pe_fn F_in_check (hr.mono (by decide)) rfl (pa_cons (pv 1) (pa_cons (pe_op op_sub pe_int (pv 2)) pa_nil))))))))))))))), ?_⟩
  refine ⟨_, rfl, ap, q, rfl, hP, hlen, fun p1 H1 g1 _ e1 => ?_⟩
  have e1 : H1 p1 = some (.lst ((brd q).map vn)) := e1
  refine ⟨_, rfl, ap, _, _, _, rfl, rfl, g1.seq hP, nat_atI h95, ?_⟩
  refine ⟨_, rfl, (by show 2 ≤ sizeLine; decide), fun p3 hp3 => ⟨p3, _, rfl, .inr (SqT.of upd_same), rfl, rfl, _, rfl, ite2 (fun c1 => ?_) (fun c1 => ?_)⟩⟩
  · have c1' : inV (vn (trn q)) ([0, 1].map vn) = true := c1
    rw [inV_nats] at c1'
    have ht : trn q ≤ 1 := by
      have : trn q = 0 ∨ trn q = 1 := by simpa using c1'
      omega
    have g3 := same_new hp3 (.tup [.int 0, .int 1])
    have e13 := g3 _ _ e1
    have g03 := g1.trans g3
    generalize upd H1 p3 (.tup [.int 0, .int 1]) = H3 at g3 e13 g03 ⊢
    have fin : ∀ (H' : Hp) (v : Bool), Same H H' → v = canBe q → Q (.bl v) H' := fun H' v s e => by rw [e]; exact k H' s
    refine ⟨_, rfl, p1, brd q, rfl, SqL.of e13, hb, fun H4 g4 => ⟨_, rfl, ite2 (fun c2 => ?_) (fun c2 => fin _ _ (g03.trans g4) ?_)⟩⟩
    · refine ⟨_, rfl, _, rfl, ap, q, rfl, (g03.trans g4).seq hP, hlen, fun p2 H4' g4' _ e2 => ?_⟩
      have g4o := g4
      have g4 := g4.trans g4'
      refine ⟨p1, p2, brd q, hnd q, rfl, SqL.of (g4 _ _ e13), hb, SqL.of e2, hh, fun H5 g5 => ⟨_, rfl, ite2 (fun c3 => ?_) (fun c3 => fin _ _ ((g03.trans g4).trans g5) ?_)⟩⟩
      · have g45 := g4.trans g5
        refine ⟨_, rfl, p1, brd q, rfl, SqL.of (g45 _ _ e13), _, rfl, ite2 (fun c4 => ?_) (fun c4 => fin _ _ (g03.trans g45) ?_)⟩
        · refine ⟨_, rfl, p1, brd q, rfl, SqL.of (g45 _ _ e13), hb, fun H6 g6 => ⟨_, rfl, ite2 (fun c5 => ?_) (fun c5 => fin _ _ ((g03.trans g45).trans g6) ?_)⟩⟩
          · have g46 := g45.trans g6
            refine ⟨_, rfl, p1, brd q, rfl, SqL.of (g46 _ _ e13), hb, fun H7 g7 => ⟨_, rfl, ite2 (fun c6 => ?_) (fun c6 => fin _ _ ((g03.trans g46).trans g7) ?_)⟩⟩
            · have g47 := g46.trans g7
              have hk : (brd q).count (8 + 16 * (1 - trn q)) = 1 := by
                unfold kings at c4
                have c4' := Bool.and_eq_true_iff.mp c4
                have h8 : (brd q).count 8 = 1 := by simpa using c4'.1
                have h24 : (brd q).count 24 = 1 := by simpa using c4'.2
                rcases (show trn q = 0 ∨ trn q = 1 by omega) with z | z
                · rw [z]; exact h24
                · rw [z]; exact h8
              obtain ⟨_, hj, hno⟩ := king_at hb hk
              refine ⟨_, rfl, _, rfl, _, _, rfl, rfl, p1, brd q, 1 - trn q, kingIx (brd q) (1 - trn q), ?_, SqL.of (g47 _ _ e13), hb, by omega, known_lt c2, hj, hno, fun H8 g8 => ⟨_, rfl, fin _ _ ((g03.trans g47).trans g8) ?_⟩⟩
              · show [V.ref p1, V.int (1 - (trn q : Int))] = [V.ref p1, vn (1 - trn q)]
                rw [show (1 - (trn q : Int)) = ((1 - trn q : Nat) : Int) by omega]
              · unfold canBe
                rw [decide_eq_true ht, c2, c3, c4, c5, c6]; rfl
            · unfold canBe
              rw [Bool.eq_false_iff.mpr c6]; simp
          · unfold canBe
            rw [Bool.eq_false_iff.mpr c5]; simp
        · unfold canBe
          rw [Bool.eq_false_iff.mpr c4]; simp
      · unfold canBe
        rw [Bool.eq_false_iff.mpr c3]; simp
    · unfold canBe
      rw [Bool.eq_false_iff.mpr c2]; simp
  · have c1' : ¬ inV (vn (trn q)) ([0, 1].map vn) = true := c1
    rw [inV_nats] at c1'
    have ht : ¬ trn q ≤ 1 := fun z => c1' (by
      have : trn q = 0 ∨ trn q = 1 := by omega
      simpa using this)
    refine qb (k _ (g1.trans (same_new hp3 _))) ?_
    unfold canBe
    rw [decide_eq_false ht]; rfl
end
end Km

end

section
set_option linter.all false
/-! the mathematics of texts, over the specification's own words -/
namespace Km
open Ql32
def bn (l : List UInt8) : List Nat := l.map UInt8.toNat
theorem bn_app (a b : List UInt8) : bn (a ++ b) = bn a ++ bn b := List.map_append
theorem bn_len (a : List UInt8) : (bn a).length = a.length := List.length_map _
theorem bn_nil : bn [] = [] := rfl
theorem bn_decimal (n : Nat) : bn (decimal n) = (Nat.toDigits 10 n).map Char.toNat := by
  unfold bn decimal
  rw [List.map_map]
  refine List.map_congr_left fun c hc => ?_
  have h := Nat.isDigit_of_mem_toDigits (by decide) (by decide) hc
  have h2 : c.toNat ≤ 57 := by
    unfold Char.isDigit at h
    have := (Bool.and_eq_true_iff.mp h).2
    exact of_decide_eq_true this
  show (UInt8.ofNat c.toNat).toNat = c.toNat
  rw [UInt8.toNat_ofNat']
  omega
theorem decimal_len (n : Nat) : (decimal n).length ≤ n + 1 := by
  unfold decimal
  rw [List.length_map]
  refine (Nat.length_toDigits_le_iff (by decide) (Nat.succ_pos n)).mpr ?_
  exact Nat.lt_of_lt_of_le (Nat.lt_pow_self (by decide)) (Nat.pow_le_pow_right (by decide) (Nat.le_succ n))
theorem letter_len (c : Nat) : (letter c).length ≤ 2 := by
  unfold letter
  dsimp only
  rw [List.length_append]
  split <;> simp
def gapB (n : Nat) : List UInt8 := if n = 0 then [] else decimal n
theorem gapB_len (n : Nat) : (gapB n).length ≤ n + 1 := by
  unfold gapB; split
  · simp
  · exact decimal_len n
theorem row_nil (n : Nat) : rowText [] n = gapB n := rfl
theorem row_zero (r : List Nat) (n : Nat) : rowText (0 :: r) n = rowText r (n + 1) := rfl
theorem row_cons {c : Nat} (h : c ≠ 0) (r : List Nat) (n : Nat) : rowText (c :: r) n = gapB n ++ (letter c ++ rowText r 0) := by
  rw [rowText, if_neg h]; rfl
theorem row_len : ∀ (l : List Nat) (n : Nat), (rowText l n).length ≤ 3 * l.length + n + 1
  | [], n => by rw [row_nil]; have := gapB_len n; simp; omega
  | c :: r, n => by
    by_cases h : c = 0
    · subst h
      rw [row_zero]
      have := row_len r (n + 1)
      simp only [List.length_cons]; omega
    · rw [row_cons h]
      have := row_len r 0
      have := gapB_len n
      have := letter_len c
      simp only [List.length_append, List.length_cons]; omega
/-- what is told of one kind in a hand -/
def handOne (h : List Nat) (side k : Nat) : List UInt8 := let n := h.getD (7 * side + (k - 1)) 0; if n = 0 then [] else (if n = 1 then [] else decimal n) ++ letter (k + 16 * side)
def handB (h : List Nat) (side : Nat) : List UInt8 := [7, 6, 5, 4, 3, 2, 1].flatMap (handOne h side)
def handsB (h : List Nat) : List UInt8 := if handB h 0 ++ handB h 1 = [] then [45] else handB h 0 ++ handB h 1
theorem handText_eq (p : Pos) : handText p = handsB p.hand := by
  unfold handText handsB handB handOne hands
  simp only [List.flatMap_cons, List.flatMap_nil, List.append_nil]
theorem handOne_len {h : List Nat} {side k : Nat} (hh : ∀ x ∈ h, x ≤ 65535) : (handOne h side k).length ≤ 65540 := by
  unfold handOne
  dsimp only
  have hx : h.getD (7 * side + (k - 1)) 0 ≤ 65535 := by
    rw [List.getD_eq_getElem?_getD]
    cases e : h[7 * side + (k - 1)]? with
    | none => simp
    | some v => exact hh v (List.mem_of_getElem? e)
  generalize h.getD (7 * side + (k - 1)) 0 = n at hx ⊢
  have h1 := decimal_len n
  have h2 := letter_len (k + 16 * side)
  split
  · simp
  · rw [List.length_append]
    split
    · simp only [List.length_nil]; omega
    · omega
theorem flat_len {f : Nat → List UInt8} {m : Nat} (hf : ∀ x, (f x).length ≤ m) : ∀ l : List Nat, (l.flatMap f).length ≤ l.length * m
  | [] => by simp
  | x :: r => by
    have ih := flat_len hf r
    have := hf x
    rw [List.flatMap_cons, List.length_append, List.length_cons, Nat.succ_mul]; omega
theorem handB_len {h : List Nat} {side : Nat} (hh : ∀ x ∈ h, x ≤ 65535) : (handB h side).length ≤ 458780 := by
  unfold handB
  exact flat_len (f := handOne h side) (m := 65540) (fun k => handOne_len hh) _
theorem isPiece_letter : True := trivial
end Km

end

section
set_option linter.all false
set_option maxRecDepth 100000
set_option maxHeartbeats 4000000
namespace Km
open PySem PySem.Spec PyProof.Rows L2
section
variable {P : Program} {w : World} {K : PySem.W.Frag} {mg : Str → Option Value} {base : Heap}
/-! ### texts by their codes -/
def S (l : List Nat) : Str := ⟨l.toArray⟩
theorem S_app (a b : List Nat) : S a ++ S b = S (a ++ b) := by
  show (⟨a.toArray ++ b.toArray⟩ : Str) = ⟨(a ++ b).toArray⟩
  rw [List.append_toArray]
theorem S_len (a : List Nat) : (S a).length = a.length := by show a.toArray.size = a.length; simp
theorem S_codes (a : List Nat) : (S a).cps.toList = a := by show a.toArray.toList = a; simp
theorem S_inj {a b : List Nat} (h : S a = S b) : a = b := by rw [← S_codes a, h, S_codes]
theorem S_of {x : Str} {l : List Nat} (h : x.cps.toList = l) : x = S l := by
  obtain ⟨c⟩ := x
  have h' : c.toList = l := h
  subst h'
  show (⟨c⟩ : Str) = ⟨c.toList.toArray⟩
  simp
theorem S_num (n : Nat) : (Str.ofString (toString ((n : Nat) : Int))) = S (bn (Ql32.decimal n)) := S_of (by rw [PySem.W.KIN.signs_num, bn_decimal])
theorem S_empty : (Str.ofString "") = S [] := by decide +kernel
theorem log_small {n : Nat} (h : n ≤ 65535) : ((n : Int).natAbs).log2 < 1920 := by
  rw [Int.natAbs_natCast]
  by_cases z : n = 0
  · subst z; decide
  · have : n.log2 < 16 := (Nat.log2_lt z).mpr (by show n < 65536; omega)
    omega
theorem fits {n : Nat} (h : n ≤ 16000000) : n ≤ sizeLine := by rw [sizeLine_eq]; omega
def sp_codes_of : Sp := fun vs H Q _ => ∃ x : Str, vs = [.str x] ∧ x.length ≤ 2000000 ∧ ∀ (r : Addr) (H' : Hp), Same H H' → H' r = some (.lst (x.cps.toList.map vn)) → Q (.ref r) H'
theorem ok_codes_of (T : Txt K mg) : Fn P w K mg base "codes_of" 1 P_codes_of sp_codes_of := by
  have nd := sc_codes_of.nd
  refine T.s_codes_of.ok sc_codes_of (fun vs H Q E h => ?_) (fun f cdv A outer s H vs Q E hr h => ?_)
  · obtain ⟨_, rfl, _⟩ := h; rfl
  obtain ⟨x, rfl, hx, q⟩ := h
  refine ⟨_, (pss_one (ps_ret (pe_lc rfl nd (pi_str (pv 0)) (blk_of (own := [("sign", 1)]) (by with_unfolding_all rfl)) (fun _ _ _ _ _ => (pg_name (i := 1) nd rfl (by first | exact Or.inl rfl | exact Or.inr rfl))) (fun _ _ _ _ _ => pts_nil) (fun _ _ _ _ _ => (pe_callB call_ord rfl T.n_ord boot_ord (pa_cons (pv 1) pa_nil)))))), ?_⟩
  refine ⟨_, rfl, x, rfl, lc_genS (J := Its x) (n := x.cps.size) (fun i => some (vn (x.cps.toList.getD i 0))) (by rw [sizeLine_eq]; have : x.cps.size ≤ 2000000 := hx; omega) (fun i H' hi sm => hi) (fun H' sm => Nat.le_refl _) (fun i v H2 H3 K1 K0 hi sm hy => ?_) (fun D H' sm hD hl => ?_)⟩
  · obtain ⟨rfl, c, hc, rfl⟩ := hy
    refine ⟨Same.refl _, fun h1 h0 => ⟨rfl, iteT (B := K0 H3) ⟨_, rfl, ⟨#[c]⟩, rfl, rfl, h1 _ _ (Same.refl _) ?_⟩⟩⟩
    have : x.cps.toList[i]? = some c := by rw [Array.getElem?_toList]; exact hc
    rw [List.getD_eq_getElem?_getD, this]; rfl
  · refine q D H' sm ?_
    rw [hl, range_some, ← map_range x.cps.toList vn 0, Array.length_toList]
theorem S_toList (a : List Nat) : (S a).cps.toList = a := S_codes a
def sp_told : Sp := fun vs H Q _ => ∃ l : List Nat, vs = [.str (S l)] ∧ l.length ≤ 1500000 ∧ ∀ (r : Addr) (H' : Hp), H' r = some (.lst (vn l.length :: l.map vn)) → Q (.ref r) H'
theorem ok_told (T : Txt K mg) : Fn P w K mg base "told" 2 P_told sp_told := by
  have nd := sc_told.nd
  have F_codes_of := ok_codes_of (P := P) (w := w) (base := base) T
  refine T.s_told.ok sc_told (fun vs H Q E h => ?_) (fun f cdv A outer s H vs Q E hr h => ?_)
  · obtain ⟨_, rfl, _⟩ := h; rfl
  obtain ⟨l, rfl, hl, k⟩ := h
  refine ⟨_, (pss_one (ps_ret (pe_op op_cat (pe_lst (pa_cons (pe_callB call_len_str rfl T.n_len PySem.boot_len (pa_cons (pv 0) pa_nil)) pa_nil)) (pe_fn F_codes_of (hr.mono (by decide)) rfl (pa_cons (pv 0) pa_nil))))), ?_⟩
  refine ⟨_, rfl, _, rfl, fits (by rw [S_len]; omega), (by show 1 ≤ sizeLine; decide), fun p1 hp1 => ?_⟩
  refine ⟨_, rfl, _, rfl, by rw [S_len]; omega, fun r2 H3 g3 hr3 => ?_⟩
  refine ⟨p1, r2, _, _, rfl, rfl, g3 _ _ upd_same, hr3, ?_, fun r hr0 => k r _ ?_⟩
  · rw [S_codes, List.length_map]; exact fits (by simp only [List.length_cons, List.length_nil]; omega)
  · rw [upd_same, S_codes, S_len]
    rfl
end
end Km

end

section
set_option linter.all false
set_option maxRecDepth 100000
set_option maxHeartbeats 4000000
namespace Km
open PySem PySem.Spec PyProof.Rows L2
section
variable {P : Program} {w : World} {K : PySem.W.Frag} {mg : Str → Option Value} {base : Heap}
theorem name_S : ∀ c : Nat, c < 32 → isPc c = true → pieceNames.getD c "" = S (bn (Ql32.letter c)) := by decide +kernel
theorem name_at {c : Nat} (h : isPc c = true) : (pieceNames.map V.str)[c]? = some (.str (S (bn (Ql32.letter c)))) := by
  rw [names_at (pc_lt h), name_S c (pc_lt h) h]
def sp_write_gap : Sp := fun vs H Q _ => ∃ g : Nat, vs = [vn g] ∧ g ≤ 65535 ∧ Q (.str (S (bn (gapB g)))) H
theorem ok_write_gap (T : Txt K mg) : Fn P w K mg base "write_gap" 1 P_write_gap sp_write_gap := by
  have nd := sc_write_gap.nd
  refine T.s_write_gap.ok sc_write_gap (fun vs H Q E h => ?_) (fun f cdv A outer s H vs Q E hr h => ?_)
  · obtain ⟨_, rfl, _⟩ := h; rfl
  obtain ⟨g, rfl, hg, q⟩ := h
  refine ⟨_, (pss_one (ps_ret (pe_ifExp (pt_cmpR op_eq (pv 0) pe_int (nomark _)) pe_str (pe_callTy call_str_int rfl T.n_str boot_str (pa_cons (pv 0) pa_nil))))), ?_⟩
  refine ⟨_, rfl, rfl, _, rfl, ite2 (fun c => qs q ?_) (fun c => ⟨_, rfl, _, rfl, log_small hg, qs q ?_⟩)⟩
  · have c' : decide (vn g = V.int 0) = true := c
    rw [dint] at c'
    have hg0 : g = 0 := by have := of_decide_eq_true c'; omega
    subst hg0
    exact S_empty
  · have c' : ¬ decide (vn g = V.int 0) = true := c
    rw [dint] at c'
    have hg0 : g ≠ 0 := fun z => c' (by rw [z]; rfl)
    rw [show gapB g = Ql32.decimal g by unfold gapB; rw [if_neg hg0]]
    exact S_num g
def sp_write_row (K : PySem.W.Frag) : Sp := fun vs H Q _ => ∃ (ar : Addr) (row : List Nat), vs = [.ref ar] ∧ SqL K H ar (row.map vn) ∧ row.length ≤ 9 ∧ (∀ c ∈ row, c = 0 ∨ isPc c = true) ∧ Q (.str (S (bn (Ql32.rowText row 0)))) H
theorem ok_write_row (T : Txt K mg) : Fn P w K mg base "write_row" 2 P_write_row (sp_write_row K) := by
  have nd := sc_write_row.nd
  have F_write_gap := ok_write_gap (P := P) (w := w) (base := base) T
  obtain ⟨aP, hm_PIECE_NAMES, hP⟩ := T.t_PIECE_NAMES
  refine T.s_write_row.ok sc_write_row (fun vs H Q E h => ?_) (fun f cdv A outer s H vs Q E hr h => ?_)
  · obtain ⟨_, _, rfl, _⟩ := h; rfl
  obtain ⟨ar, row, rfl, hR, hlen, hall, q⟩ := h
  refine ⟨_, (pss_cons (ps_set (i := 1) nd rfl (by first | exact Or.inl rfl | exact Or.inr rfl) pe_str)
    (pss_cons (ps_set (i := 2) nd rfl (by first | exact Or.inl rfl | exact Or.inr rfl) pe_int)
    (pss_cons (ps_for PassesOwn.never rfl (pi_list (pv 0)) (pg_name (i := 3) nd rfl (by first | exact Or.inl rfl | exact Or.inr rfl)) (pss_one (ps_if (pt_cmpR op_eq (pv 3) pe_int (nomark _)) (pss_one (ps_aug (i := 2) nd rfl (by first | exact Or.inl rfl | exact Or.inr rfl) pe_int ip_add)) (pss_cons (ps_aug (i := 1) nd rfl (by first | exact Or.inl rfl | exact Or.inr rfl) (pe_op op_add_str (pe_fn F_write_gap (hr.mono (by decide)) rfl (pa_cons (pv 2) pa_nil)) (pe_ix ix_tup (pe_gr hm_PIECE_NAMES rfl) (pv 3) (fun _ _ => rfl))) iop_add_str)
    (pss_one (ps_set (i := 2) nd rfl (by first | exact Or.inl rfl | exact Or.inr rfl) pe_int))))))
    (pss_one (ps_ret (pe_op op_add_str (pv 1) (pe_fn F_write_gap (hr.mono (by decide)) rfl (pa_cons (pv 2) pa_nil)))))))), ?_⟩
  have tot : (bn (Ql32.rowText row 0)).length ≤ 28 := by rw [bn_len]; have := row_len row 0; omega
  refine ⟨_, rfl, ar, rfl, ⟨_, hR⟩, for_list (xs := row.map vn) (fun i σ H' => (∃ txt gap u, σ = [some (.ref ar), some (.str (S txt)), some (vn gap), u] ∧ gap ≤ i ∧ txt ++ bn (Ql32.rowText (row.drop i) gap) = bn (Ql32.rowText row 0)) ∧ H' = H)
    ⟨⟨[], 0, none, ?_, Nat.le_refl _, rfl⟩, rfl⟩ (fun i σ H' _ hPv => by rw [hPv.2]; exact hR) (fun i x σ H' hx hPv => ?_) (fun σ H' hPv => ?_)⟩
  · show [some (V.ref ar), some (V.str (Str.ofString "")), some (V.int 0), none] = _
    rw [S_empty]; rfl
  · obtain ⟨⟨txt, gap, u, rfl, hgap, he⟩, rfl⟩ := hPv
    obtain ⟨c, hc, rfl⟩ := nat_of_at hx
    have hi : i < row.length := (List.getElem?_eq_some_iff.mp hc).1
    have hdrop : row.drop i = c :: row.drop (i + 1) := by
      rw [List.drop_eq_getElem_cons hi]
      congr 1
      rw [List.getElem?_eq_getElem hi] at hc
      exact Option.some.inj hc
    rw [hdrop] at he
    refine ⟨_, rfl, rfl, _, rfl, ite2 (fun c1 => ?_) (fun c1 => ?_)⟩
    · have c1' : decide (vn c = V.int 0) = true := c1
      rw [dint] at c1'
      have hc0 : c = 0 := by have := of_decide_eq_true c1'; omega
      subst hc0
      rw [row_zero] at he
      exact ⟨_, rfl, _, _, rfl, rfl, ⟨⟨txt, gap + 1, _, rfl, by omega, he⟩, rfl⟩⟩
    · have c1' : ¬ decide (vn c = V.int 0) = true := c1
      rw [dint] at c1'
      have hc0 : c ≠ 0 := fun z => c1' (by rw [z]; rfl)
      have hpc : isPc c = true := (hall c (List.mem_of_getElem? hc)).resolve_left hc0
      rw [row_cons hc0, bn_app, bn_app] at he
      have hl := congrArg List.length he
      simp only [List.length_append] at hl
      refine ⟨_, rfl, _, rfl, gap, rfl, by omega, _, rfl, aP, _, _, _, rfl, rfl, hP H', atI_nat (name_at hpc), _, _, rfl, rfl, fits (by rw [S_len, S_len]; omega), _, _, rfl, rfl, fits (by rw [S_app, S_len, S_len, List.length_append]; omega), ?_⟩
      refine ⟨⟨txt ++ (bn (gapB gap) ++ bn (Ql32.letter c)), 0, some (vn c), ?_, Nat.zero_le _, ?_⟩, rfl⟩
      · rw [S_app, S_app]; rfl
      · rw [← he]; simp only [List.append_assoc]
  · obtain ⟨⟨txt, gap, u, rfl, hgap, he⟩, rfl⟩ := hPv
    rw [List.length_map, List.drop_length, row_nil] at he
    rw [List.length_map] at hgap
    have hl := congrArg List.length he
    simp only [List.length_append] at hl
    refine ⟨_, rfl, _, rfl, gap, rfl, by omega, _, _, rfl, rfl, fits (by rw [S_len, S_len]; omega), qs q ?_⟩
    rw [S_app, he]
/-! ### hands -/
def sp_write_hand (K : PySem.W.Frag) : Sp := fun vs H Q _ => ∃ (ah : Addr) (h : List Nat) (side : Nat), vs = [.ref ah, vn side] ∧ SqL K H ah (h.map vn) ∧ h.length = 14 ∧ side < 2 ∧ (∀ x ∈ h, x ≤ 65535) ∧ Q (.str (S (bn (handB h side)))) H
theorem hand_pc : ∀ k : Nat, k < 8 → 1 ≤ k → ∀ side : Nat, side < 2 → isPc (k + 16 * side) = true := by decide +kernel
theorem kinds_in : ∀ k ∈ ([7, 6, 5, 4, 3, 2, 1] : List Nat), 1 ≤ k ∧ k < 8 := by decide
theorem take_flat {l : List Nat} {i x : Nat} (f : Nat → List UInt8) (h : l[i]? = some x) : bn ((l.take (i + 1)).flatMap f) = bn ((l.take i).flatMap f) ++ bn (f x) := by
  rw [take_flatMap f h, bn_app]
theorem ok_write_hand (T : Txt K mg) : Fn P w K mg base "write_hand" 2 P_write_hand (sp_write_hand K) := by
  have nd := sc_write_hand.nd
  have F_hand_place := ok_hand_place (P := P) (w := w) (base := base) T
  obtain ⟨aP, hm_PIECE_NAMES, hP⟩ := T.t_PIECE_NAMES
  obtain ⟨aH, hm_HAND_KINDS, hHK⟩ := T.t_HAND_KINDS
  refine T.s_write_hand.ok sc_write_hand (fun vs H Q E h => ?_) (fun f cdv A outer s H vs Q E hr h => ?_)
  · obtain ⟨_, _, _, rfl, _⟩ := h; rfl
  obtain ⟨ah, h, side, rfl, hA, hlen, hside, hsm, q⟩ := h
  refine ⟨_, (pss_cons (ps_set (i := 2) nd rfl (by first | exact Or.inl rfl | exact Or.inr rfl) pe_str)
    (pss_cons (ps_for PassesOwn.never rfl (pi_tup (pe_gr hm_HAND_KINDS rfl)) (pg_name (i := 3) nd rfl (by first | exact Or.inl rfl | exact Or.inr rfl)) (pss_cons (ps_set (i := 4) nd rfl (by first | exact Or.inl rfl | exact Or.inr rfl) (pe_ix ix_list (pv 0) (pe_fn F_hand_place (hr.mono (by decide)) rfl (pa_cons (pv 3) (pa_cons (pv 1) pa_nil))) (fun _ _ => rfl)))
    (pss_cons (ps_if (pt_cmpR op_gt (pv 4) pe_int (nomark _)) (pss_one (ps_aug (i := 2) nd rfl (by first | exact Or.inl rfl | exact Or.inr rfl) (pe_callTy call_str_int rfl T.n_str boot_str (pa_cons (pv 4) pa_nil)) iop_add_str)) pss_nil)
    (pss_one (ps_if (pt_cmpR op_gt (pv 4) pe_int (nomark _)) (pss_one (ps_aug (i := 2) nd rfl (by first | exact Or.inl rfl | exact Or.inr rfl) (pe_ix ix_tup (pe_gr hm_PIECE_NAMES rfl) (pe_op op_add (pv 3) (pe_op op_mul (pe_gi T.c_SECOND rfl) (pv 1))) (fun _ _ => rfl)) iop_add_str)) pss_nil)))))
    (pss_one (ps_ret (pv 2))))), ?_⟩
  refine ⟨aH, rfl, ⟨_, hHK H⟩, for_tup (xs := ([7, 6, 5, 4, 3, 2, 1] : List Nat).map vn) (fun i σ H' => (∃ u v, σ = [some (.ref ah), some (vn side), some (.str (S (bn ((([7, 6, 5, 4, 3, 2, 1] : List Nat).take i).flatMap (handOne h side))))), u, v]) ∧ H' = H)
    ⟨⟨none, none, ?_⟩, rfl⟩ (fun i σ H' _ hPv => hHK H') (fun i x σ H' hx hPv => ?_) (fun σ H' hPv => ?_)⟩
  · show [some (V.ref ah), some (vn side), some (V.str (Str.ofString "")), none, none] = _
    rw [S_empty]; rfl
  · obtain ⟨⟨u, v, rfl⟩, rfl⟩ := hPv
    obtain ⟨k, hk, rfl⟩ := nat_of_at hx
    obtain ⟨hk1, hk8⟩ := kinds_in k (List.mem_of_getElem? hk)
    have e1 := take_flat (handOne h side) hk
    have hi : i < 7 := (List.getElem?_eq_some_iff.mp hk).1
    have hpl : 7 * side + (k - 1) < h.length := by omega
    have hat : h[7 * side + (k - 1)]? = some (h.getD (7 * side + (k - 1)) 0) := by rw [List.getD_eq_getElem?_getD, List.getElem?_eq_getElem hpl]; rfl
    have ha : h.getD (7 * side + (k - 1)) 0 ≤ 65535 := hsm _ (List.mem_of_getElem? hat)
    have hone : handOne h side k = if h.getD (7 * side + (k - 1)) 0 = 0 then [] else (if h.getD (7 * side + (k - 1)) 0 = 1 then [] else Ql32.decimal (h.getD (7 * side + (k - 1)) 0)) ++ Ql32.letter (k + 16 * side) := rfl
    have hlen1 : (bn ((([7, 6, 5, 4, 3, 2, 1] : List Nat).take i).flatMap (handOne h side))).length ≤ 458780 := by
      rw [bn_len]
      have z := flat_len (f := handOne h side) (m := 65540) (fun k => handOne_len hsm) (([7, 6, 5, 4, 3, 2, 1] : List Nat).take i)
      have z2 : (([7, 6, 5, 4, 3, 2, 1] : List Nat).take i).length ≤ 7 := by rw [List.length_take]; exact Nat.min_le_right _ _
      have z3 := Nat.mul_le_mul_right 65540 z2
      omega
    refine ⟨_, rfl, _, rfl, _, rfl, k, side, rfl, hk1, ah, _, _, _, rfl, rfl, hA, nat_atI hat, ?_⟩
    rw [e1, hone]
    generalize h.getD (7 * side + (k - 1)) 0 = a at ha
    generalize bn ((([7, 6, 5, 4, 3, 2, 1] : List Nat).take i).flatMap (handOne h side)) = txt at hlen1
    have hda := decimal_len a
    have hle := letter_len (k + 16 * side)
    have idx : ((k : Int) + 16 * (side : Int)) = ((k + 16 * side : Nat) : Int) := by omega
    have fin : ∀ (t2 : List Nat) (c : Str), c = S (txt ++ bn (if a = 0 then [] else (if a = 1 then [] else Ql32.decimal a) ++ Ql32.letter (k + 16 * side))) →
        (∃ u v, [some (V.ref ah), some (vn side), some (.str c), some (vn k), some (vn a)] = [some (V.ref ah), some (vn side), some (.str (S (txt ++ bn (if a = 0 then [] else (if a = 1 then [] else Ql32.decimal a) ++ Ql32.letter (k + 16 * side))))), u, v]) ∧ H' = H' :=
      fun _ c e => ⟨⟨some (vn k), some (vn a), by rw [e]⟩, rfl⟩
    refine ⟨_, rfl, _, _, rfl, rfl, _, rfl, ite2 (fun c1 => ?_) (fun c1 => ?_)⟩
    · have ha1 : 1 < a := by have := of_decide_eq_true c1; omega
      refine ⟨_, rfl, _, rfl, _, rfl, log_small ha, _, _, rfl, rfl, fits (by rw [S_num, S_len, S_len, bn_len]; omega), ?_⟩
      refine ⟨_, rfl, _, _, rfl, rfl, _, rfl, ite2 (fun c2 => ?_) (fun c2 => absurd (decide_eq_true (by omega)) c2)⟩
      refine ⟨_, rfl, _, rfl, _, rfl, _, _, rfl, rfl, .inl ⟨by decide, by decide⟩, _, _, rfl, rfl, aP, _, _, _, rfl, rfl, hP H', at_of idx (name_at (hand_pc k hk8 hk1 side hside)), _, _, rfl, rfl, fits (by rw [S_num, S_app, S_len, S_len, List.length_append, bn_len, bn_len]; omega), ?_⟩
      refine fin [] _ ?_
      rw [if_neg (by omega), if_neg (by omega), S_num, S_app, S_app, bn_app, List.append_assoc]
    · have ha1 : ¬ 1 < a := fun z => c1 (decide_eq_true (by omega))
      refine ⟨_, rfl, _, _, rfl, rfl, _, rfl, ite2 (fun c2 => ?_) (fun c2 => ?_)⟩
      · have ha0 : 0 < a := by have := of_decide_eq_true c2; omega
        refine ⟨_, rfl, _, rfl, _, rfl, _, _, rfl, rfl, .inl ⟨by decide, by decide⟩, _, _, rfl, rfl, aP, _, _, _, rfl, rfl, hP H', at_of idx (name_at (hand_pc k hk8 hk1 side hside)), _, _, rfl, rfl, fits (by rw [S_len, S_len, bn_len]; omega), ?_⟩
        refine fin [] _ ?_
        rw [if_neg (by omega), if_pos (by omega), S_app, List.nil_append]
      · have ha0 : ¬ 0 < a := fun z => c2 (decide_eq_true (by omega))
        refine fin [] _ ?_
        rw [if_pos (by omega), bn_nil, List.append_nil]
  · obtain ⟨⟨u, v, rfl⟩, rfl⟩ := hPv
    exact ⟨_, rfl, q⟩
end
end Km

end

section
set_option linter.all false
set_option maxRecDepth 100000
set_option maxHeartbeats 4000000
namespace Km
open PySem PySem.Spec PyProof.Rows L2
section
variable {P : Program} {w : World} {K : PySem.W.Frag} {mg : Str → Option Value} {base : Heap}
def sp_write_hands (K : PySem.W.Frag) : Sp := fun vs H Q _ => ∃ (ah : Addr) (h : List Nat), vs = [.ref ah] ∧ SqL K H ah (h.map vn) ∧ h.length = 14 ∧ (∀ x ∈ h, x ≤ 65535) ∧ Q (.str (S (bn (handsB h)))) H
theorem dash : (Str.ofString "-") = S (bn [45]) := by decide +kernel
theorem ok_write_hands (T : Txt K mg) : Fn P w K mg base "write_hands" 3 P_write_hands (sp_write_hands K) := by
  have nd := sc_write_hands.nd
  have F_write_hand := ok_write_hand (P := P) (w := w) (base := base) T
  refine T.s_write_hands.ok sc_write_hands (fun vs H Q E h => ?_) (fun f cdv A outer s H vs Q E hr h => ?_)
  · obtain ⟨_, _, rfl, _⟩ := h; rfl
  obtain ⟨ah, h, rfl, hA, hlen, hsm, q⟩ := h
  refine ⟨_, (pss_cons (ps_set (i := 1) nd rfl (by first | exact Or.inl rfl | exact Or.inr rfl) (pe_op op_add_str (pe_fn F_write_hand (hr.mono (by decide)) rfl (pa_cons (pv 0) (pa_cons pe_int pa_nil))) (pe_fn F_write_hand (hr.mono (by decide)) rfl (pa_cons (pv 0) (pa_cons pe_int pa_nil)))))
    (pss_one (ps_ret (pe_ifExp (pt_cmpR op_eq (pv 1) pe_str (nomark _)) pe_str (pv 1))))), ?_⟩
  have l0 := handB_len (side := 0) hsm
  have l1 := handB_len (side := 1) hsm
  refine ⟨_, rfl, ah, h, 0, rfl, hA, hlen, by decide, hsm, _, rfl, ah, h, 1, rfl, hA, hlen, by decide, hsm, _, _, rfl, rfl, fits (by rw [S_len, S_len, bn_len, bn_len]; omega), ?_⟩
  rw [S_app, ← bn_app]
  refine ⟨_, rfl, rfl, _, rfl, ite2 (fun c => qs q ?_) (fun c => ⟨_, rfl, qs q ?_⟩)⟩
  · have c' : decide (V.str (S (bn (handB h 0 ++ handB h 1))) = V.str (Str.ofString "")) = true := c
    rw [dstr, S_empty] at c'
    have e : bn (handB h 0 ++ handB h 1) = [] := S_inj (of_decide_eq_true c')
    have e2 : handB h 0 ++ handB h 1 = [] := List.map_eq_nil_iff.mp e
    unfold handsB
    rw [if_pos e2]
    exact dash
  · have c' : ¬ decide (V.str (S (bn (handB h 0 ++ handB h 1))) = V.str (Str.ofString "")) = true := c
    rw [dstr, S_empty] at c'
    have e2 : ¬ handB h 0 ++ handB h 1 = [] := fun z => c' (decide_eq_true (by rw [z]; rfl))
    unfold handsB
    rw [if_neg e2]
/-! ### the whole -/
def rowB (q : List Nat) (i : Nat) : List UInt8 := Ql32.rowText (((brd q).drop (9 * i)).take 9) 0
def sp_write_position (K : PySem.W.Frag) : Sp := fun vs H Q _ => ∃ (ap : Addr) (q : List Nat), vs = [.ref ap] ∧ SqL K H ap (q.map vn) ∧ q.length = 97 ∧ (∀ x ∈ q, x ≤ 65535) ∧ (∀ c ∈ brd q, c = 0 ∨ isPc c = true) ∧
  ∀ H', Same H H' → Q (.str (S (bn (Ql32.text (posN q))))) H'
theorem slash : (Str.ofString "/") = S (bn [47]) := by decide +kernel
theorem blank : (Str.ofString " ") = S (bn [32]) := by decide +kernel
theorem bb : (Str.ofString "b") = S (bn [98]) := by decide +kernel
theorem ww : (Str.ofString "w") = S (bn [119]) := by decide +kernel
theorem glue_fold (g : List Nat) : ∀ (l : List (List Nat)) (acc : List Nat), (l.map S).foldl (fun acc p => acc ++ (S g).cps ++ p.cps) acc.toArray = (acc ++ l.flatMap (fun x => g ++ x)).toArray
  | [], acc => by simp
  | x :: r, acc => by
    rw [List.map_cons, List.foldl_cons]
    have e : acc.toArray ++ (S g).cps ++ (S x).cps = (acc ++ (g ++ x)).toArray := by
      show acc.toArray ++ g.toArray ++ x.toArray = _
      rw [List.append_toArray, List.append_toArray, List.append_assoc]
    rw [e, glue_fold g r, List.flatMap_cons, List.append_assoc]
theorem join_S (g x : List Nat) (r : List (List Nat)) : Txt.join (S g) ((x :: r).map S) = S (x ++ r.flatMap (fun y => g ++ y)) := by
  show (⟨(((x :: r).map S).drop 1).foldl (fun acc p => acc ++ (S g).cps ++ p.cps) (((x :: r).map S).headD Str.empty).cps⟩ : Str) = _
  rw [List.map_cons, List.drop_succ_cons, List.drop_zero, List.headD_cons]
  exact congrArg Str.mk (glue_fold g r x)
theorem sum_le {l : List Str} {m : Nat} (h : ∀ x ∈ l, x.length ≤ m) : (l.map (·.length)).sum ≤ l.length * m := by
  induction l with
  | nil => simp
  | cons x r ih =>
    have h1 := h x List.mem_cons_self
    have h2 := ih fun y hy => h y (List.mem_cons_of_mem _ hy)
    rw [List.map_cons, List.sum_cons, List.length_cons, Nat.succ_mul]
    omega
theorem row_of (q : List Nat) {i : Nat} (hi : i < 9) : (q.drop (9 * i)).take 9 = ((brd q).drop (9 * i)).take 9 := by
  unfold brd
  rw [List.drop_take, List.take_take, Nat.min_eq_left (by omega)]
def boardB (q : List Nat) : List UInt8 := (List.range 9).flatMap fun r => (if r = 0 then [] else [47]) ++ rowB q r
theorem text_eq (q : List Nat) : Ql32.text (posN q) = boardB q ++ (32 :: ((if trn q = 0 then [98] else [119]) ++ (32 :: (handsB (hnd q) ++ (32 :: Ql32.decimal (num q)))))) := by
  unfold Ql32.text boardB rowB
  rw [handText_eq]
  rfl
theorem rowB_len (q : List Nat) (i : Nat) : (rowB q i).length ≤ 28 := by
  unfold rowB
  refine Nat.le_trans (row_len _ _) ?_
  have : (((brd q).drop (9 * i)).take 9).length ≤ 9 := by rw [List.length_take]; exact Nat.min_le_left _ _
  omega
theorem boardB_len (q : List Nat) : (boardB q).length ≤ 300 := by
  unfold boardB
  refine Nat.le_trans (flat_len (m := 29) (fun r => ?_) _) (by decide)
  have := rowB_len q r
  rw [List.length_append]
  split
  · simp only [List.length_nil]; omega
  · simp only [List.length_cons, List.length_nil]; omega
theorem handsB_len {h : List Nat} (hh : ∀ x ∈ h, x ≤ 65535) : (handsB h).length ≤ 917600 := by
  have l0 := handB_len (side := 0) hh
  have l1 := handB_len (side := 1) hh
  unfold handsB
  split
  · simp
  · rw [List.length_append]; omega
theorem pos_tail {H : Hp} {Q : VK} {ap : Addr} {q : List Nat} {v1 v2 : Option V} {tc : List UInt8} (hP : SqL K H ap (q.map vn)) (hlen : q.length = 97) (hsm : ∀ x ∈ q, x ≤ 65535) (ht : tc.length ≤ 1) (et : (if trn q = 0 then [98] else [119]) = tc)
    (k : ∀ H', Same H H' → Q (.str (S (bn (Ql32.text (posN q))))) H') :
    tSeq (tAsg (tCall (sp_write_hands K) [] E0 (tCons (tCall (sp_hands_of K) [] E0 (tCons (tVar 0) tNil)) tNil)) (gName 5))
      (tSeq (tAsg (tCB (fun xs H Q => ∃ i, xs = [V.int i] ∧ i.natAbs.log2 < 1920 ∧ Q (V.str (Str.ofString (toString i))) H) (tCons (tOp (rIxL K) (tVar 0) (tC (V.int 96))) tNil)) (gName 6))
        (tRet (tJoined (jCons (tFmt (tVar 3)) (jCons (tC (V.str (Str.ofString " "))) (jCons (tFmt (tVar 4)) (jCons (tC (V.str (Str.ofString " "))) (jCons (tFmt (tVar 5)) (jCons (tC (V.str (Str.ofString " "))) (jCons (tFmt (tVar 6)) jNil))))))))))
      { nx := fun x H' => Q V.non H', rt := Q } [some (.ref ap), v1, v2, some (.str (S (bn (boardB q)))), some (.str (S (bn tc))), none, none] H := by
  have hh : (hnd q).length = 14 := by unfold hnd; rw [List.length_take, List.length_drop]; omega
  have h96 : q[96]? = some (num q) := by unfold num; rw [List.getD_eq_getElem?_getD, List.getElem?_eq_getElem (by omega)]; rfl
  have hn := hsm _ (List.mem_of_getElem? h96)
  have hsh : ∀ x ∈ hnd q, x ≤ 65535 := fun x hx => hsm x (List.mem_of_mem_drop (List.mem_of_mem_take hx))
  have lb := boardB_len q
  have lh := handsB_len hsh
  have ld := decimal_len (num q)
  refine ⟨_, rfl, ap, q, rfl, hP, hlen, fun p2 H2 g2 _ e2 => ?_⟩
  have e2 : H2 p2 = some (.lst ((hnd q).map vn)) := e2
  refine ⟨p2, hnd q, rfl, SqL.of e2, hh, hsh, ?_⟩
  refine ⟨_, rfl, ap, _, _, _, rfl, rfl, g2.seq hP, nat_atI h96, _, rfl, log_small hn, ?_⟩
  rw [S_num, blank]
  have e0 : Str.empty = S [] := rfl
  refine ⟨_, rfl, _, rfl, ?_, _, rfl, ?_, ?_⟩
  · rw [S_len, bn_len]; exact fits (by omega)
  · rw [e0, S_app, S_len, List.nil_append, bn_len]; exact fits (by omega)
  rw [e0, S_app, List.nil_append]
  refine ⟨_, rfl, ?_, ?_⟩
  · rw [S_app, S_len, ← bn_app, bn_len, List.length_append]; exact fits (by simp only [List.length_cons, List.length_nil]; omega)
  rw [S_app, ← bn_app]
  refine ⟨_, rfl, _, rfl, ?_, _, rfl, ?_, ?_⟩
  · rw [S_len, bn_len]; exact fits (by omega)
  · rw [S_app, S_len, ← bn_app, bn_len, List.length_append, List.length_append]; exact fits (by simp only [List.length_cons, List.length_nil]; omega)
  rw [S_app, ← bn_app]
  refine ⟨_, rfl, ?_, ?_⟩
  · rw [S_app, S_len, ← bn_app, bn_len]; exact fits (by simp only [List.length_append, List.length_cons, List.length_nil]; omega)
  rw [S_app, ← bn_app]
  refine ⟨_, rfl, _, rfl, ?_, _, rfl, ?_, ?_⟩
  · rw [S_len, bn_len]; exact fits (by omega)
  · rw [S_app, S_len, ← bn_app, bn_len]; exact fits (by simp only [List.length_append, List.length_cons, List.length_nil]; omega)
  rw [S_app, ← bn_app]
  refine ⟨_, rfl, ?_, ?_⟩
  · rw [S_app, S_len, ← bn_app, bn_len]; exact fits (by simp only [List.length_append, List.length_cons, List.length_nil]; omega)
  rw [S_app, ← bn_app]
  refine ⟨_, rfl, _, rfl, ?_, _, rfl, ?_, ?_, ?_⟩
  · rw [S_len, bn_len]; exact fits (by omega)
  · rw [S_app, S_len, ← bn_app, bn_len]; exact fits (by simp only [List.length_append, List.length_cons, List.length_nil]; omega)
  · rw [S_app, S_len, ← bn_app, bn_len]; exact fits (by simp only [List.length_append, List.length_cons, List.length_nil]; omega)
  rw [S_app, ← bn_app]
  refine qs (k _ g2) ?_
  rw [text_eq, et]
  simp only [List.append_assoc, List.cons_append, List.nil_append]
theorem ok_write_position (T : Txt K mg) : Fn P w K mg base "write_position" 4 P_write_position (sp_write_position K) := by
  have nd := sc_write_position.nd
  have F_write_row := ok_write_row (P := P) (w := w) (base := base) T
  have F_write_hands := ok_write_hands (P := P) (w := w) (base := base) T
  have F_hands_of := ok_hands_of (P := P) (w := w) (base := base) T
  refine T.s_write_position.ok sc_write_position (fun vs H Q E h => ?_) (fun f cdv A outer s H vs Q E hr h => ?_)
  · obtain ⟨_, _, rfl, _⟩ := h; rfl
  obtain ⟨ap, q, rfl, hP, hlen, hsm, hkn, k⟩ := h
  have hb : (brd q).length = 81 := by unfold brd; rw [List.length_take]; omega
  have hh : (hnd q).length = 14 := by unfold hnd; rw [List.length_take, List.length_drop]; omega
  have h95 : q[95]? = some (trn q) := by unfold trn; rw [List.getD_eq_getElem?_getD, List.getElem?_eq_getElem (by omega)]; rfl
  have h96 : q[96]? = some (num q) := by unfold num; rw [List.getD_eq_getElem?_getD, List.getElem?_eq_getElem (by omega)]; rfl
  refine ⟨_, (pss_cons (ps_setLc (i := 1) rfl nd rfl rfl (by with_unfolding_all rfl) (pi_range3 rfl T.n_range (pa_cons pe_int (pa_cons pe_int (pa_cons pe_int pa_nil)))) (blk_of (own := [("start", 2)]) (by with_unfolding_all rfl)) (fun _ _ _ _ _ => (pg_name (i := 2) nd rfl (by first | exact Or.inl rfl | exact Or.inr rfl))) (fun _ _ _ _ _ => pts_nil) (fun _ _ _ _ _ => (pe_fn F_write_row (hr.mono (by decide)) rfl (pa_cons (pe_slice (sl_listK (K := K) rfl) (pv 0) (po_some (pv 2)) (po_some (pe_op op_add (pv 2) pe_int))) pa_nil))))
    (pss_cons (ps_set (i := 3) nd rfl (by first | exact Or.inl rfl | exact Or.inr rfl) (pe_join pe_str (pv 1)))
    (pss_cons (ps_set (i := 4) nd rfl (by first | exact Or.inl rfl | exact Or.inr rfl) (pe_ifExp (pt_cmpR op_eq (pe_ix ix_list (pv 0) (pe_gi T.c_TURN rfl) (fun _ _ => rfl)) pe_int (nomark _)) pe_str pe_str))
    (pss_cons (ps_set (i := 5) nd rfl (by first | exact Or.inl rfl | exact Or.inr rfl) (pe_fn F_write_hands (hr.mono (by decide)) rfl (pa_cons (pe_fn F_hands_of (hr.mono (by decide)) rfl (pa_cons (pv 0) pa_nil)) pa_nil)))
    (pss_cons (ps_set (i := 6) nd rfl (by first | exact Or.inl rfl | exact Or.inr rfl) (pe_callTy call_str_int rfl T.n_str boot_str (pa_cons (pe_ix ix_list (pv 0) (pe_gi T.c_NUMBER rfl) (fun _ _ => rfl)) pa_nil)))
    (pss_one (ps_ret (pe_joined (pj_cons (pe_fmt (pv 3)) (pj_cons pe_str (pj_cons (pe_fmt (pv 4)) (pj_cons pe_str (pj_cons (pe_fmt (pv 5)) (pj_cons pe_str (pj_cons (pe_fmt (pv 6)) pj_nil))))))))))))))), ?_⟩
  refine ⟨0, 81, 9, 9, rfl, ⟨by decide, by decide, by decide, by decide⟩, lc_gen (J := Itc 0 9 9) (n := 9) (fun i => some (.str (S (bn (rowB q i))))) (by decide) (fun i H' hi sm => hi) (fun H' sm => Nat.le_refl _) (fun i v H2 H3 K1 K0 hi sm hy => ?_) (fun D H1 sm hD hl => ?_)⟩
  · obtain ⟨rfl, rfl⟩ := hy
    refine ⟨Same.refl _, fun h1 h0 => ⟨rfl, iteT (B := K0 H3) ?_⟩⟩
    have ea : (0 + (i : Int) * 9) = ((9 * i : Nat) : Int) := by omega
    have ec : (0 + (i : Int) * 9 + 9) = ((9 * i + 9 : Nat) : Int) := by omega
    refine ⟨_, rfl, _, rfl, _, rfl, _, rfl, _, _, rfl, rfl, _, rfl, ap, _, rfl, sm.seq hP, fun p hp => ?_⟩
    rw [ec, ea, cut_nats (q := q) (a := 9 * i) (c := 9 * i + 9) (by omega) (by omega), show 9 * i + 9 - 9 * i = 9 by omega, row_of q hi]
    refine ⟨p, ((brd q).drop (9 * i)).take 9, rfl, SqL.of upd_same, by rw [List.length_take]; exact Nat.min_le_left _ _, fun c hc => hkn c (List.mem_of_mem_drop (List.mem_of_mem_take hc)), h1 _ _ (same_new hp _) rfl⟩
  · rw [range_some] at hl
    have hl2 : H1 D = some (.lst (((List.range 9).map fun i => S (bn (rowB q i))).map V.str)) := by rw [hl, List.map_map]; rfl
    refine ⟨⟨_, rfl⟩, _, rfl, _, D, (List.range 9).map fun i => S (bn (rowB q i)), rfl, rfl, .inl (SqL.of hl2), ?_, ?_⟩
    · have z := sum_le (l := (List.range 9).map fun i => S (bn (rowB q i))) (m := 28) fun x hx => by
        obtain ⟨i, _, rfl⟩ := List.mem_map.mp hx
        rw [S_len, bn_len]; exact rowB_len q i
      rw [slash, S_len, bn_len, List.length_map, List.length_range]
      rw [List.length_map, List.length_range] at z
      simp only [List.length_cons, List.length_nil]
      omega
    have ej : Txt.join (Str.ofString "/") ((List.range 9).map fun i => S (bn (rowB q i))) = S (bn (boardB q)) := by
      rw [slash]
      have e1 : ((List.range 9).map fun i => S (bn (rowB q i))) = (bn (rowB q 0) :: ([1, 2, 3, 4, 5, 6, 7, 8].map fun i => bn (rowB q i))).map S := rfl
      rw [e1, join_S]
      refine congrArg S ?_
      unfold boardB
      have e2 : List.range 9 = 0 :: [1, 2, 3, 4, 5, 6, 7, 8] := rfl
      rw [e2]
      simp only [List.flatMap_cons, List.flatMap_nil, List.map_cons, List.map_nil, List.append_nil, bn_app, if_true, List.nil_append, bn_nil]
      simp [bn]
    rw [ej]
    have hP1 := sm.seq hP
    refine ⟨_, rfl, ap, _, _, _, rfl, rfl, hP1, nat_atI h95, rfl, _, rfl, ite2 (fun c => ?_) (fun c => ?_)⟩
    · have c' : decide (vn (trn q) = V.int 0) = true := c
      rw [dint] at c'
      have h0 : trn q = 0 := by have := of_decide_eq_true c'; omega
      rw [bb]
      exact pos_tail hP1 hlen hsm (Nat.le_refl 1) (by rw [if_pos h0]) fun H' g => k H' (sm.trans g)
    · have c' : ¬ decide (vn (trn q) = V.int 0) = true := c
      rw [dint] at c'
      have h0 : ¬ trn q = 0 := fun z => c' (by rw [z]; rfl)
      rw [ww]
      exact pos_tail hP1 hlen hsm (Nat.le_refl 1) (by rw [if_neg h0]) fun H' g => k H' (sm.trans g)
end
end Km

end

section
set_option linter.all false
set_option maxRecDepth 100000
set_option maxHeartbeats 4000000
namespace Km
open PySem PySem.Spec PyProof.Rows L2
section
variable {P : Program} {w : World} {K : PySem.W.Frag} {mg : Str → Option Value} {base : Heap}
theorem known_or {b : List Nat} (h : b.all (fun c => c == 0 || isPc c) = true) : ∀ c ∈ b, c = 0 ∨ isPc c = true := fun c hc => by
  rcases Bool.or_eq_true_iff.mp (List.all_eq_true.mp h c hc) with z | z
  · exact .inl (by simpa using z)
  · exact .inr z
theorem canBe_known {q : List Nat} (h : canBe q = true) : ∀ c ∈ brd q, c = 0 ∨ isPc c = true := by
  unfold canBe at h
  exact known_or (Bool.and_eq_true_iff.mp (Bool.and_eq_true_iff.mp h).2).1
def outT (q : List Nat) : List Int := if canBe q = true then ((Ql32.text (posN q)).length : Int) :: (bn (Ql32.text (posN q))).map (fun n : Nat => (n : Int)) else [-2]
theorem text_len {q : List Nat} (hl : q.length = 97) (hsm : ∀ x ∈ q, x ≤ 65535) : (Ql32.text (posN q)).length ≤ 1000000 := by
  have h96 : q[96]? = some (num q) := by unfold num; rw [List.getD_eq_getElem?_getD, List.getElem?_eq_getElem (by omega)]; rfl
  have hn := hsm _ (List.mem_of_getElem? h96)
  have hsh : ∀ x ∈ hnd q, x ≤ 65535 := fun x hx => hsm x (List.mem_of_mem_drop (List.mem_of_mem_take hx))
  have lb := boardB_len q
  have lh := handsB_len hsh
  have ld := decimal_len (num q)
  rw [text_eq]
  have lt : ((if trn q = 0 then [98] else [119]) : List UInt8).length ≤ 1 := by split <;> simp
  simp only [List.length_append, List.length_cons]
  omega
def sp_sg_text (K : PySem.W.Frag) : Sp := fun vs H Q _ => ∃ (ap : Addr) (q : List Nat), vs = [.ref ap] ∧ SqL K H ap (q.map vn) ∧ q.length = 97 ∧ (∀ x ∈ q, x ≤ 65535) ∧ ∀ (r : Addr) (H' : Hp), H' r = some (.lst ((outT q).map V.int)) → Q (.ref r) H'
theorem ok_sg_text (T : Txt K mg) : Fn P w K mg base "sg_text" 7 P_sg_text (sp_sg_text K) := by
  have nd := sc_sg_text.nd
  have F_can_be := ok_can_be (P := P) (w := w) (base := base) T
  have F_write_position := ok_write_position (P := P) (w := w) (base := base) T
  have F_told := ok_told (P := P) (w := w) (base := base) T
  refine T.s_sg_text.ok sc_sg_text (fun vs H Q E h => ?_) (fun f cdv A outer s H vs Q E hr h => ?_)
  · obtain ⟨_, _, rfl, _⟩ := h; rfl
  obtain ⟨ap, q, rfl, hP, hlen, hsm, k⟩ := h
  refine ⟨_, (pss_cons (ps_if (pt_not (pt_truth (pe_fn F_can_be (hr.mono (by decide)) rfl (pa_cons (pv 0) pa_nil)) (fun _ => rfl))) (pss_one (ps_ret (pe_lst (pa_cons (pe_gi T.c_CANNOT_BE rfl) pa_nil)))) pss_nil)
    (pss_one (ps_ret (pe_fn F_told (hr.mono (by decide)) rfl (pa_cons (pe_fn F_write_position (hr.mono (by decide)) rfl (pa_cons (pv 0) pa_nil)) pa_nil))))), ?_⟩
  refine ⟨_, rfl, ap, q, rfl, hP, hlen, fun H1 g1 => ⟨_, rfl, ite2 (fun c => ?_) (fun c => ?_)⟩⟩
  · have c' : (!canBe q) = true := c
    have hc : ¬ canBe q = true := fun z => by rw [z] at c'; cases c'
    refine ⟨(by show 1 ≤ sizeLine; decide), fun r hr0 => k r _ ?_⟩
    rw [upd_same]; unfold outT; rw [if_neg hc]; rfl
  · have c' : ¬ (!canBe q) = true := c
    have hc : canBe q = true := by
      cases e : canBe q with
      | true => rfl
      | false => exact absurd (by rw [e]; rfl) c'
    have tl := text_len hlen hsm
    refine ⟨_, rfl, ap, q, rfl, g1.seq hP, hlen, hsm, canBe_known hc, fun H2 g2 => ?_⟩
    refine ⟨_, rfl, by rw [bn_len]; omega, fun r H3 hr3 => k r _ ?_⟩
    rw [hr3]
    unfold outT
    rw [if_pos hc, bn_len, List.map_cons, List.map_map]
    rfl
end
end Km

end

section
set_option linter.all false
set_option maxRecDepth 100000
set_option maxHeartbeats 4000000
/-! the mirror of can_be is the specification's good -/
namespace Km
open Ql32
theorem pc_piece (c : Nat) : isPc c = piece c := by
  by_cases h : c < 32
  · revert c; decide +kernel
  · unfold isPc piece; simp [h]
theorem sq_eq : squares = List.range 81 := rfl
theorem at_N (q : List Nat) (s : Nat) : at_ (posN q) s = (brd q).getD s 0 := rfl
theorem range_map (b : List Nat) (hb : b.length = 81) : (List.range 81).map (fun s => b.getD s 0) = b := by
  have := L2.map_range b id 0
  rw [hb, List.map_id] at this
  exact this
theorem countP_sq (b : List Nat) (hb : b.length = 81) (f : Nat → Bool) : ((List.range 81).filter fun s => f (b.getD s 0)).length = b.countP f := by
  rw [← List.countP_eq_length_filter]
  conv => rhs; rw [← range_map b hb, List.countP_map]
  rfl
theorem bump_getD (cs : List Nat) (k a j : Nat) (hk : k < cs.length) : (bump cs k a).getD j 0 = if j = k then cs.getD j 0 + a else cs.getD j 0 := by
  unfold bump
  rw [List.getD_eq_getElem?_getD, List.getD_eq_getElem?_getD, List.getElem?_set]
  by_cases h : k = j
  · subst h; simp [hk]
  · have h' : ¬ j = k := fun z => h z.symm
    simp [h, h']
theorem cnt1_get (b : List Nat) (k : Nat) : (cnt1 b).getD k 0 = b.countP (fun c => c != 0 && (c - 1) % 8 + 1 == k) := by
  have gen : ∀ (l cs : List Nat), cs.length = 9 → (l.foldl (fun cs c => if c = 0 then cs else bump cs ((c - 1) % 8 + 1) 1) cs).getD k 0 = cs.getD k 0 + l.countP (fun c => c != 0 && (c - 1) % 8 + 1 == k) := by
    intro l
    induction l with
    | nil => intro cs h; simp
    | cons x r ih =>
      intro cs h
      rw [List.foldl_cons, List.countP_cons]
      by_cases hx : x = 0
      · subst hx
        simp only [if_true]
        rw [ih cs h]; simp
      · rw [if_neg hx, ih _ (by rw [bump_len]; exact h), bump_getD _ _ _ _ (by omega)]
        by_cases hk : k = (x - 1) % 8 + 1
        · rw [if_pos hk]
          have : (x != 0 && (x - 1) % 8 + 1 == k) = true := by simp [hx, ← hk]
          rw [this]; simp; omega
        · rw [if_neg hk]
          have : (x != 0 && (x - 1) % 8 + 1 == k) = false := by
            have : ((x - 1) % 8 + 1 == k) = false := by simp; omega
            rw [this]; simp
          rw [this]; simp
  unfold cnt1
  rw [gen b _ rfl]
  have : (List.replicate 9 0).getD k 0 = 0 := by
    rw [List.getD_eq_getElem?_getD, List.getElem?_replicate]
    split <;> rfl
  omega
theorem cnt2_get (cs h : List Nat) (hc : cs.length = 9) (k : Nat) : ∀ n, (cnt2 cs h n).getD k 0 = cs.getD k 0 + (((List.range n).filter fun i => i % 7 + 1 == k).map fun i => h.getD i 0).sum
  | 0 => by simp [cnt2]
  | n + 1 => by
    rw [cnt2_succ, bump_getD _ _ _ _ (by rw [cnt2_len cs h n hc]; omega), cnt2_get cs h hc k n, List.range_succ, List.filter_append, List.map_append, List.sum_append]
    by_cases hk : k = n % 7 + 1
    · rw [if_pos hk]
      have : (n % 7 + 1 == k) = true := by simp [← hk]
      simp [List.filter_cons, this]; omega
    · rw [if_neg hk]
      have : (n % 7 + 1 == k) = false := by simp; omega
      simp [List.filter_cons, this]
theorem hand_two : ∀ k : Nat, k < 8 → 1 ≤ k → ((List.range 14).filter fun i => i % 7 + 1 == k) = [7 * 0 + (k - 1), 7 * 1 + (k - 1)] := by decide +kernel
theorem base_plain : ∀ c : Nat, c < 32 → isPc c = true → base (kindOf c) = (c - 1) % 8 + 1 := by decide +kernel
theorem count_eq {q : List Nat} (hb : (brd q).length = 81) (hk : (brd q).all (fun c => c == 0 || isPc c) = true) {k : Nat} (h1 : 1 ≤ k) (h8 : k < 8) : (cnt2 (cnt1 (brd q)) (hnd q) 14).getD k 0 = count (posN q) k := by
  rw [cnt2_get _ _ (cnt1_len _), cnt1_get, hand_two k h8 h1]
  unfold count
  have e1 : (squares.filter fun s => at_ (posN q) s != 0 && base (kindOf (at_ (posN q) s)) == k).length = (brd q).countP (fun c => c != 0 && base (kindOf c) == k) := by
    simp only [sq_eq, at_N]
    exact countP_sq (brd q) hb (fun c => c != 0 && base (kindOf c) == k)
  rw [e1]
  have e2 : (brd q).countP (fun c => c != 0 && base (kindOf c) == k) = (brd q).countP (fun c => c != 0 && (c - 1) % 8 + 1 == k) := by
    refine List.countP_congr fun c hc => ?_
    have hc' := List.all_eq_true.mp hk c hc
    by_cases h0 : c = 0
    · subst h0; simp
    · have hp : isPc c = true := by
        rcases Bool.or_eq_true_iff.mp hc' with z | z
        · exact absurd (by simpa using z) h0
        · exact z
      rw [base_plain c (pc_lt hp) hp]
  rw [e2]
  unfold hands
  simp only [List.map_cons, List.map_nil, List.sum_cons, List.sum_nil]
  show _ = _ + (hnd q).getD (7 * 0 + (k - 1)) 0 + (hnd q).getD (7 * 1 + (k - 1)) 0
  omega
theorem kinds_gen (cs : List Nat) : (List.range 8).filterMap (fun i => if 0 < i then some (decide (cs.getD i 0 ≤ mosts.getD i 0)) else none) = (List.range 7).map (fun i => decide (cs.getD (i + 1) 0 ≤ mosts.getD (i + 1) 0)) := by
  rw [show List.range 8 = [0, 1, 2, 3, 4, 5, 6, 7] from rfl, show List.range 7 = [0, 1, 2, 3, 4, 5, 6] from rfl]
  simp only [List.filterMap_cons, List.filterMap_nil, List.map_cons, List.map_nil, Nat.lt_irrefl, if_false, Nat.zero_lt_succ, if_true, Nat.reduceLT, Nat.reduceAdd]
theorem most_at : ∀ i : Nat, i < 7 → mosts.getD (i + 1) 0 = MOST.getD i 0 := by decide
theorem kinds_eq {q : List Nat} (hb : (brd q).length = 81) (hk : (brd q).all (fun c => c == 0 || isPc c) = true) : kindsOk (brd q) (hnd q) = (List.range 7).all (fun i => decide (count (posN q) (i + 1) ≤ MOST.getD i 0)) := by
  have hcnt : ∀ k, 1 ≤ k → k < 8 → (cnt2 (cnt1 (brd q)) (hnd q) 14).getD k 0 = count (posN q) k := fun k h1 h8 => count_eq hb hk h1 h8
  unfold kindsOk kindAt
  generalize cnt2 (cnt1 (brd q)) (hnd q) 14 = cs at hcnt
  rw [kinds_gen, List.all_map, Bool.eq_iff_iff, List.all_eq_true, List.all_eq_true]
  refine forall_congr' fun i => ?_
  refine forall_congr' fun hi => ?_
  have hi' := List.mem_range.mp hi
  rw [Function.comp_apply, id_eq, hcnt (i + 1) (by omega) (by omega), most_at i hi']
theorem king_count {q : List Nat} (hb : (brd q).length = 81) (k : Nat) : (squares.filter fun s => at_ (posN q) s == k).length = (brd q).count k := by
  simp only [sq_eq, at_N]
  exact countP_sq (brd q) hb (fun c => c == k)
/-! ### columns -/
theorem col_squares : ∀ col : Nat, col < 9 → (List.range 81).filter (fun s => s % 9 == col) = (List.range 9).map fun r => 9 * r + col := by decide +kernel
theorem col_range : ∀ col : Nat, col < 9 → PySem.sliceRange (PySem.sliceBounds (some (col : Int)) (some 81) (some 9) 81).1 (PySem.sliceBounds (some (col : Int)) (some 81) (some 9) 81).2.1 (PySem.sliceBounds (some (col : Int)) (some 81) (some 9) 81).2.2 = (List.range 9).map fun r => 9 * r + col := by decide +kernel
theorem fm_congr {α β : Type} {f g : α → Option β} : ∀ {l : List α}, (∀ x ∈ l, f x = g x) → l.filterMap f = l.filterMap g
  | [], _ => rfl
  | a :: r, h => by
    rw [List.filterMap_cons, List.filterMap_cons, h a List.mem_cons_self, fm_congr fun x hx => h x (List.mem_cons_of_mem _ hx)]
theorem colOf_eq {b : List Nat} (hb : b.length = 81) {col : Nat} (hc : col < 9) : colOf b col = (List.range 9).map fun r => b.getD (9 * r + col) 0 := by
  unfold colOf L2.cutBy
  rw [hb, col_range col hc, List.filterMap_map]
  rw [← L2.range_some]
  refine fm_congr fun r hr => ?_
  have hr' := List.mem_range.mp hr
  show b[9 * r + col]? = some (b.getD (9 * r + col) 0)
  rw [List.getD_eq_getElem?_getD, List.getElem?_eq_getElem (by omega)]; rfl
theorem pawns_eq {q : List Nat} (hb : (brd q).length = 81) {col : Nat} (hc : col < 9) (who : Nat) : pawns (posN q) who col = (colOf (brd q) col).count (1 + 16 * who) := by
  unfold pawns
  rw [colOf_eq hb hc, ← List.countP_eq_length_filter]
  have e1 : (squares.countP fun s => s % 9 == col && at_ (posN q) s == 1 + 16 * who) = ((List.range 81).filter (fun s => s % 9 == col)).countP fun s => (brd q).getD s 0 == 1 + 16 * who := by
    rw [List.countP_filter]
    simp only [sq_eq, at_N]
    refine List.countP_congr fun s hs => ?_
    rw [Bool.and_comm]
  rw [e1, col_squares col hc, List.countP_map, List.count_eq_countP, List.countP_map]
  refine List.countP_congr fun s hs => ?_
  rfl
/-! ### check -/
theorem along_bp (p : Pos) (who : Nat) (d : Int × Int) : ∀ (k s : Nat), along p who d k s = along (bp p.board) who d k s
  | 0, _ => rfl
  | k + 1, s => by
    unfold along
    cases to s who d with
    | none => rfl
    | some t =>
      show (if at_ p t = 0 then t :: along p who d k t else [t]) = (if at_ (bp p.board) t = 0 then t :: along (bp p.board) who d k t else [t])
      rw [along_bp p who d k t]; rfl
theorem steps_same : ∀ k : Nat, k < 16 → (∀ d ∈ (nearL k).map wd, d ∈ steps k) ∧ (∀ d ∈ steps k, d ∈ (nearL k).map wd) ∧ (farL k).map wd = ways k := by decide +kernel
theorem reach_mem {q : List Nat} {s x : Nat} : x ∈ reachM (brd q) s ↔ x ∈ reach (posN q) s := by
  obtain ⟨h1, h2, h3⟩ := steps_same ((brd q).getD s 0 % 16) (Nat.mod_lt _ (by decide))
  unfold reachM reach
  dsimp only
  rw [List.mem_append, List.mem_append]
  have ek : kindOf (at_ (posN q) s) = (brd q).getD s 0 % 16 := rfl
  have eo : ownerOf (at_ (posN q) s) = (brd q).getD s 0 / 16 := rfl
  rw [ek, eo, ← h3]
  have e2 : ((farL ((brd q).getD s 0 % 16)).map wd).flatMap (fun d => along (posN q) ((brd q).getD s 0 / 16) d 8 s) = (farL ((brd q).getD s 0 % 16)).flatMap (farTo (brd q) ((brd q).getD s 0) s) := by
    rw [List.flatMap_map]
    refine congrArg (fun f => List.flatMap f _) ?_
    funext d
    rw [along_bp]; rfl
  rw [e2]
  have e1 : x ∈ (nearL ((brd q).getD s 0 % 16)).filterMap (nearTo ((brd q).getD s 0) s) ↔ x ∈ (steps ((brd q).getD s 0 % 16)).filterMap (fun d => to s ((brd q).getD s 0 / 16) d) := by
    rw [List.mem_filterMap, List.mem_filterMap]
    constructor
    · rintro ⟨d, hd, e⟩
      exact ⟨wd d, h1 _ (List.mem_map.mpr ⟨d, hd, rfl⟩), e⟩
    · rintro ⟨d, hd, e⟩
      obtain ⟨d', hd', rfl⟩ := List.mem_map.mp (h2 d hd)
      exact ⟨d', hd', e⟩
  rw [e1]
theorem check_eq {q : List Nat} (hb : (brd q).length = 81) (hk : ∀ c ∈ brd q, c < 32) {side : Nat} (hs : side < 2) (hc : (brd q).count (8 + 16 * side) = 1) : check (posN q) side = chk (brd q) side (kingIx (brd q) side) := by
  obtain ⟨hf, _, _⟩ := king_at hb hc
  unfold check
  have e : kingOf (posN q) side = some (kingIx (brd q) side) := hf
  rw [e]
  unfold chk
  have any_congr : ∀ {f g : Nat → Bool} (l : List Nat), (∀ s, f s = g s) → l.any f = l.any g := fun {f g} l h => by rw [show f = g from funext h]
  dsimp only
  rw [sq_eq]
  refine any_congr _ fun s => ?_
  unfold mine hits
  have ea : at_ (posN q) s = (brd q).getD s 0 := rfl
  rw [ea]
  have hlt : (brd q).getD s 0 < 32 := by
    rw [List.getD_eq_getElem?_getD]
    cases e : (brd q)[s]? with
    | none => decide
    | some v => exact hk v (List.mem_of_getElem? e)
  have eo : (ownerOf ((brd q).getD s 0) == 1 - side) = ((brd q).getD s 0 / 16 != side) := by
    rw [Bool.eq_iff_iff, beq_iff_eq, bne_iff_ne]
    show (brd q).getD s 0 / 16 = 1 - side ↔ _
    omega
  have er : (reach (posN q) s).contains (kingIx (brd q) side) = decide (kingIx (brd q) side ∈ reachM (brd q) s) := by
    rw [Bool.eq_iff_iff, List.contains_iff_mem, decide_eq_true_eq, reach_mem]
  rw [eo, er, Bool.and_assoc]
theorem stuck_eq (q : List Nat) : (!((List.range 81).any (stuckAt (brd q)))) = squares.all (fun s => at_ (posN q) s == 0 || !(stuck (kindOf (at_ (posN q) s)) (ownerOf (at_ (posN q) s)) s)) := by
  have all_congr : ∀ {f g : Nat → Bool} (l : List Nat), (∀ s, f s = g s) → l.all f = l.all g := fun {f g} l h => by rw [show f = g from funext h]
  rw [List.not_any_eq_all_not, sq_eq]
  refine all_congr _ fun s => ?_
  unfold stuckAt nev
  have ea : at_ (posN q) s = (brd q).getD s 0 := rfl
  rw [ea]
  show (!((brd q).getD s 0 != 0 && stuck ((brd q).getD s 0 % 16) ((brd q).getD s 0 / 16) s)) = ((brd q).getD s 0 == 0 || !(stuck ((brd q).getD s 0 % 16) ((brd q).getD s 0 / 16) s))
  rw [Bool.not_and]
  simp [bne]
theorem good_eq {q : List Nat} (hl : q.length = 97) : canBe q = good (posN q) := by
  have hb : (brd q).length = 81 := by unfold brd; rw [List.length_take]; omega
  unfold canBe good
  have e0 : (brd q).all (fun c => c == 0 || isPc c) = (posN q).board.all (fun c => c == 0 || piece c) := by
    refine congrArg (fun f => (brd q).all f) (funext fun c => ?_)
    rw [pc_piece]
  show (decide (trn q ≤ 1) && _) = (decide (trn q ≤ 1) && _)
  cases ht : decide (trn q ≤ 1) with
  | false => rfl
  | true =>
    rw [Bool.true_and, Bool.true_and, ← e0]
    cases hk : (brd q).all (fun c => c == 0 || isPc c) with
    | false => rfl
    | true =>
      rw [Bool.true_and, Bool.true_and, kinds_eq hb hk]
      refine congrArg _ ?_
      rw [stuck_eq]
      have e1 : ([0, 1].all (fun w => (squares.filter fun s => at_ (posN q) s == 8 + 16 * w).length == 1 && (List.range 9).all fun c => decide (pawns (posN q) w c ≤ 1))) = (kings (brd q) && (List.range 9).all (colOk (brd q))) := by
        have ep : ∀ who, ((List.range 9).all fun c => decide (pawns (posN q) who c ≤ 1)) = (List.range 9).all fun c => decide ((colOf (brd q) c).count (1 + 16 * who) ≤ 1) := fun who => by
          refine Bool.eq_iff_iff.mpr ?_
          rw [List.all_eq_true, List.all_eq_true]
          refine forall_congr' fun c => ⟨fun h hc => ?_, fun h hc => ?_⟩
          · rw [← pawns_eq hb (List.mem_range.mp hc)]; exact h hc
          · rw [pawns_eq hb (List.mem_range.mp hc)]; exact h hc
        have ec : (List.range 9).all (colOk (brd q)) = ((List.range 9).all (fun c => decide ((colOf (brd q) c).count (1 + 16 * 0) ≤ 1)) && (List.range 9).all (fun c => decide ((colOf (brd q) c).count (1 + 16 * 1) ≤ 1))) := by
          refine Bool.eq_iff_iff.mpr ?_
          rw [Bool.and_eq_true, List.all_eq_true, List.all_eq_true, List.all_eq_true]
          constructor
          · intro h
            exact ⟨fun c hc => (Bool.and_eq_true_iff.mp (h c hc)).1, fun c hc => (Bool.and_eq_true_iff.mp (h c hc)).2⟩
          · intro h c hc
            exact Bool.and_eq_true_iff.mpr ⟨h.1 c hc, h.2 c hc⟩
        simp only [List.all_cons, List.all_nil, Bool.and_true]
        rw [king_count hb, king_count hb, ep 0, ep 1, ec]
        unfold kings
        generalize ((List.range 9).all fun c => decide ((colOf (brd q) c).count (1 + 16 * 0) ≤ 1)) = x
        generalize ((List.range 9).all fun c => decide ((colOf (brd q) c).count (1 + 16 * 1) ≤ 1)) = y
        show (((brd q).count 8 == 1 && x) && ((brd q).count 24 == 1 && y)) = (((brd q).count 8 == 1 && (brd q).count 24 == 1) && (x && y))
        cases ((brd q).count 8 == 1) <;> cases ((brd q).count 24 == 1) <;> cases x <;> cases y <;> rfl
      rw [e1]
      cases hkg : kings (brd q) with
      | false => rfl
      | true =>
        have ht' : trn q ≤ 1 := of_decide_eq_true ht
        have hc : (brd q).count (8 + 16 * (1 - trn q)) = 1 := by
          unfold kings at hkg
          have c4' := Bool.and_eq_true_iff.mp hkg
          have h8 : (brd q).count 8 = 1 := by simpa using c4'.1
          have h24 : (brd q).count 24 = 1 := by simpa using c4'.2
          rcases (show trn q = 0 ∨ trn q = 1 by omega) with z | z
          · rw [z]; exact h24
          · rw [z]; exact h8
        have ech : check (posN q) (1 - (posN q).turn) = chk (brd q) (1 - trn q) (kingIx (brd q) (1 - trn q)) := check_eq hb (known_lt hk) (by omega) hc
        rw [ech, Bool.and_assoc]
end Km

end

section
set_option linter.all false
set_option maxRecDepth 100000
namespace Km
open PySem PySem.Spec PyProof.Rows L2
/-! ### the written part, looked at -/
def strsB : List Value → List Str → Bool
  | [], [] => true
  | .str x _ :: r, y :: l => decide (x = y) && strsB r l
  | _, _ => false
theorem strsB_vals : ∀ {us : List Value} {xs : List Str}, strsB us xs = true → Vals (xs.map V.str) us
  | [], [], _ => .nil
  | .str x t :: r, y :: l, h => by
    have h' := Bool.and_eq_true_iff.mp h
    obtain rfl := of_decide_eq_true h'.1
    exact .cons ⟨t, rfl⟩ (strsB_vals h'.2)
  | [], _ :: _, h => by cases h
  | v :: _, [], h => by cases v <;> cases h
  | .none :: _, _ :: _, h => by cases h
  | .bool _ :: _, _ :: _, h => by cases h
  | .int _ _ :: _, _ :: _, h => by cases h
  | .float _ _ :: _, _ :: _, h => by cases h
  | .bytes _ _ :: _, _ :: _, h => by cases h
  | .ref _ :: _, _ :: _, h => by cases h
  | .type _ :: _, _ :: _, h => by cases h
  | .builtin _ :: _, _ :: _, h => by cases h
def intsB : List Value → List Int → Bool
  | [], [] => true
  | .int x _ :: r, y :: l => decide (x = y) && intsB r l
  | _, _ => false
theorem intsB_vals : ∀ {us : List Value} {xs : List Int}, intsB us xs = true → Vals (xs.map V.int) us
  | [], [], _ => .nil
  | .int x t :: r, y :: l, h => by
    have h' := Bool.and_eq_true_iff.mp h
    obtain rfl := of_decide_eq_true h'.1
    exact .cons ⟨t, rfl⟩ (intsB_vals h'.2)
  | [], _ :: _, h => by cases h
  | v :: _, [], h => by cases v <;> cases h
  | .none :: _, _ :: _, h => by cases h
  | .bool _ :: _, _ :: _, h => by cases h
  | .str _ _ :: _, _ :: _, h => by cases h
  | .float _ _ :: _, _ :: _, h => by cases h
  | .bytes _ _ :: _, _ :: _, h => by cases h
  | .ref _ :: _, _ :: _, h => by cases h
  | .type _ :: _, _ :: _, h => by cases h
  | .builtin _ :: _, _ :: _, h => by cases h
def tupOf (K : PySem.W.Frag) (v : Value) : Option (List Value) := match v with
  | .ref a => (match K.lookup a with
    | some o => if o.cls = .type "tuple" then (match o.data with
      | .seq its _ => if its.size ≤ 1000 then some its.toList else none
      | _ => none) else none
    | none => none)
  | _ => none
theorem tupOf_some {K : PySem.W.Frag} {v : Value} {us : List Value} (h : tupOf K v = some us) : ∃ a, v = .ref a ∧ ∀ (H : Hp) (xs : List V), Vals xs us → SqT K H a xs := by
  unfold tupOf at h
  split at h
  · rename_i a
    refine ⟨a, rfl, fun H xs hv => ?_⟩
    split at h
    · rename_i o ho
      split at h
      · rename_i hc
        split at h
        · rename_i its n hd
          split at h
          · rename_i hs
            cases h
            exact .inr ⟨o, its, n, ho, hc, hd, small hs, hv⟩
          · cases h
        · cases h
      · cases h
    · cases h
  · cases h
def stepB (K : PySem.W.Frag) (v : Value) (d : Step) : Bool := match tupOf K v with
  | some us => intsB us [d.1, d.2]
  | none => false
def stepsB (K : PySem.W.Frag) : List Value → List Step → Bool
  | [], [] => true
  | v :: r, d :: l => stepB K v d && stepsB K r l
  | _, _ => false
theorem stepsB_some {K : PySem.W.Frag} : ∀ {us : List Value} {l : List Step}, stepsB K us l = true → ∃ ps : List Addr, Vals (ps.map V.ref) us ∧ Paired (fun (p : Addr) (d : Step) => ∀ H, SqT K H p [.int d.1, .int d.2]) ps l
  | [], [], _ => ⟨[], .nil, .nil⟩
  | v :: r, d :: l, h => by
    have h' := Bool.and_eq_true_iff.mp h
    obtain ⟨ps, h1, h2⟩ := stepsB_some h'.2
    have h3 := h'.1
    unfold stepB at h3
    split at h3
    · rename_i us hu
      obtain ⟨a, rfl, ha⟩ := tupOf_some hu
      exact ⟨a :: ps, .cons rfl h1, .cons (fun H => ha H _ (intsB_vals (xs := [d.1, d.2]) h3)) h2⟩
    · cases h3
  | [], _ :: _, h => by cases h
  | _ :: _, [], h => by cases h
def stepsAt (K : PySem.W.Frag) (v : Value) (l : List Step) : Bool := match tupOf K v with
  | some us => stepsB K us l
  | none => false
theorem stepsAt_some {K : PySem.W.Frag} {v : Value} {l : List Step} (h : stepsAt K v l = true) : ∃ a, v = .ref a ∧ ∀ H, StepsT K H a l := by
  unfold stepsAt at h
  split at h
  · rename_i us hu
    obtain ⟨a, rfl, ha⟩ := tupOf_some hu
    obtain ⟨ps, h1, h2⟩ := stepsB_some h
    exact ⟨a, rfl, fun H => ⟨ps, ha H _ h1, Paired.mapP h2 fun p d z => z H⟩⟩
  · cases h
def keyB (v : Value) (k : Int) : Bool := match v with
  | .int i _ => decide (i = k)
  | _ => false
theorem keyB_some {v : Value} {k : Int} (h : keyB v k = true) : ∃ t, v = .int k t := by
  unfold keyB at h
  split at h
  · rename_i i t
    obtain rfl := of_decide_eq_true h
    exact ⟨t, rfl⟩
  · cases h
def entB (K : PySem.W.Frag) : List DictEntry → List (Int × List Step) → Bool
  | [], [] => true
  | e :: r, x :: t => (decide (e.hash = hashInt x.1) && (keyB e.key x.1 && stepsAt K e.val x.2)) && entB K r t
  | _, _ => false
theorem entB_some {K : PySem.W.Frag} : ∀ {es : List DictEntry} {tab : List (Int × List Step)}, entB K es tab = true → ∃ as : List Addr,
    Paired (fun (e : DictEntry) (p : Int × V) => e.hash = hashInt p.1 ∧ (∃ t, e.key = .int p.1 t) ∧ RelV p.2 e.val) es ((tab.map (·.1)).zip (as.map V.ref)) ∧ Paired (fun (b : Addr) (x : Int × List Step) => ∀ H, StepsT K H b x.2) as tab
  | [], [], _ => ⟨[], .nil, .nil⟩
  | e :: r, x :: t, h => by
    have h' := Bool.and_eq_true_iff.mp h
    obtain ⟨as, h1, h2⟩ := entB_some h'.2
    have h3 := Bool.and_eq_true_iff.mp h'.1
    have h4 := Bool.and_eq_true_iff.mp h3.2
    obtain ⟨a, ha, hs⟩ := stepsAt_some h4.2
    exact ⟨a :: as, .cons ⟨of_decide_eq_true h3.1, keyB_some h4.1, ha⟩ h1, .cons hs h2⟩
  | [], _ :: _, h => by cases h
  | _ :: _, [], h => by cases h
def dictB (K : PySem.W.Frag) (a : Addr) (tab : List (Int × List Step)) : Bool := !(a == sysModules) && (match K.lookup a with
  | some o => decide (o.cls = .type "dict") && (o.dict.isNone && (o.slots.isEmpty && (match o.data with
    | .dict es _ => entB K es.toList tab
    | _ => false)))
  | none => false)
theorem zip_keys {tab : List (Int × List Step)} : ∀ {as : List Addr}, as.length = tab.length → ((tab.map (·.1)).zip (as.map V.ref)).map (·.1) = tab.map (·.1) := by
  intro as h
  rw [List.map_fst_zip]
  rw [List.length_map, List.length_map, h]; exact Nat.le_refl _
theorem dictB_some {K : PySem.W.Frag} {a : Addr} {tab : List (Int × List Step)} (h : dictB K a tab = true) (hn : (tab.map (·.1)).Nodup) : StepDict K a tab := by
  unfold dictB at h
  have h' := Bool.and_eq_true_iff.mp h
  have h2 := h'.2
  split at h2
  · rename_i o ho
    have h3 := Bool.and_eq_true_iff.mp h2
    have h4 := Bool.and_eq_true_iff.mp h3.2
    have h5 := Bool.and_eq_true_iff.mp h4.2
    have h6 := h5.2
    split at h6
    · rename_i es n hd
      obtain ⟨as, h7, h8⟩ := entB_some h6
      refine ⟨as, ⟨by simpa using h'.1, o, es, n, ho, ⟨of_decide_eq_true h3.1, by simpa using h4.1, by simpa using h5.1⟩, hd, h7, ?_⟩, h8⟩
      rw [zip_keys (Paired.length h8)]
      exact hn
    · cases h6
  · cases h2
theorem src_mk {K : PySem.W.Frag} {h : Heap} {mg : Str → Option Value} {x : Str} {st : Stmt} {ps : List Str} {f : Addr} {od an : Option Addr} {sl : Array (Option Value)} {oc kV dc pm cd ct : Value} (X : K.In h) (G : h.Ns mainGlobals mg)
    (a1 : PySem.W.nsIn K mainGlobals x = some (some (.ref f))) (l1 : K.lookup f = some ⟨oc, od, .func (PySem.W.fnOf x x (defArgs st) (defBody st) (defScope st) .none kV dc pm an cd ct), sl⟩) (c1 : PySem.W.codeIn K cd x = true) (k1 : PySem.W.keepIn K (.ref f) = true)
    (hb : ∀ (kV doc pm : Value) (an : Option Addr) (cdv ct : Value) (us : List Value), us.length = ps.length → bindArgs (PySem.W.fnOf x x (defArgs st) (defBody st) (defScope st) .none kV doc pm an cdv ct) ⟨us, []⟩ = pure (ps.zip us)) : Src K mg x st ps := by
  have F := fun_mk (st := st) l1 c1 k1
  exact ⟨f, _, F, F.binds hb, PySem.W.mg_of X G a1⟩
theorem tab_strs {K : PySem.W.Frag} {h : Heap} {mg : Str → Option Value} {x : Str} {a : Addr} {us : List Value} {xs : List Str} (X : K.In h) (G : h.Ns mainGlobals mg) (e1 : PySem.W.nsIn K mainGlobals x = some (some (.ref a)))
    (e2 : tupOf K (.ref a) = some us) (e3 : strsB us xs = true) : ∃ a, mg x = some (.ref a) ∧ ∀ H, SqT K H a (xs.map V.str) := by
  obtain ⟨a', ea, ha⟩ := tupOf_some e2
  cases ea
  exact ⟨a, PySem.W.mg_of X G e1, fun H => ha H _ (strsB_vals e3)⟩
theorem tab_nats {K : PySem.W.Frag} {h : Heap} {mg : Str → Option Value} {x : Str} {a : Addr} {us : List Value} {xs : List Nat} (X : K.In h) (G : h.Ns mainGlobals mg) (e1 : PySem.W.nsIn K mainGlobals x = some (some (.ref a)))
    (e2 : tupOf K (.ref a) = some us) (e3 : intsB us (xs.map fun n : Nat => (n : Int)) = true) : ∃ a, mg x = some (.ref a) ∧ ∀ H, SqT K H a (xs.map vn) := by
  obtain ⟨a', ea, ha⟩ := tupOf_some e2
  cases ea
  refine ⟨a, PySem.W.mg_of X G e1, fun H => ha H _ ?_⟩
  have := intsB_vals e3
  rwa [List.map_map] at this
theorem tab_steps {K : PySem.W.Frag} {h : Heap} {mg : Str → Option Value} {x : Str} {a : Addr} {tab : List (Int × List Step)} (X : K.In h) (G : h.Ns mainGlobals mg) (e1 : PySem.W.nsIn K mainGlobals x = some (some (.ref a)))
    (e2 : dictB K a tab = true) (hn : (tab.map (·.1)).Nodup) : ∃ a, mg x = some (.ref a) ∧ StepDict K a tab := ⟨a, PySem.W.mg_of X G e1, dictB_some e2 hn⟩
theorem int_at {K : PySem.W.Frag} {h : Heap} {mg : Str → Option Value} {x : Str} {i : Int} {t : Tok} (X : K.In h) (G : h.Ns mainGlobals mg) (e1 : PySem.W.nsIn K mainGlobals x = some (some (.int i t))) : ∃ t, mg x = some (.int i t) := ⟨t, PySem.W.mg_of X G e1⟩
theorem str_at {K : PySem.W.Frag} {h : Heap} {mg : Str → Option Value} {x z : Str} {t : Tok} (X : K.In h) (G : h.Ns mainGlobals mg) (e1 : PySem.W.nsIn K mainGlobals x = some (some (.str z t))) : ∃ t, mg x = some (.str z t) := ⟨t, PySem.W.mg_of X G e1⟩
def tupB (K : PySem.W.Frag) (a : Addr) : Bool := match K.lookup a with
  | some o => decide (o.cls = .type "tuple") && o.dict.isNone
  | none => false
theorem tup_at {K : PySem.W.Frag} {h : Heap} {mg : Str → Option Value} {x : Str} {a : Addr} (X : K.In h) (G : h.Ns mainGlobals mg) (e1 : PySem.W.nsIn K mainGlobals x = some (some (.ref a))) (e2 : tupB K a = true) : ∃ a, mg x = some (.ref a) ∧ ∃ o, K.lookup a = some o ∧ o.cls = .type "tuple" ∧ o.dict = none := by
  refine ⟨a, PySem.W.mg_of X G e1, ?_⟩
  unfold tupB at e2
  split at e2
  · rename_i o ho
    have h2 := Bool.and_eq_true_iff.mp e2
    exact ⟨o, ho, of_decide_eq_true h2.1, by simpa using h2.2⟩
  · cases e2
end Km

end

section
set_option linter.all false
set_option maxRecDepth 100000
namespace KA
open PySem PySem.Spec PyProof.Rows L2
/-- the end that is shown of a call whose answer is a list of ints -/
def Ans (s₁ : Shared) (out : List Int) (r : Result) (s' : Shared) : Prop :=
  (∃ p its n, r = .ok (.ret (.ref p)) ∧ s'.heap.get? p = some { cls := .type "list", data := .seq its n } ∧ IntsAre its.toList out) ∧ OldK s₁.heap s'.heap ∧ s'.os = s₁.os ∧ AllBare s'.gens
theorem coreF {P : Program} {w : World} {K : PySem.W.Frag} {mg mb : Str → Option Value} {k : Nat} {fa : Addr} {x : Str} {ps : List Str} {sp : Sp} {s₁ : Shared} {us : List Value} {avs : List V} {out : List Int} {H : Hp}
    (KX : K.In s₁.heap) (hns : s₁.heap.Ns mainGlobals mg) (hb : s₁.heap.Ns builtinsNs mb) (hbb : ∀ x : Str, x ≠ "__name__" → mb x = bootBuiltins x) (hlim : s₁.heap.NoLimit) (hg : s₁.gens = #[]) (hr : Room k callerA)
    (hO : Only H) (hok : HOk P w H s₁.heap) (hA : ∀ b u, H b = some u → ∃ vs n, s₁.heap.get? b = some { cls := .type "list", data := .seq vs n }) (hK : ∀ b u, H b = some u → K.lookup b = none)
    (F : ∀ base : Heap, Fn P w K mg base x k ps sp) (hm : mg x = some (.ref fa)) (hv : Vals avs us)
    (hsp : sp avs H (fun v H' => ∃ p, v = .ref p ∧ H' p = some (.lst (out.map V.int))) fun _ _ _ => False) :
    codeAny (model P w) callerA (.call (.ref fa) ⟨us, []⟩) (Ans s₁ out) s₁ := by
  have base_of : ∀ {b : Addr} {o : Obj}, s₁.heap.get? b = some o → H b = none → (hidT s₁.heap H).get? b = some o := fun e n => hidT_get e n
  have noA : ∀ {b : Addr} {o : Obj} {es : Array DictEntry} {ep : Nat}, s₁.heap.get? b = some o → o.data = .dict es ep → H b = none := fun {b o es ep} e d => by
    cases q : H b with
    | none => rfl
    | some u =>
      obtain ⟨vs, n, ha⟩ := hA b u q
      rw [ha] at e; cases e
      have d' : Data.seq vs n = Data.dict es ep := d
      cases d'
  have nsK : ∀ {b : Addr} {m : Str → Option Value}, s₁.heap.Ns b m → (hidT s₁.heap H).Ns b m := fun {b m} ⟨o, es, ep, e, d, r⟩ => ⟨o, es, ep, base_of e (noA e d), d, r⟩
  have hKb : K.In (hidT s₁.heap H) := fun b o e => base_of (KX b o e) (by
    cases q : H b with
    | none => rfl
    | some u => rw [hK b u q] at e; cases e)
  have hM : Mod K mg (hidT s₁.heap H) := ⟨hKb, nsK hns, ⟨mb, nsK hb, hbb⟩, let ⟨mc, h1, h2⟩ := hlim; ⟨mc, nsK h1, h2⟩⟩
  have e0 : Env0 P w K mg (hidT s₁.heap H) callerA [] s₁ H := ⟨rfl, hM, fun b o e => of_hidT e, Nat.le_of_eq (hidT_size _ _), trivial, fun b hb => absurd (show b ∈ ([] : List Addr) from hb) (by simp), hok, .of_eq hg⟩
  obtain ⟨f, fd, G, bd, m, kp⟩ := F (hidT s₁.heap H)
  obtain rfl : f = fa := by rw [m] at hm; cases hm; rfl
  have hl : (us ++ []).length = ps.length := by rw [List.append_nil, ← hv.length]; exact G.len _ _ _ _ hsp
  have hbind := bd s₁ us KX hl
  rw [List.append_nil] at hbind
  refine codeAny_mono (G.run callerA [] s₁ H ⟨us, []⟩ us avs _ _ hr e0 hbind hv hsp) fun r s' h => ?_
  cases r with
  | error e => exact False.elim h
  | ok fl =>
    cases fl with
    | next => exact False.elim h
    | brk => exact False.elim h
    | cont => exact False.elim h
    | ret u =>
      obtain ⟨v, H', os, bare, un, hok', r', p, rfl, hp⟩ := h
      obtain rfl : u = Value.ref p := r'
      obtain ⟨_, its, n, hvals, hget⟩ := hok' p _ hp
      refine ⟨⟨p, its.toArray, n, rfl, hget, by simpa using Vals.ints hvals⟩, OldK.of_keep fun b o e => ?_, os, bare⟩
      cases q : H b with
      | none => exact un.keep b o e q (by intro z; exact absurd (show b ∈ ([] : List Addr) from z) (by simp)) (by simp)
      | some u =>
        rcases hO b with z | ⟨ob, xs, z⟩
        · rw [q] at z; cases z
        · have z2 := un.frzs b ob _ z
          obtain ⟨e1, _⟩ := hok b _ z
          obtain ⟨e2, _⟩ := hok' b _ z2
          rw [e] at e1; cases e1
          exact e2
theorem listF {P : Program} {w : World} {K : PySem.W.Frag} {mg mb : Str → Option Value} {k : Nat} {fa a : Addr} {x : Str} {ps : List Str} {sp : Sp} {s₁ : Shared} {us vs : List Value} {ns : List Int} {avs : List V} {out : List Int}
    (KX : K.In s₁.heap) (hns : s₁.heap.Ns mainGlobals mg) (hb : s₁.heap.Ns builtinsNs mb) (hbb : ∀ x : Str, x ≠ "__name__" → mb x = bootBuiltins x) (hlim : s₁.heap.NoLimit) (hg : s₁.gens = #[]) (hr : Room k callerA)
    (ha : s₁.heap.get? a = some { cls := .type "list", data := .seq vs.toArray }) (hi : IntsAre vs ns) (hl : ns.length ≤ sizeLine)
    (F : ∀ base : Heap, Fn P w K mg base x k ps sp) (hm : mg x = some (.ref fa)) (hv : Vals avs us)
    (hsp : ∀ H : Hp, SqL K H a (ns.map V.int) → sp avs H (fun v H' => ∃ p, v = .ref p ∧ H' p = some (.lst (out.map V.int))) fun _ _ _ => False) :
    codeAny (model P w) callerA (.call (.ref fa) ⟨us, []⟩) (Ans s₁ out) s₁ := by
  have rv := vals_ints hi
  have lenV := hi.length
  cases hk : K.lookup a with
  | some o =>
    have e := KX a o hk
    rw [ha] at e
    cases e
    exact coreF (H := fun _ => none) KX hns hb hbb hlim hg hr (fun _ => .inl rfl) (fun b u z => by have z' : (none : Option HO) = some u := z; cases z') (fun b u z => by have z' : (none : Option HO) = some u := z; cases z') (fun b u z => by have z' : (none : Option HO) = some u := z; cases z') F hm hv
      (hsp _ (.inr ⟨_, vs.toArray, _, hk, rfl, rfl, rfl, by rw [List.size_toArray, lenV]; exact hl, by simpa using rv⟩))
  | none =>
    have at_a : ∀ b u, (if b = a then some (HO.frz { cls := .type "list", data := .seq vs.toArray } (.lst (ns.map V.int))) else none) = some u → b = a ∧ u = HO.frz { cls := .type "list", data := .seq vs.toArray } (.lst (ns.map V.int)) := fun b u z => by
      by_cases hb : b = a
      · have z' := (if_pos hb).symm.trans z
        cases z'
        exact ⟨hb, rfl⟩
      · have z' := (if_neg hb).symm.trans z
        cases z'
    have hO : Only (fun b => if b = a then some (HO.frz { cls := .type "list", data := .seq vs.toArray } (.lst (ns.map V.int))) else none) := fun b => by
      by_cases hb : b = a
      · exact .inr ⟨_, _, if_pos hb⟩
      · exact .inl (if_neg hb)
    refine coreF (H := fun b => if b = a then some (HO.frz { cls := .type "list", data := .seq vs.toArray } (.lst (ns.map V.int))) else none) KX hns hb hbb hlim hg hr hO (fun b u z => ?_) (fun b u z => ?_) (fun b u z => ?_) F hm hv
      (hsp _ (.inl (.inr ⟨{ cls := .type "list", data := .seq vs.toArray }, if_pos rfl⟩)))
    · obtain ⟨rfl, rfl⟩ := at_a b u z
      exact ⟨ha, by rw [List.length_map]; exact hl, vs, _, rv, ha⟩
    · obtain ⟨rfl, rfl⟩ := at_a b u z
      exact ⟨_, _, ha⟩
    · obtain ⟨rfl, rfl⟩ := at_a b u z
      exact hk
theorem intF {P : Program} {w : World} {K : PySem.W.Frag} {mg mb : Str → Option Value} {k : Nat} {fa : Addr} {x : Str} {ps : List Str} {sp : Sp} {s₁ : Shared} {us : List Value} {avs : List V} {out : List Int}
    (KX : K.In s₁.heap) (hns : s₁.heap.Ns mainGlobals mg) (hb : s₁.heap.Ns builtinsNs mb) (hbb : ∀ x : Str, x ≠ "__name__" → mb x = bootBuiltins x) (hlim : s₁.heap.NoLimit) (hg : s₁.gens = #[]) (hr : Room k callerA)
    (F : ∀ base : Heap, Fn P w K mg base x k ps sp) (hm : mg x = some (.ref fa)) (hv : Vals avs us)
    (hsp : ∀ H : Hp, sp avs H (fun v H' => ∃ p, v = .ref p ∧ H' p = some (.lst (out.map V.int))) fun _ _ _ => False) :
    codeAny (model P w) callerA (.call (.ref fa) ⟨us, []⟩) (Ans s₁ out) s₁ :=
  coreF (H := fun _ => none) KX hns hb hbb hlim hg hr (fun _ => .inl rfl) (fun b u z => by have z' : (none : Option HO) = some u := z; cases z') (fun b u z => by have z' : (none : Option HO) = some u := z; cases z') (fun b u z => by have z' : (none : Option HO) = some u := z; cases z') F hm hv (hsp _)
theorem endL {r : PySem.W.OpenSpec} {cl : Str → Option Addr} {mean : ExcName → Option Value} {args : List PySem.W.WData} {s₁ s' : Shared} {res : Result} {out : List Int}
    (h : Ans s₁ out res s') (hp : r.claim.post args (.list (out.map PySem.W.WData.int)) args = true) : PySem.W.GoodWG r.claim cl mean args s₁ res s' := by
  obtain ⟨⟨p, its, n, rfl, hget, hi⟩, h2, h3, h4⟩ := h
  have rd := PySem.W.readsAllW_ints (R := r.claim.records) (cl := cl) (h := s'.heap) hi
  rw [PySem.W.ofPys_ints] at rd
  exact ⟨.inl ⟨.ref p, .list (out.map PySem.W.WData.int), _, rfl, fun _ => rfl, .list hget rfl rfl rd, hp, fun h => absurd h Bool.false_ne_true⟩, h2, h3, h4⟩
/-- a list of ints of a request, as it lies -/
theorem list_of {P : PySem.Params} {h : Heap} {v : Value} {ns : List Int} (w : PySem.W.Well P h v (.list (ns.map PySem.W.WData.int))) : ∃ a vs, v = .ref a ∧ h.get? a = some { cls := .type "list", data := .seq vs.toArray } ∧ IntsAre vs ns := by
  cases w with
  | list ho hall => exact ⟨_, _, rfl, ho, Att.ints_of_wellAll ns _ hall⟩
end KA

end

section
set_option linter.all false
set_option maxRecDepth 100000
set_option maxHeartbeats 4000000
namespace Km
open PySem PySem.Spec PyProof.Rows L2
theorem txt_mk {K : PySem.W.Frag} {h : Heap} {mg : Str → Option Value} (X : K.In h) (G : h.Ns mainGlobals mg)
    {f0 : Addr} {od0 an0 : Option Addr} {sl0 : Array (Option Value)} {oc0 kV0 dc0 pm0 cd0 ct0 : Value} (a0 : PySem.W.nsIn K mainGlobals "is_piece" = some (some (.ref f0))) (l0 : K.lookup f0 = some ⟨oc0, od0, .func (PySem.W.fnOf "is_piece" "is_piece" (defArgs st_is_piece) (defBody st_is_piece) (defScope st_is_piece) .none kV0 dc0 pm0 an0 cd0 ct0), sl0⟩) (c0 : PySem.W.codeIn K cd0 "is_piece" = true) (k0 : PySem.W.keepIn K (.ref f0) = true)
    {f1 : Addr} {od1 an1 : Option Addr} {sl1 : Array (Option Value)} {oc1 kV1 dc1 pm1 cd1 ct1 : Value} (a1 : PySem.W.nsIn K mainGlobals "side_of" = some (some (.ref f1))) (l1 : K.lookup f1 = some ⟨oc1, od1, .func (PySem.W.fnOf "side_of" "side_of" (defArgs st_side_of) (defBody st_side_of) (defScope st_side_of) .none kV1 dc1 pm1 an1 cd1 ct1), sl1⟩) (c1 : PySem.W.codeIn K cd1 "side_of" = true) (k1 : PySem.W.keepIn K (.ref f1) = true)
    {f2 : Addr} {od2 an2 : Option Addr} {sl2 : Array (Option Value)} {oc2 kV2 dc2 pm2 cd2 ct2 : Value} (a2 : PySem.W.nsIn K mainGlobals "belongs_to" = some (some (.ref f2))) (l2 : K.lookup f2 = some ⟨oc2, od2, .func (PySem.W.fnOf "belongs_to" "belongs_to" (defArgs st_belongs_to) (defBody st_belongs_to) (defScope st_belongs_to) .none kV2 dc2 pm2 an2 cd2 ct2), sl2⟩) (c2 : PySem.W.codeIn K cd2 "belongs_to" = true) (k2 : PySem.W.keepIn K (.ref f2) = true)
    {f3 : Addr} {od3 an3 : Option Addr} {sl3 : Array (Option Value)} {oc3 kV3 dc3 pm3 cd3 ct3 : Value} (a3 : PySem.W.nsIn K mainGlobals "kind_of" = some (some (.ref f3))) (l3 : K.lookup f3 = some ⟨oc3, od3, .func (PySem.W.fnOf "kind_of" "kind_of" (defArgs st_kind_of) (defBody st_kind_of) (defScope st_kind_of) .none kV3 dc3 pm3 an3 cd3 ct3), sl3⟩) (c3 : PySem.W.codeIn K cd3 "kind_of" = true) (k3 : PySem.W.keepIn K (.ref f3) = true)
    {f4 : Addr} {od4 an4 : Option Addr} {sl4 : Array (Option Value)} {oc4 kV4 dc4 pm4 cd4 ct4 : Value} (a4 : PySem.W.nsIn K mainGlobals "plain_kind_of" = some (some (.ref f4))) (l4 : K.lookup f4 = some ⟨oc4, od4, .func (PySem.W.fnOf "plain_kind_of" "plain_kind_of" (defArgs st_plain_kind_of) (defBody st_plain_kind_of) (defScope st_plain_kind_of) .none kV4 dc4 pm4 an4 cd4 ct4), sl4⟩) (c4 : PySem.W.codeIn K cd4 "plain_kind_of" = true) (k4 : PySem.W.keepIn K (.ref f4) = true)
    {f5 : Addr} {od5 an5 : Option Addr} {sl5 : Array (Option Value)} {oc5 kV5 dc5 pm5 cd5 ct5 : Value} (a5 : PySem.W.nsIn K mainGlobals "near_steps" = some (some (.ref f5))) (l5 : K.lookup f5 = some ⟨oc5, od5, .func (PySem.W.fnOf "near_steps" "near_steps" (defArgs st_near_steps) (defBody st_near_steps) (defScope st_near_steps) .none kV5 dc5 pm5 an5 cd5 ct5), sl5⟩) (c5 : PySem.W.codeIn K cd5 "near_steps" = true) (k5 : PySem.W.keepIn K (.ref f5) = true)
    {f6 : Addr} {od6 an6 : Option Addr} {sl6 : Array (Option Value)} {oc6 kV6 dc6 pm6 cd6 ct6 : Value} (a6 : PySem.W.nsIn K mainGlobals "far_steps" = some (some (.ref f6))) (l6 : K.lookup f6 = some ⟨oc6, od6, .func (PySem.W.fnOf "far_steps" "far_steps" (defArgs st_far_steps) (defBody st_far_steps) (defScope st_far_steps) .none kV6 dc6 pm6 an6 cd6 ct6), sl6⟩) (c6 : PySem.W.codeIn K cd6 "far_steps" = true) (k6 : PySem.W.keepIn K (.ref f6) = true)
    {f7 : Addr} {od7 an7 : Option Addr} {sl7 : Array (Option Value)} {oc7 kV7 dc7 pm7 cd7 ct7 : Value} (a7 : PySem.W.nsIn K mainGlobals "squares_of" = some (some (.ref f7))) (l7 : K.lookup f7 = some ⟨oc7, od7, .func (PySem.W.fnOf "squares_of" "squares_of" (defArgs st_squares_of) (defBody st_squares_of) (defScope st_squares_of) .none kV7 dc7 pm7 an7 cd7 ct7), sl7⟩) (c7 : PySem.W.codeIn K cd7 "squares_of" = true) (k7 : PySem.W.keepIn K (.ref f7) = true)
    {f8 : Addr} {od8 an8 : Option Addr} {sl8 : Array (Option Value)} {oc8 kV8 dc8 pm8 cd8 ct8 : Value} (a8 : PySem.W.nsIn K mainGlobals "hands_of" = some (some (.ref f8))) (l8 : K.lookup f8 = some ⟨oc8, od8, .func (PySem.W.fnOf "hands_of" "hands_of" (defArgs st_hands_of) (defBody st_hands_of) (defScope st_hands_of) .none kV8 dc8 pm8 an8 cd8 ct8), sl8⟩) (c8 : PySem.W.codeIn K cd8 "hands_of" = true) (k8 : PySem.W.keepIn K (.ref f8) = true)
    {f9 : Addr} {od9 an9 : Option Addr} {sl9 : Array (Option Value)} {oc9 kV9 dc9 pm9 cd9 ct9 : Value} (a9 : PySem.W.nsIn K mainGlobals "hand_place" = some (some (.ref f9))) (l9 : K.lookup f9 = some ⟨oc9, od9, .func (PySem.W.fnOf "hand_place" "hand_place" (defArgs st_hand_place) (defBody st_hand_place) (defScope st_hand_place) .none kV9 dc9 pm9 an9 cd9 ct9), sl9⟩) (c9 : PySem.W.codeIn K cd9 "hand_place" = true) (k9 : PySem.W.keepIn K (.ref f9) = true)
    {f10 : Addr} {od10 an10 : Option Addr} {sl10 : Array (Option Value)} {oc10 kV10 dc10 pm10 cd10 ct10 : Value} (a10 : PySem.W.nsIn K mainGlobals "rows_ahead" = some (some (.ref f10))) (l10 : K.lookup f10 = some ⟨oc10, od10, .func (PySem.W.fnOf "rows_ahead" "rows_ahead" (defArgs st_rows_ahead) (defBody st_rows_ahead) (defScope st_rows_ahead) .none kV10 dc10 pm10 an10 cd10 ct10), sl10⟩) (c10 : PySem.W.codeIn K cd10 "rows_ahead" = true) (k10 : PySem.W.keepIn K (.ref f10) = true)
    {f11 : Addr} {od11 an11 : Option Addr} {sl11 : Array (Option Value)} {oc11 kV11 dc11 pm11 cd11 ct11 : Value} (a11 : PySem.W.nsIn K mainGlobals "square_after" = some (some (.ref f11))) (l11 : K.lookup f11 = some ⟨oc11, od11, .func (PySem.W.fnOf "square_after" "square_after" (defArgs st_square_after) (defBody st_square_after) (defScope st_square_after) .none kV11 dc11 pm11 an11 cd11 ct11), sl11⟩) (c11 : PySem.W.codeIn K cd11 "square_after" = true) (k11 : PySem.W.keepIn K (.ref f11) = true)
    {f12 : Addr} {od12 an12 : Option Addr} {sl12 : Array (Option Value)} {oc12 kV12 dc12 pm12 cd12 ct12 : Value} (a12 : PySem.W.nsIn K mainGlobals "squares_along" = some (some (.ref f12))) (l12 : K.lookup f12 = some ⟨oc12, od12, .func (PySem.W.fnOf "squares_along" "squares_along" (defArgs st_squares_along) (defBody st_squares_along) (defScope st_squares_along) .none kV12 dc12 pm12 an12 cd12 ct12), sl12⟩) (c12 : PySem.W.codeIn K cd12 "squares_along" = true) (k12 : PySem.W.keepIn K (.ref f12) = true)
    {f13 : Addr} {od13 an13 : Option Addr} {sl13 : Array (Option Value)} {oc13 kV13 dc13 pm13 cd13 ct13 : Value} (a13 : PySem.W.nsIn K mainGlobals "in_check" = some (some (.ref f13))) (l13 : K.lookup f13 = some ⟨oc13, od13, .func (PySem.W.fnOf "in_check" "in_check" (defArgs st_in_check) (defBody st_in_check) (defScope st_in_check) .none kV13 dc13 pm13 an13 cd13 ct13), sl13⟩) (c13 : PySem.W.codeIn K cd13 "in_check" = true) (k13 : PySem.W.keepIn K (.ref f13) = true)
    {f14 : Addr} {od14 an14 : Option Addr} {sl14 : Array (Option Value)} {oc14 kV14 dc14 pm14 cd14 ct14 : Value} (a14 : PySem.W.nsIn K mainGlobals "checking_lines" = some (some (.ref f14))) (l14 : K.lookup f14 = some ⟨oc14, od14, .func (PySem.W.fnOf "checking_lines" "checking_lines" (defArgs st_checking_lines) (defBody st_checking_lines) (defScope st_checking_lines) .none kV14 dc14 pm14 an14 cd14 ct14), sl14⟩) (c14 : PySem.W.codeIn K cd14 "checking_lines" = true) (k14 : PySem.W.keepIn K (.ref f14) = true)
    {f15 : Addr} {od15 an15 : Option Addr} {sl15 : Array (Option Value)} {oc15 kV15 dc15 pm15 cd15 ct15 : Value} (a15 : PySem.W.nsIn K mainGlobals "knight_lines" = some (some (.ref f15))) (l15 : K.lookup f15 = some ⟨oc15, od15, .func (PySem.W.fnOf "knight_lines" "knight_lines" (defArgs st_knight_lines) (defBody st_knight_lines) (defScope st_knight_lines) .none kV15 dc15 pm15 an15 cd15 ct15), sl15⟩) (c15 : PySem.W.codeIn K cd15 "knight_lines" = true) (k15 : PySem.W.keepIn K (.ref f15) = true)
    {f16 : Addr} {od16 an16 : Option Addr} {sl16 : Array (Option Value)} {oc16 kV16 dc16 pm16 cd16 ct16 : Value} (a16 : PySem.W.nsIn K mainGlobals "ends_in_threat" = some (some (.ref f16))) (l16 : K.lookup f16 = some ⟨oc16, od16, .func (PySem.W.fnOf "ends_in_threat" "ends_in_threat" (defArgs st_ends_in_threat) (defBody st_ends_in_threat) (defScope st_ends_in_threat) .none kV16 dc16 pm16 an16 cd16 ct16), sl16⟩) (c16 : PySem.W.codeIn K cd16 "ends_in_threat" = true) (k16 : PySem.W.keepIn K (.ref f16) = true)
    {f17 : Addr} {od17 an17 : Option Addr} {sl17 : Array (Option Value)} {oc17 kV17 dc17 pm17 cd17 ct17 : Value} (a17 : PySem.W.nsIn K mainGlobals "can_be" = some (some (.ref f17))) (l17 : K.lookup f17 = some ⟨oc17, od17, .func (PySem.W.fnOf "can_be" "can_be" (defArgs st_can_be) (defBody st_can_be) (defScope st_can_be) .none kV17 dc17 pm17 an17 cd17 ct17), sl17⟩) (c17 : PySem.W.codeIn K cd17 "can_be" = true) (k17 : PySem.W.keepIn K (.ref f17) = true)
    {f18 : Addr} {od18 an18 : Option Addr} {sl18 : Array (Option Value)} {oc18 kV18 dc18 pm18 cd18 ct18 : Value} (a18 : PySem.W.nsIn K mainGlobals "pieces_are_known" = some (some (.ref f18))) (l18 : K.lookup f18 = some ⟨oc18, od18, .func (PySem.W.fnOf "pieces_are_known" "pieces_are_known" (defArgs st_pieces_are_known) (defBody st_pieces_are_known) (defScope st_pieces_are_known) .none kV18 dc18 pm18 an18 cd18 ct18), sl18⟩) (c18 : PySem.W.codeIn K cd18 "pieces_are_known" = true) (k18 : PySem.W.keepIn K (.ref f18) = true)
    {f19 : Addr} {od19 an19 : Option Addr} {sl19 : Array (Option Value)} {oc19 kV19 dc19 pm19 cd19 ct19 : Value} (a19 : PySem.W.nsIn K mainGlobals "no_kind_is_too_many" = some (some (.ref f19))) (l19 : K.lookup f19 = some ⟨oc19, od19, .func (PySem.W.fnOf "no_kind_is_too_many" "no_kind_is_too_many" (defArgs st_no_kind_is_too_many) (defBody st_no_kind_is_too_many) (defScope st_no_kind_is_too_many) .none kV19 dc19 pm19 an19 cd19 ct19), sl19⟩) (c19 : PySem.W.codeIn K cd19 "no_kind_is_too_many" = true) (k19 : PySem.W.keepIn K (.ref f19) = true)
    {f20 : Addr} {od20 an20 : Option Addr} {sl20 : Array (Option Value)} {oc20 kV20 dc20 pm20 cd20 ct20 : Value} (a20 : PySem.W.nsIn K mainGlobals "kings_are_there" = some (some (.ref f20))) (l20 : K.lookup f20 = some ⟨oc20, od20, .func (PySem.W.fnOf "kings_are_there" "kings_are_there" (defArgs st_kings_are_there) (defBody st_kings_are_there) (defScope st_kings_are_there) .none kV20 dc20 pm20 an20 cd20 ct20), sl20⟩) (c20 : PySem.W.codeIn K cd20 "kings_are_there" = true) (k20 : PySem.W.keepIn K (.ref f20) = true)
    {f21 : Addr} {od21 an21 : Option Addr} {sl21 : Array (Option Value)} {oc21 kV21 dc21 pm21 cd21 ct21 : Value} (a21 : PySem.W.nsIn K mainGlobals "no_column_has_two_pawns" = some (some (.ref f21))) (l21 : K.lookup f21 = some ⟨oc21, od21, .func (PySem.W.fnOf "no_column_has_two_pawns" "no_column_has_two_pawns" (defArgs st_no_column_has_two_pawns) (defBody st_no_column_has_two_pawns) (defScope st_no_column_has_two_pawns) .none kV21 dc21 pm21 an21 cd21 ct21), sl21⟩) (c21 : PySem.W.codeIn K cd21 "no_column_has_two_pawns" = true) (k21 : PySem.W.keepIn K (.ref f21) = true)
    {f22 : Addr} {od22 an22 : Option Addr} {sl22 : Array (Option Value)} {oc22 kV22 dc22 pm22 cd22 ct22 : Value} (a22 : PySem.W.nsIn K mainGlobals "no_piece_is_stuck" = some (some (.ref f22))) (l22 : K.lookup f22 = some ⟨oc22, od22, .func (PySem.W.fnOf "no_piece_is_stuck" "no_piece_is_stuck" (defArgs st_no_piece_is_stuck) (defBody st_no_piece_is_stuck) (defScope st_no_piece_is_stuck) .none kV22 dc22 pm22 an22 cd22 ct22), sl22⟩) (c22 : PySem.W.codeIn K cd22 "no_piece_is_stuck" = true) (k22 : PySem.W.keepIn K (.ref f22) = true)
    {f23 : Addr} {od23 an23 : Option Addr} {sl23 : Array (Option Value)} {oc23 kV23 dc23 pm23 cd23 ct23 : Value} (a23 : PySem.W.nsIn K mainGlobals "never_moves" = some (some (.ref f23))) (l23 : K.lookup f23 = some ⟨oc23, od23, .func (PySem.W.fnOf "never_moves" "never_moves" (defArgs st_never_moves) (defBody st_never_moves) (defScope st_never_moves) .none kV23 dc23 pm23 an23 cd23 ct23), sl23⟩) (c23 : PySem.W.codeIn K cd23 "never_moves" = true) (k23 : PySem.W.keepIn K (.ref f23) = true)
    {f24 : Addr} {od24 an24 : Option Addr} {sl24 : Array (Option Value)} {oc24 kV24 dc24 pm24 cd24 ct24 : Value} (a24 : PySem.W.nsIn K mainGlobals "codes_of" = some (some (.ref f24))) (l24 : K.lookup f24 = some ⟨oc24, od24, .func (PySem.W.fnOf "codes_of" "codes_of" (defArgs st_codes_of) (defBody st_codes_of) (defScope st_codes_of) .none kV24 dc24 pm24 an24 cd24 ct24), sl24⟩) (c24 : PySem.W.codeIn K cd24 "codes_of" = true) (k24 : PySem.W.keepIn K (.ref f24) = true)
    {f25 : Addr} {od25 an25 : Option Addr} {sl25 : Array (Option Value)} {oc25 kV25 dc25 pm25 cd25 ct25 : Value} (a25 : PySem.W.nsIn K mainGlobals "write_position" = some (some (.ref f25))) (l25 : K.lookup f25 = some ⟨oc25, od25, .func (PySem.W.fnOf "write_position" "write_position" (defArgs st_write_position) (defBody st_write_position) (defScope st_write_position) .none kV25 dc25 pm25 an25 cd25 ct25), sl25⟩) (c25 : PySem.W.codeIn K cd25 "write_position" = true) (k25 : PySem.W.keepIn K (.ref f25) = true)
    {f26 : Addr} {od26 an26 : Option Addr} {sl26 : Array (Option Value)} {oc26 kV26 dc26 pm26 cd26 ct26 : Value} (a26 : PySem.W.nsIn K mainGlobals "write_row" = some (some (.ref f26))) (l26 : K.lookup f26 = some ⟨oc26, od26, .func (PySem.W.fnOf "write_row" "write_row" (defArgs st_write_row) (defBody st_write_row) (defScope st_write_row) .none kV26 dc26 pm26 an26 cd26 ct26), sl26⟩) (c26 : PySem.W.codeIn K cd26 "write_row" = true) (k26 : PySem.W.keepIn K (.ref f26) = true)
    {f27 : Addr} {od27 an27 : Option Addr} {sl27 : Array (Option Value)} {oc27 kV27 dc27 pm27 cd27 ct27 : Value} (a27 : PySem.W.nsIn K mainGlobals "write_gap" = some (some (.ref f27))) (l27 : K.lookup f27 = some ⟨oc27, od27, .func (PySem.W.fnOf "write_gap" "write_gap" (defArgs st_write_gap) (defBody st_write_gap) (defScope st_write_gap) .none kV27 dc27 pm27 an27 cd27 ct27), sl27⟩) (c27 : PySem.W.codeIn K cd27 "write_gap" = true) (k27 : PySem.W.keepIn K (.ref f27) = true)
    {f28 : Addr} {od28 an28 : Option Addr} {sl28 : Array (Option Value)} {oc28 kV28 dc28 pm28 cd28 ct28 : Value} (a28 : PySem.W.nsIn K mainGlobals "write_hands" = some (some (.ref f28))) (l28 : K.lookup f28 = some ⟨oc28, od28, .func (PySem.W.fnOf "write_hands" "write_hands" (defArgs st_write_hands) (defBody st_write_hands) (defScope st_write_hands) .none kV28 dc28 pm28 an28 cd28 ct28), sl28⟩) (c28 : PySem.W.codeIn K cd28 "write_hands" = true) (k28 : PySem.W.keepIn K (.ref f28) = true)
    {f29 : Addr} {od29 an29 : Option Addr} {sl29 : Array (Option Value)} {oc29 kV29 dc29 pm29 cd29 ct29 : Value} (a29 : PySem.W.nsIn K mainGlobals "write_hand" = some (some (.ref f29))) (l29 : K.lookup f29 = some ⟨oc29, od29, .func (PySem.W.fnOf "write_hand" "write_hand" (defArgs st_write_hand) (defBody st_write_hand) (defScope st_write_hand) .none kV29 dc29 pm29 an29 cd29 ct29), sl29⟩) (c29 : PySem.W.codeIn K cd29 "write_hand" = true) (k29 : PySem.W.keepIn K (.ref f29) = true)
    {f30 : Addr} {od30 an30 : Option Addr} {sl30 : Array (Option Value)} {oc30 kV30 dc30 pm30 cd30 ct30 : Value} (a30 : PySem.W.nsIn K mainGlobals "sg_text" = some (some (.ref f30))) (l30 : K.lookup f30 = some ⟨oc30, od30, .func (PySem.W.fnOf "sg_text" "sg_text" (defArgs st_sg_text) (defBody st_sg_text) (defScope st_sg_text) .none kV30 dc30 pm30 an30 cd30 ct30), sl30⟩) (c30 : PySem.W.codeIn K cd30 "sg_text" = true) (k30 : PySem.W.keepIn K (.ref f30) = true)
    {f31 : Addr} {od31 an31 : Option Addr} {sl31 : Array (Option Value)} {oc31 kV31 dc31 pm31 cd31 ct31 : Value} (a31 : PySem.W.nsIn K mainGlobals "told" = some (some (.ref f31))) (l31 : K.lookup f31 = some ⟨oc31, od31, .func (PySem.W.fnOf "told" "told" (defArgs st_told) (defBody st_told) (defScope st_told) .none kV31 dc31 pm31 an31 cd31 ct31), sl31⟩) (c31 : PySem.W.codeIn K cd31 "told" = true) (k31 : PySem.W.keepIn K (.ref f31) = true)
    {t0 : Tok} (i0 : PySem.W.nsIn K mainGlobals "PAWN" = some (some (.int (1) t0)))
    {t1 : Tok} (i1 : PySem.W.nsIn K mainGlobals "LANCE" = some (some (.int (2) t1)))
    {t2 : Tok} (i2 : PySem.W.nsIn K mainGlobals "KNIGHT" = some (some (.int (3) t2)))
    {t3 : Tok} (i3 : PySem.W.nsIn K mainGlobals "GOLD" = some (some (.int (5) t3)))
    {t4 : Tok} (i4 : PySem.W.nsIn K mainGlobals "KING" = some (some (.int (8) t4)))
    {t5 : Tok} (i5 : PySem.W.nsIn K mainGlobals "SECOND" = some (some (.int (16) t5)))
    {t6 : Tok} (i6 : PySem.W.nsIn K mainGlobals "CANNOT_BE" = some (some (.int (-2) t6)))
    {t7 : Tok} (i7 : PySem.W.nsIn K mainGlobals "HANDS" = some (some (.int (81) t7)))
    {t8 : Tok} (i8 : PySem.W.nsIn K mainGlobals "TURN" = some (some (.int (95) t8)))
    {t9 : Tok} (i9 : PySem.W.nsIn K mainGlobals "NUMBER" = some (some (.int (96) t9)))
    (z0 : PySem.W.nsIn K mainGlobals "len" = some none)
    (z1 : PySem.W.nsIn K mainGlobals "all" = some none)
    (z2 : PySem.W.nsIn K mainGlobals "any" = some none)
    (z3 : PySem.W.nsIn K mainGlobals "enumerate" = some none)
    (z4 : PySem.W.nsIn K mainGlobals "range" = some none)
    (z5 : PySem.W.nsIn K mainGlobals "ord" = some none)
    (z6 : PySem.W.nsIn K mainGlobals "str" = some none)
    {b0 : Addr} (p0 : PySem.W.nsIn K mainGlobals "PIECE_NAMES" = some (some (.ref b0)))
    {u0 : List Value} (q0 : tupOf K (.ref b0) = some u0) (r0 : strsB u0 pieceNames = true)
    {b1 : Addr} (p1 : PySem.W.nsIn K mainGlobals "LIKE_GOLD" = some (some (.ref b1)))
    {u1 : List Value} (q1 : tupOf K (.ref b1) = some u1) (r1 : intsB u1 (([9, 10, 11, 12] : List Nat).map fun n : Nat => (n : Int)) = true)
    {b2 : Addr} (p2 : PySem.W.nsIn K mainGlobals "MOST_OF_KIND" = some (some (.ref b2)))
    {u2 : List Value} (q2 : tupOf K (.ref b2) = some u2) (r2 : intsB u2 (([0, 18, 4, 4, 4, 4, 2, 2] : List Nat).map fun n : Nat => (n : Int)) = true)
    {b3 : Addr} (p3 : PySem.W.nsIn K mainGlobals "HAND_KINDS" = some (some (.ref b3)))
    {u3 : List Value} (q3 : tupOf K (.ref b3) = some u3) (r3 : intsB u3 (([7, 6, 5, 4, 3, 2, 1] : List Nat).map fun n : Nat => (n : Int)) = true)
    {b4 : Addr} (p4 : PySem.W.nsIn K mainGlobals "NEAR_STEPS" = some (some (.ref b4)))
    (q4 : dictB K b4 nearTab = true)
    {b5 : Addr} (p5 : PySem.W.nsIn K mainGlobals "FAR_STEPS" = some (some (.ref b5)))
    (q5 : dictB K b5 farTab = true)
    : Txt K mg where
  s_is_piece := src_mk X G a0 l0 c0 k0 fun _ _ _ _ _ _ us hl => match us, hl with | [_], _ => rfl
  s_side_of := src_mk X G a1 l1 c1 k1 fun _ _ _ _ _ _ us hl => match us, hl with | [_], _ => rfl
  s_belongs_to := src_mk X G a2 l2 c2 k2 fun _ _ _ _ _ _ us hl => match us, hl with | [_, _], _ => rfl
  s_kind_of := src_mk X G a3 l3 c3 k3 fun _ _ _ _ _ _ us hl => match us, hl with | [_], _ => rfl
  s_plain_kind_of := src_mk X G a4 l4 c4 k4 fun _ _ _ _ _ _ us hl => match us, hl with | [_], _ => rfl
  s_near_steps := src_mk X G a5 l5 c5 k5 fun _ _ _ _ _ _ us hl => match us, hl with | [_], _ => rfl
  s_far_steps := src_mk X G a6 l6 c6 k6 fun _ _ _ _ _ _ us hl => match us, hl with | [_], _ => rfl
  s_squares_of := src_mk X G a7 l7 c7 k7 fun _ _ _ _ _ _ us hl => match us, hl with | [_], _ => rfl
  s_hands_of := src_mk X G a8 l8 c8 k8 fun _ _ _ _ _ _ us hl => match us, hl with | [_], _ => rfl
  s_hand_place := src_mk X G a9 l9 c9 k9 fun _ _ _ _ _ _ us hl => match us, hl with | [_, _], _ => rfl
  s_rows_ahead := src_mk X G a10 l10 c10 k10 fun _ _ _ _ _ _ us hl => match us, hl with | [_, _], _ => rfl
  s_square_after := src_mk X G a11 l11 c11 k11 fun _ _ _ _ _ _ us hl => match us, hl with | [_, _, _], _ => rfl
  s_squares_along := src_mk X G a12 l12 c12 k12 fun _ _ _ _ _ _ us hl => match us, hl with | [_, _, _, _], _ => rfl
  s_in_check := src_mk X G a13 l13 c13 k13 fun _ _ _ _ _ _ us hl => match us, hl with | [_, _], _ => rfl
  s_checking_lines := src_mk X G a14 l14 c14 k14 fun _ _ _ _ _ _ us hl => match us, hl with | [_, _, _], _ => rfl
  s_knight_lines := src_mk X G a15 l15 c15 k15 fun _ _ _ _ _ _ us hl => match us, hl with | [_, _, _], _ => rfl
  s_ends_in_threat := src_mk X G a16 l16 c16 k16 fun _ _ _ _ _ _ us hl => match us, hl with | [_, _, _, _], _ => rfl
  s_can_be := src_mk X G a17 l17 c17 k17 fun _ _ _ _ _ _ us hl => match us, hl with | [_], _ => rfl
  s_pieces_are_known := src_mk X G a18 l18 c18 k18 fun _ _ _ _ _ _ us hl => match us, hl with | [_], _ => rfl
  s_no_kind_is_too_many := src_mk X G a19 l19 c19 k19 fun _ _ _ _ _ _ us hl => match us, hl with | [_, _], _ => rfl
  s_kings_are_there := src_mk X G a20 l20 c20 k20 fun _ _ _ _ _ _ us hl => match us, hl with | [_], _ => rfl
  s_no_column_has_two_pawns := src_mk X G a21 l21 c21 k21 fun _ _ _ _ _ _ us hl => match us, hl with | [_], _ => rfl
  s_no_piece_is_stuck := src_mk X G a22 l22 c22 k22 fun _ _ _ _ _ _ us hl => match us, hl with | [_], _ => rfl
  s_never_moves := src_mk X G a23 l23 c23 k23 fun _ _ _ _ _ _ us hl => match us, hl with | [_, _], _ => rfl
  s_codes_of := src_mk X G a24 l24 c24 k24 fun _ _ _ _ _ _ us hl => match us, hl with | [_], _ => rfl
  s_write_position := src_mk X G a25 l25 c25 k25 fun _ _ _ _ _ _ us hl => match us, hl with | [_], _ => rfl
  s_write_row := src_mk X G a26 l26 c26 k26 fun _ _ _ _ _ _ us hl => match us, hl with | [_], _ => rfl
  s_write_gap := src_mk X G a27 l27 c27 k27 fun _ _ _ _ _ _ us hl => match us, hl with | [_], _ => rfl
  s_write_hands := src_mk X G a28 l28 c28 k28 fun _ _ _ _ _ _ us hl => match us, hl with | [_], _ => rfl
  s_write_hand := src_mk X G a29 l29 c29 k29 fun _ _ _ _ _ _ us hl => match us, hl with | [_, _], _ => rfl
  s_sg_text := src_mk X G a30 l30 c30 k30 fun _ _ _ _ _ _ us hl => match us, hl with | [_], _ => rfl
  s_told := src_mk X G a31 l31 c31 k31 fun _ _ _ _ _ _ us hl => match us, hl with | [_], _ => rfl
  c_PAWN := int_at X G i0
  c_LANCE := int_at X G i1
  c_KNIGHT := int_at X G i2
  c_GOLD := int_at X G i3
  c_KING := int_at X G i4
  c_SECOND := int_at X G i5
  c_CANNOT_BE := int_at X G i6
  c_HANDS := int_at X G i7
  c_TURN := int_at X G i8
  c_NUMBER := int_at X G i9
  n_len := PySem.W.mg_none_of X G z0
  n_all := PySem.W.mg_none_of X G z1
  n_any := PySem.W.mg_none_of X G z2
  n_enumerate := PySem.W.mg_none_of X G z3
  n_range := PySem.W.mg_none_of X G z4
  n_ord := PySem.W.mg_none_of X G z5
  n_str := PySem.W.mg_none_of X G z6
  t_PIECE_NAMES := tab_strs X G p0 q0 r0
  t_LIKE_GOLD := tab_nats X G p1 q1 r1
  t_MOST_OF_KIND := tab_nats X G p2 q2 r2
  t_HAND_KINDS := tab_nats X G p3 q3 r3
  t_NEAR_STEPS := tab_steps X G p4 q4 (by decide)
  t_FAR_STEPS := tab_steps X G p5 q5 (by decide)
theorem nats_of {ns : List Int} (hl : ns.length = 97) (h : ∀ x ∈ ns, 0 ≤ x ∧ x ≤ 65535) : (ns.map Int.toNat).map vn = ns.map V.int ∧ (ns.map Int.toNat).length = 97 ∧ ∀ x ∈ ns.map Int.toNat, x ≤ 65535 := by
  refine ⟨?_, by rw [List.length_map]; exact hl, fun x hx => ?_⟩
  · rw [List.map_map]
    refine List.map_congr_left fun x hx => ?_
    show V.int ((x.toNat : Nat) : Int) = V.int x
    rw [Int.toNat_of_nonneg (h x hx).1]
  · obtain ⟨y, hy, rfl⟩ := List.mem_map.mp hx
    have := h y hy
    omega
theorem out_eq {ns : List Int} (hl : ns.length = 97) (h : ∀ x ∈ ns, 0 ≤ x ∧ x ≤ 65535) : outT (ns.map Int.toNat) = PyQl32.sg_text ns := by
  unfold outT PyQl32.sg_text
  have e := good_eq (q := ns.map Int.toNat) (by rw [List.length_map]; exact hl)
  show _ = (if Ql32.good (posN (ns.map Int.toNat)) = false then [-2] else Ql32Neutral.sized (Ql32.text (posN (ns.map Int.toNat))))
  rw [← e]
  cases canBe (ns.map Int.toNat) with
  | false => rfl
  | true =>
    rw [if_pos rfl, if_neg (by decide)]
    unfold Ql32Neutral.sized Ql32Neutral.byteInts bn
    rw [List.map_map]
    rfl
end Km
open PySem PySem.W PyProof.Rows
set_option maxRecDepth 100000 in
set_option maxHeartbeats 0 in
theorem PySem.Challenge.cw_komadai_s02_sg_text_holds : PySem.Challenge.rw_komadai_s02_sg_text.Holds := by
  w_on; k_headS; (case hw => exact ⟨[.list (List.replicate 97 (.int 0))], by decide +kernel, by decide +kernel⟩)
  k_fillS
  intro w s₀ s₁ mg mb G Y fa o pm cd doc dV kV ho hd hcd hD hmg hg args vals as hpre hlay hrd hwl hlo
  have KX := kIn_of Y
  have T : Km.Txt (L2.KOf KX) mg := by
    dsimp only [L2.KOf]
    refine' Km.txt_mk KX G.T.g ?a0 ?l0 ?c0 ?k0 ?a1 ?l1 ?c1 ?k1 ?a2 ?l2 ?c2 ?k2 ?a3 ?l3 ?c3 ?k3 ?a4 ?l4 ?c4 ?k4 ?a5 ?l5 ?c5 ?k5 ?a6 ?l6 ?c6 ?k6 ?a7 ?l7 ?c7 ?k7 ?a8 ?l8 ?c8 ?k8 ?a9 ?l9 ?c9 ?k9 ?a10 ?l10 ?c10 ?k10 ?a11 ?l11 ?c11 ?k11 ?a12 ?l12 ?c12 ?k12 ?a13 ?l13 ?c13 ?k13 ?a14 ?l14 ?c14 ?k14 ?a15 ?l15 ?c15 ?k15 ?a16 ?l16 ?c16 ?k16 ?a17 ?l17 ?c17 ?k17 ?a18 ?l18 ?c18 ?k18 ?a19 ?l19 ?c19 ?k19 ?a20 ?l20 ?c20 ?k20 ?a21 ?l21 ?c21 ?k21 ?a22 ?l22 ?c22 ?k22 ?a23 ?l23 ?c23 ?k23 ?a24 ?l24 ?c24 ?k24 ?a25 ?l25 ?c25 ?k25 ?a26 ?l26 ?c26 ?k26 ?a27 ?l27 ?c27 ?k27 ?a28 ?l28 ?c28 ?k28 ?a29 ?l29 ?c29 ?k29 ?a30 ?l30 ?c30 ?k30 ?a31 ?l31 ?c31 ?k31 ?i0 ?i1 ?i2 ?i3 ?i4 ?i5 ?i6 ?i7 ?i8 ?i9 ?z0 ?z1 ?z2 ?z3 ?z4 ?z5 ?z6 ?p0 ?q0 ?r0 ?p1 ?q1 ?r1 ?p2 ?q2 ?r2 ?p3 ?q3 ?r3 ?p4 ?q4 ?p5 ?q5
    (case a0 => k_is)
    (case l0 => k_is)
    (case c0 => k_is)
    (case k0 => k_is)
    (case a1 => k_is)
    (case l1 => k_is)
    (case c1 => k_is)
    (case k1 => k_is)
    (case a2 => k_is)
    (case l2 => k_is)
    (case c2 => k_is)
    (case k2 => k_is)
    (case a3 => k_is)
    (case l3 => k_is)
    (case c3 => k_is)
    (case k3 => k_is)
    (case a4 => k_is)
    (case l4 => k_is)
    (case c4 => k_is)
    (case k4 => k_is)
    (case a5 => k_is)
    (case l5 => k_is)
    (case c5 => k_is)
    (case k5 => k_is)
    (case a6 => k_is)
    (case l6 => k_is)
    (case c6 => k_is)
    (case k6 => k_is)
    (case a7 => k_is)
    (case l7 => k_is)
    (case c7 => k_is)
    (case k7 => k_is)
    (case a8 => k_is)
    (case l8 => k_is)
    (case c8 => k_is)
    (case k8 => k_is)
    (case a9 => k_is)
    (case l9 => k_is)
    (case c9 => k_is)
    (case k9 => k_is)
    (case a10 => k_is)
    (case l10 => k_is)
    (case c10 => k_is)
    (case k10 => k_is)
    (case a11 => k_is)
    (case l11 => k_is)
    (case c11 => k_is)
    (case k11 => k_is)
    (case a12 => k_is)
    (case l12 => k_is)
    (case c12 => k_is)
    (case k12 => k_is)
    (case a13 => k_is)
    (case l13 => k_is)
    (case c13 => k_is)
    (case k13 => k_is)
    (case a14 => k_is)
    (case l14 => k_is)
    (case c14 => k_is)
    (case k14 => k_is)
    (case a15 => k_is)
    (case l15 => k_is)
    (case c15 => k_is)
    (case k15 => k_is)
    (case a16 => k_is)
    (case l16 => k_is)
    (case c16 => k_is)
    (case k16 => k_is)
    (case a17 => k_is)
    (case l17 => k_is)
    (case c17 => k_is)
    (case k17 => k_is)
    (case a18 => k_is)
    (case l18 => k_is)
    (case c18 => k_is)
    (case k18 => k_is)
    (case a19 => k_is)
    (case l19 => k_is)
    (case c19 => k_is)
    (case k19 => k_is)
    (case a20 => k_is)
    (case l20 => k_is)
    (case c20 => k_is)
    (case k20 => k_is)
    (case a21 => k_is)
    (case l21 => k_is)
    (case c21 => k_is)
    (case k21 => k_is)
    (case a22 => k_is)
    (case l22 => k_is)
    (case c22 => k_is)
    (case k22 => k_is)
    (case a23 => k_is)
    (case l23 => k_is)
    (case c23 => k_is)
    (case k23 => k_is)
    (case a24 => k_is)
    (case l24 => k_is)
    (case c24 => k_is)
    (case k24 => k_is)
    (case a25 => k_is)
    (case l25 => k_is)
    (case c25 => k_is)
    (case k25 => k_is)
    (case a26 => k_is)
    (case l26 => k_is)
    (case c26 => k_is)
    (case k26 => k_is)
    (case a27 => k_is)
    (case l27 => k_is)
    (case c27 => k_is)
    (case k27 => k_is)
    (case a28 => k_is)
    (case l28 => k_is)
    (case c28 => k_is)
    (case k28 => k_is)
    (case a29 => k_is)
    (case l29 => k_is)
    (case c29 => k_is)
    (case k29 => k_is)
    (case a30 => k_is)
    (case l30 => k_is)
    (case c30 => k_is)
    (case k30 => k_is)
    (case a31 => k_is)
    (case l31 => k_is)
    (case c31 => k_is)
    (case k31 => k_is)
    (case i0 => k_is)
    (case i1 => k_is)
    (case i2 => k_is)
    (case i3 => k_is)
    (case i4 => k_is)
    (case i5 => k_is)
    (case i6 => k_is)
    (case i7 => k_is)
    (case i8 => k_is)
    (case i9 => k_is)
    (case z0 => k_is)
    (case z1 => k_is)
    (case z2 => k_is)
    (case z3 => k_is)
    (case z4 => k_is)
    (case z5 => k_is)
    (case z6 => k_is)
    (case p0 => k_is)
    (case q0 => rfl)
    (case r0 => kernel_rfl)
    (case p1 => k_is)
    (case q1 => rfl)
    (case r1 => kernel_rfl)
    (case p2 => k_is)
    (case q2 => rfl)
    (case r2 => kernel_rfl)
    (case p3 => k_is)
    (case q3 => rfl)
    (case r3 => kernel_rfl)
    (case p4 => k_is)
    (case q4 => kernel_rfl)
    (case p5 => k_is)
    (case q5 => kernel_rfl)
  have said : PySem.Challenge.rw_komadai_s02_sg_text.wellSaid = true := by decide +kernel
  obtain ⟨a, hw, hask, rfl⟩ := (OpenSpec.pre_iff said args).mp hpre
  obtain ⟨ns, ⟨⟩⟩ := a
  have hw' : ((Codec.inNat 97 97 ns.length && ns.all (Codec.inInt 0 65535)) && true) = true := hw
  have hwl' : WellAll w.params s₁.heap vals [WData.list (ns.map WData.int)] := hwl
  have hw1 := (Bool.and_eq_true_iff.mp hw').1
  cases hwl' with
  | cons w1 w2 =>
    cases w2
    obtain ⟨a, vs, rfl, hobj, hints⟩ := KA.list_of w1
    have hlen : ns.length = 97 := by
      have z := (Bool.and_eq_true_iff.mp hw1).1
      unfold Codec.inNat at z
      simp only [Bool.and_eq_true, decide_eq_true_eq] at z
      omega
    have hall : ∀ x ∈ ns, 0 ≤ x ∧ x ≤ 65535 := fun x hx => by
      have z := List.all_eq_true.mp (Bool.and_eq_true_iff.mp hw1).2 x hx
      unfold Codec.inInt at z
      simpa using z
    obtain ⟨ens, hq1, hq2⟩ := Km.nats_of hlen hall
    refine enter_call (codeAny_mono (KA.listF KX G.T.g G.T.b G.T.builtins G.T.nolimit hg (⟨rfl, by decide, by decide⟩ : L2.Room 7 callerA) hobj hints (by rw [hlen]; exact L2.small (by decide)) (fun base => Km.ok_sg_text T) hmg (.cons rfl .nil)
      (avs := [L2.V.ref a]) (out := Km.outT (ns.map Int.toNat)) (fun H hS => ⟨a, ns.map Int.toNat, rfl, by rw [ens]; exact hS, hq1, hq2, fun r H' hr => ⟨r, rfl, hr⟩⟩)) fun r s' hq => KA.endL hq ?_)
    refine (OpenSpec.post_iff said hw _ _).mpr ?_
    rw [Km.out_eq hlen hall]
    rfl
#print axioms PySem.Challenge.cw_komadai_s02_sg_text_holds

end
