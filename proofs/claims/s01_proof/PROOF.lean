import PyProof.Rows.All
import Wide.All
import OpenK.AllK
import Wide.FinOn
import PyProof.EqAt
import PyProof.EqKinds
import PyProof.TupleCall
import KE.BitLaws
import Open.SpecLaws
import KE.OsHead
import KE.OsGo
import PySem.Challenge.RW_snowcrews_s01_answers
set_option Elab.async false
set_option linter.all false
set_option maxRecDepth 100000
namespace L2
open PySem PySem.Spec PyProof.Rows
/-- a key: an int or a str -/
abbrev Key := Sum Int Str
def keyIs : Key → Value → Bool
  | .inl k, v => Value.isInt k v
  | .inr x, v => Value.isStrOf x v
def keyH (w : World) : Key → Int
  | .inl k => hashInt k
  | .inr x => hashStr w x
theorem keyIs_shape : ∀ {k : Key} {v : Value}, keyIs k v = true → (∃ i t, k = Sum.inl i ∧ v = Value.int i t) ∨ (∃ x t, k = Sum.inr x ∧ v = Value.str x t)
  | .inl i, v, h => by
    obtain ⟨t, e⟩ := Value.isInt_shape (k := i) (v := v) h
    exact .inl ⟨i, t, rfl, e⟩
  | .inr x, v, h => by
    obtain ⟨t, e⟩ := Value.isStrOf_shape (x := x) (v := v) h
    exact .inr ⟨x, t, rfl, e⟩
theorem keyIs_int (i : Int) (t : Tok) : keyIs (.inl i) (.int i t) = true := by simp [keyIs, Value.isInt]
theorem keyIs_str (x : Str) (t : Tok) : keyIs (.inr x) (.str x t) = true := by simp [keyIs, Value.isStrOf]
theorem key_ll (a b : Int) : decide ((Sum.inl a : Key) = Sum.inl b) = (a == b) := by
  by_cases e : a = b
  · subst e; simp
  · have h : ¬ (Sum.inl a : Key) = Sum.inl b := fun q => e (Sum.inl.inj q)
    rw [decide_eq_false h]
    exact (beq_eq_false_iff_ne.mpr e).symm
theorem key_rr (a b : Str) : decide ((Sum.inr a : Key) = Sum.inr b) = decide (a = b) := by
  by_cases e : a = b
  · subst e; simp
  · have h : ¬ (Sum.inr a : Key) = Sum.inr b := fun q => e (Sum.inr.inj q)
    rw [decide_eq_false h, decide_eq_false e]
theorem key_lr (a : Int) (b : Str) : decide ((Sum.inl a : Key) = Sum.inr b) = false := decide_eq_false (fun q => nomatch q)
theorem key_rl (a : Str) (b : Int) : decide ((Sum.inr a : Key) = Sum.inl b) = false := decide_eq_false (fun q => nomatch q)
def mixKind (prog : Program) (w : World) : PySem.KeyKind prog w Key where
  is := keyIs
  hash := keyH w
  inj := fun v a b ha hb => by
    rcases keyIs_shape ha with ⟨i, t, rfl, rfl⟩ | ⟨x, t, rfl, rfl⟩
    · rcases keyIs_shape hb with ⟨j, u, rfl, e⟩ | ⟨y, u, rfl, e⟩
      · injection e with e1 _; rw [e1]
      · exact nomatch e
    · rcases keyIs_shape hb with ⟨j, u, rfl, e⟩ | ⟨y, u, rfl, e⟩
      · exact nomatch e
      · injection e with e1 _; rw [e1]
  byValue := fun k v h => by
    rcases keyIs_shape h with ⟨i, t, rfl, rfl⟩ | ⟨x, t, rfl, rfl⟩ <;> rfl
  pyHash := fun hv h => by
    rcases keyIs_shape hv with ⟨i, t, rfl, rfl⟩ | ⟨x, t, rfl, rfl⟩
    · exact wpAny_pyHash_int h
    · exact wpAny_pyHash_str h
  eqBool := fun hu hv h => by
    rcases keyIs_shape hu with ⟨i, t, rfl, rfl⟩ | ⟨x, t, rfl, rfl⟩
    · rcases keyIs_shape hv with ⟨j, u, rfl, rfl⟩ | ⟨y, u, rfl, rfl⟩
      · rw [key_ll] at h; exact wpAny_eqBool_int h
      · rw [key_lr] at h; exact SeqAt.EqAt.int_str i t y u _ _ _ _ h
    · rcases keyIs_shape hv with ⟨j, u, rfl, rfl⟩ | ⟨y, u, rfl, rfl⟩
      · rw [key_rl] at h; exact SeqAt.EqAt.str_int x t j u _ _ _ _ h
      · rw [key_rr] at h; exact wpAny_eqBool_str h
  «strs» := fun k x t v h => by
    rcases keyIs_shape h with ⟨i, u, rfl, e⟩ | ⟨y, u, rfl, e⟩
    · exact nomatch e
    · injection e with e1 _
      subst e1
      cases v <;> rfl
theorem mixKind_int (prog : Program) (w : World) (i : Int) (t : Tok) : (mixKind prog w).is (.inl i) (.int i t) = true := keyIs_int i t
theorem mixKind_str (prog : Program) (w : World) (x : Str) (t : Tok) : (mixKind prog w).is (.inr x) (.str x t) = true := keyIs_str x t
end L2
namespace L2
open PySem PySem.Spec PyProof.Rows
/-- a value, without the heap -/
inductive V where
  | non | bl (b : Bool) | int (i : Int) | str (x : Str) | byt (b : Array UInt8) | flt (b : UInt64) | ref (a : Addr) | ty (n : String)
  deriving DecidableEq
def RelV : V → Value → Prop
  | .non, u => u = Value.none
  | .bl b, u => u = Value.bool b
  | .int i, u => ∃ t, u = Value.int i t
  | .str x, u => ∃ t, u = Value.str x t
  | .byt b, u => ∃ t, u = Value.bytes b t
  | .flt b, u => ∃ t, u = Value.float b t
  | .ref a, u => u = Value.ref a
  | .ty n, u => u = Value.type n
abbrev Vals : List V → List Value → Prop := Paired RelV
theorem Vals.length {xs : List V} {us : List Value} (r : Vals xs us) : xs.length = us.length := Paired.length r
theorem Vals.get : ∀ {xs : List V} {us : List Value} {i : Nat} {x : V}, Vals xs us → xs[i]? = some x → ∃ u, us[i]? = some u ∧ RelV x u
  | _, _, _, _, .nil, e => by simp at e
  | _, _, 0, _, .cons r _, e => by simp at e; subst e; exact ⟨_, rfl, r⟩
  | _, _, i + 1, x, .cons _ t, e => by
    obtain ⟨u, h1, h2⟩ := Vals.get (i := i) (x := x) t (by simpa using e)
    exact ⟨u, by simpa using h1, h2⟩
theorem Vals.set {x : V} {u : Value} (r : RelV x u) : ∀ {xs : List V} {us : List Value} (i : Nat), Vals xs us → Vals (xs.set i x) (us.set i u)
  | _, _, _, .nil => .nil
  | _, _, 0, .cons _ t => .cons r t
  | _, _, i + 1, .cons q t => .cons q (Vals.set r i t)
theorem Vals.append : ∀ {xs ys : List V} {us ws : List Value}, Vals xs us → Vals ys ws → Vals (xs ++ ys) (us ++ ws)
  | _, _, _, _, .nil, s => s
  | _, _, _, _, .cons r t, s => .cons r (Vals.append t s)
theorem Vals.take : ∀ {xs : List V} {us : List Value} (n : Nat), Vals xs us → Vals (xs.take n) (us.take n)
  | _, _, 0, _ => .nil
  | _, _, _ + 1, .nil => .nil
  | _, _, n + 1, .cons r t => .cons r (Vals.take n t)
theorem Vals.drop : ∀ {xs : List V} {us : List Value} (n : Nat), Vals xs us → Vals (xs.drop n) (us.drop n)
  | _, _, 0, r => r
  | _, _, _ + 1, .nil => .nil
  | _, _, n + 1, .cons _ t => Vals.drop n t
theorem Vals.none_of : ∀ {xs : List V} {us : List Value} {i : Nat}, Vals xs us → xs[i]? = none → us[i]? = none := fun {xs us i} r e => by
  have h1 := r.length
  have h2 : xs.length ≤ i := List.getElem?_eq_none_iff.mp e
  exact List.getElem?_eq_none_iff.mpr (by omega)
def RelO : Option V → Option Value → Prop
  | some v, some u => RelV v u
  | none, none => True
  | _, _ => False
def KV {κ : Type} : List (κ × V) → List (κ × Value) → Prop := Paired fun (p : κ × V) (q : κ × Value) => p.1 = q.1 ∧ RelV p.2 q.2
/-- a key of a dict (00_mix): an int or a text -/
def kV : Key → V
  | .inl i => .int i
  | .inr x => .str x
/-- what stands at a tracked address -/
inductive HO where
  /-- a list -/
  | lst (xs : List V)
  /-- a tuple (never changes) -/
  | tup (xs : List V)
  /-- a dict whose keys are ints and texts; one whose keys are tuples of ints and texts (the empty one is both) -/
  | dK (kvs : List (Key × V)) | dT (kvs : List (List Key × V))
  /-- a set of ints: its members, its size -/
  | set (S : Int → Bool) (n : Nat)
  /-- an instance of the class at C, its dict at dx, its attributes -/
  | ins (C dx : Addr) (fs : List (Str × V))
  /-- the dict of the instance at x -/
  | own (x : Addr)
  /-- the dict of an exception -/
  | xd (fs : List (Str × V))
  /-- a bound method, f of x -/
  | met (f x : Addr)
  /-- a range object lo, lo + 1, .. below hi -/
  | rng (lo hi : Int)
  /-- a thing that is known to the object (the script; a dict while a loop walks it): read, never written while it is so -/
  | frz (o : Obj) (u : HO)
  /-- a code object's table -/
  | tbl (ps : Array Value)
  /-- any other thing, by what is true of its one object (a def of one's own: SetO a S n := HO.ext fun h => ..) -/
  | ext (φ : Heap → Prop)
abbrev Hp := Addr → Option HO
def upd (H : Hp) (a : Addr) (o : HO) : Hp := fun b => if b = a then some o else H b
theorem upd_same {H : Hp} {a : Addr} {o : HO} : upd H a o a = some o := by unfold upd; rw [if_pos rfl]
theorem upd_ne {H : Hp} {a b : Addr} {o : HO} (h : b ≠ a) : upd H a o b = H b := by unfold upd; rw [if_neg h]
theorem upd_upd {H : Hp} {a : Addr} {o u : HO} : upd (upd H a o) a u = upd H a u := by
  funext b; unfold upd; split <;> rfl
/-- two objects of different content stand apart -/
theorem ne_of {H : Hp} {a b : Addr} {o u : HO} (h : H a = some o) (h' : H b = some u) (d : o ≠ u) : a ≠ b := by
  intro e; subst e; rw [h] at h'; exact d (Option.some.inj h')
theorem ne_of_none {H : Hp} {a b : Addr} {o : HO} (h : H a = some o) (h' : H b = none) : a ≠ b := by
  intro e; subst e; rw [h] at h'; cases h'
section
variable (P : Program) (w : World)
def ObjOk (H : Hp) (h : Heap) (a : Addr) : HO → Prop
  | .lst xs => xs.length ≤ sizeLine ∧ ∃ (its : List Value) (n : Nat), Vals xs its ∧ h.get? a = some { cls := .type "list", data := .seq its.toArray n }
  | .tup xs => xs.length ≤ sizeLine ∧ ∃ its : List Value, Vals xs its ∧ IsTup h a its.toArray
  | .dK kvs => kvs.length ≤ sizeLine ∧ (a == sysModules) = false ∧ ∃ vs, KV kvs vs ∧ h.DictOf (mixKind P w) a vs
  | .dT kvs => kvs.length ≤ sizeLine ∧ (a == sysModules) = false ∧ ∃ xs : List (List Key × Addr × Value),
      Paired (fun (p : List Key × V) (q : List Key × Addr × Value) => p.1 = q.1 ∧ H q.2.1 = some (.tup (p.1.map kV)) ∧ RelV p.2 q.2.2) kvs xs ∧
      ∃ o es ep, h.get? a = some o ∧ o.ExactDict ∧ o.data = .dict es ep ∧ es.toList = xs.map (entryOfKey (tupleKind (mixKind P w))) ∧ (xs.map (·.1)).Nodup
  | .set S n => h.SetOf (intKind P w) a S n
  | .ins C dx fs => H dx = some (.own a) ∧ fs.length ≤ 1000 ∧ dx ≠ a ∧ h.get? a = some (PySem.W.instObj C dx) ∧
      ∃ mA, h.Ns1 dx mA ∧ (∀ f, RelO (fs.lookup f) (mA f)) ∧ PySem.Within mA (fs.map (·.1))
  | .own _ => ∃ o, h.get? a = some o
  | .xd fs => ∃ mA, h.Ns1 a mA ∧ ∀ f, RelO (fs.lookup f) (mA f)
  | .rng lo hi => ∃ t u v, h.get? a = some { cls := .type "range", data := .fields #[.int lo t, .int hi u, .int 1 v] }
  | .frz o u => h.get? a = some o ∧ ObjOk H h a u
  | .tbl ps => h.get? a = some { cls := .none, data := .fields ps }
  | .met f x => h.get? a = some (PySem.W.methodObj (.ref f) (.ref x))
  | .ext φ => φ h ∧ (∃ o, h.get? a = some o) ∧ ∀ h1 h2 : Heap, φ h1 → (∀ o, h1.get? a = some o → h2.get? a = some o) → φ h2
/-- the abstract heap is held -/
def HOk (H : Hp) (h : Heap) : Prop := ∀ a o, H a = some o → ObjOk P w H h a o
end
section
variable {P : Program} {w : World} {H H' : Hp} {h h' : Heap} {a : Addr} {o : HO}
theorem ObjOk.lt (x : ObjOk P w H h a o) : a < h.objs.size := by
  cases o with
  | lst xs => obtain ⟨_, _, _, _, e⟩ := x; exact Heap.lt_size e
  | tup xs => obtain ⟨_, _, _, p⟩ := x; exact p.lt
  | dK kvs => obtain ⟨_, _, _, _, o, _, _, e, _⟩ := x; exact Heap.lt_size e
  | dT kvs => obtain ⟨_, _, _, _, o, _, _, e, _⟩ := x; exact Heap.lt_size e
  | set S n => obtain ⟨o, _, _, _, e, _⟩ := x; exact Heap.lt_size e
  | ins C dx fs => obtain ⟨_, _, _, e, _⟩ := x; exact Heap.lt_size e
  | own y => obtain ⟨_, e⟩ := x; exact Heap.lt_size e
  | xd fs => obtain ⟨_, ⟨_, _, _, e, _⟩, _⟩ := x; exact Heap.lt_size e
  | rng lo hi => obtain ⟨_, _, _, e⟩ := x; exact Heap.lt_size e
  | frz ob u => obtain ⟨e, _⟩ := x; exact Heap.lt_size e
  | tbl ps => exact Heap.lt_size (show h.get? a = some _ from x)
  | met f y => exact Heap.lt_size (show h.get? a = some _ from x)
  | ext φ => obtain ⟨_, ⟨_, e⟩, _⟩ := x; exact Heap.lt_size e
theorem Paired.mapP {α β : Type} {F G : α → β → Prop} : ∀ {l₁ : List α} {l₂ : List β}, Paired F l₁ l₂ → (∀ a b, F a b → G a b) → Paired G l₁ l₂
  | _, _, .nil, _ => .nil
  | _, _, .cons r t, f => .cons (f _ _ r) (Paired.mapP t f)
/-- what an object's description leans on: its own object, its own dict, the tuples -/
theorem ObjOk.stay (x : ObjOk P w H h a o) (k : ∀ b u, (b = a ∨ H b = some (.own a)) → h.get? b = some u → h'.get? b = some u)
    (ho : ∀ b, H b = some (.own a) → H' b = some (.own a)) (ht : ∀ b xs, H b = some (.tup xs) → H' b = some (.tup xs)) : ObjOk P w H' h' a o := by
  induction o with
  | lst xs => obtain ⟨z, its, n, r, e⟩ := x; exact ⟨z, its, n, r, k _ _ (.inl rfl) e⟩
  | tup xs => obtain ⟨z, its, r, ob, e, c⟩ := x; exact ⟨z, its, r, ob, k _ _ (.inl rfl) e, c⟩
  | dK kvs => obtain ⟨z, y, vs, r, ob, es, ep, e, c⟩ := x; exact ⟨z, y, vs, r, ob, es, ep, k _ _ (.inl rfl) e, c⟩
  | dT kvs =>
    obtain ⟨z, y, xs, r, ob, es, ep, e, c⟩ := x
    exact ⟨z, y, xs, Paired.mapP r fun p q z => ⟨z.1, ht _ _ z.2.1, z.2.2⟩, ob, es, ep, k _ _ (.inl rfl) e, c⟩
  | set S n => obtain ⟨ob, es, ep, t, e, c⟩ := x; exact ⟨ob, es, ep, t, k _ _ (.inl rfl) e, c⟩
  | ins C dx fs =>
    obtain ⟨d, z, ne, e, mA, ⟨od, es, ep, e2, c⟩, r⟩ := x
    exact ⟨ho _ d, z, ne, k _ _ (.inl rfl) e, mA, ⟨od, es, ep, k _ _ (.inr d) e2, c⟩, r⟩
  | own y => obtain ⟨ob, e⟩ := x; exact ⟨ob, k _ _ (.inl rfl) e⟩
  | xd fs => obtain ⟨mA, ⟨od, es, ep, e, c⟩, r⟩ := x; exact ⟨mA, ⟨od, es, ep, k _ _ (.inl rfl) e, c⟩, r⟩
  | rng lo hi => obtain ⟨t, u, v, e⟩ := x; exact ⟨t, u, v, k _ _ (.inl rfl) e⟩
  | frz ob u ih => obtain ⟨e, q⟩ := x; exact ⟨k _ _ (.inl rfl) e, ih q⟩
  | tbl ps =>
    have e : h.get? a = some { cls := .none, data := .fields ps } := x
    show h'.get? a = some { cls := .none, data := .fields ps }
    exact k a _ (.inl rfl) e
  | met f y =>
    have e : h.get? a = some (PySem.W.methodObj (.ref f) (.ref y)) := x
    show h'.get? a = some (PySem.W.methodObj (.ref f) (.ref y))
    exact k a _ (.inl rfl) e
  | ext φ => obtain ⟨p, ⟨o, e⟩, st⟩ := x; exact ⟨st _ _ p fun o q => k _ _ (.inl rfl) q, ⟨o, k _ _ (.inl rfl) e⟩, st⟩
theorem HOk.lt (x : HOk P w H h) (e : H a = some o) : a < h.objs.size := (x a o e).lt
theorem HOk.fresh (x : HOk P w H h) (e : h.objs.size ≤ a) : H a = none := by
  cases q : H a with
  | none => rfl
  | some u => exact absurd (Nat.lt_of_lt_of_le (x.lt q) e) (Nat.lt_irrefl _)
/-- every object of the heap is kept -/
theorem HOk.kept (x : HOk P w H h) (k : ∀ b u, h.get? b = some u → h'.get? b = some u) : HOk P w H h' := fun a o e =>
  (x a o e).stay (fun b u _ q => k b u q) (fun _ q => q) fun _ _ q => q
/-- a new object is laid and tracked -/
theorem HOk.laid (x : HOk P w H h) (k : ∀ b u, h.get? b = some u → h'.get? b = some u) (hp : h.objs.size ≤ a) (new : ObjOk P w (upd H a o) h' a o) : HOk P w (upd H a o) h' := fun b u e => by
  have hn := x.fresh hp
  by_cases hb : b = a
  · subst hb; rw [upd_same] at e; cases e; exact new
  · rw [upd_ne hb] at e
    exact (x b u e).stay (fun c v _ q => k c v q) (fun c q => by rw [upd_ne (ne_of_none q hn)]; exact q) fun c xs q => by rw [upd_ne (ne_of_none q hn)]; exact q
end
/-- what may be read as u: it is u, or a known u -/
def Rd (H : Hp) (a : Addr) (u : HO) : Prop := H a = some u ∨ ∃ o, H a = some (.frz o u)
theorem Rd.of {H : Hp} {a : Addr} {u : HO} (h : H a = some u) : Rd H a u := .inl h
theorem Rd.ok {P : Program} {w : World} {H : Hp} {h : Heap} {a : Addr} {u : HO} (r : Rd H a u) (x : HOk P w H h) : ObjOk P w H h a u := by
  rcases r with r | ⟨o, r⟩
  · exact x a u r
  · obtain ⟨_, q⟩ := x a _ r
    exact q
/-- what may be written -/
def Mut : Option HO → Prop
  | some (.lst _) => True
  | some (.dK _) => True
  | some (.dT _) => True
  | some (.set _ _) => True
  | some (.ins _ _ _) => True
  | some (.ext _) => True
  | _ => False
section
variable {P : Program} {w : World} {H : Hp} {h h' : Heap} {x e : Addr} {o' : HO}
/-- the object at e is changed: x itself, or the dict of the instance x -/
theorem HOk.write (ok : HOk P w H h) (mu : Mut (H x)) (he : e = x ∨ H e = some (.own x)) (k : ∀ b u, b ≠ e → h.get? b = some u → h'.get? b = some u) (heo : ∃ u, h'.get? e = some u)
    (new : ObjOk P w (upd H x o') h' x o') : HOk P w (upd H x o') h' := fun b u q => by
  have nown : ∀ c y, H c = some (.own y) → c ≠ x := fun c y r z => by subst z; rw [r] at mu; exact mu
  have ntup : ∀ c xs, H c = some (.tup xs) → c ≠ x := fun c xs r z => by subst z; rw [r] at mu; exact mu
  by_cases hb : b = x
  · subst hb; rw [upd_same] at q; cases q; exact new
  · rw [upd_ne hb] at q
    by_cases hbe : b = e
    · have q' : H b = some (.own x) := by
        rcases he with z | z
        · exact absurd (hbe.trans z) hb
        · rw [hbe]; exact z
      rw [q] at q'; cases q'
      obtain ⟨v, hv⟩ := heo
      exact ⟨v, by rw [hbe]; exact hv⟩
    · refine (ok b u q).stay (fun c v hc r => k c v ?_ r) (fun c r => by rw [upd_ne (nown c b r)]; exact r) fun c xs r => by rw [upd_ne (ntup c xs r)]; exact r
      rcases hc with rfl | hc
      · exact hbe
      · rintro rfl
        rcases he with z | z
        · exact nown c b hc z
        · rw [hc] at z; cases z; exact hb rfl
end
structure Un (fs ex : List Addr) (H H' : Hp) (h h' : Heap) : Prop where
  keep : ∀ b o, h.get? b = some o → H b = none → b ∉ fs → b ∉ ex → h'.get? b = some o
  slot : ∀ b o, h.get? b = some o → H b = none → b ∈ fs → b ∉ ex → ∃ sl, h'.get? b = some { o with slots := sl }
  free : ∀ b o, h.get? b = some o → H b = none → b ∉ ex → H' b = none
  there : ∀ b o, h.get? b = some o → b ∉ ex → ∃ o', h'.get? b = some o'
  tups : ∀ b xs, H b = some (.tup xs) → H' b = some (.tup xs)
  frzs : ∀ b o u, H b = some (.frz o u) → H' b = some (.frz o u)
  tbls : ∀ b ps, H b = some (.tbl ps) → ∃ more, H' b = some (.tbl (ps ++ more))
section
variable {fs fs' ex ex' : List Addr} {H H1 H2 : Hp} {h h1 h2 h' : Heap} {a x e : Addr} {o : HO}
theorem Un.any (u : Un fs ex H H1 h h1) {b : Addr} {ob : Obj} (q : h.get? b = some ob) (n : H b = none) (hx : b ∉ ex) : ∃ sl, h1.get? b = some { ob with slots := sl } := by
  by_cases hb : b ∈ fs
  · exact u.slot b ob q n hb hx
  · exact ⟨ob.slots, u.keep b ob q n hb hx⟩
theorem Un.trans (a : Un fs ex H H1 h h1) (b : Un fs ex H1 H2 h1 h2) : Un fs ex H H2 h h2 where
  keep := fun c ob q n hc hx => b.keep c ob (a.keep c ob q n hc hx) (a.free c ob q n hx) hc hx
  slot := fun c ob q n hc hx => by
    obtain ⟨sl, e1⟩ := a.slot c ob q n hc hx
    obtain ⟨sl', e2⟩ := b.slot c _ e1 (a.free c ob q n hx) hc hx
    exact ⟨sl', e2⟩
  free := fun c ob q n hx => by
    obtain ⟨o', e1⟩ := a.there c ob q hx
    exact b.free c o' e1 (a.free c ob q n hx) hx
  there := fun c ob q hx => by
    obtain ⟨o', e1⟩ := a.there c ob q hx
    exact b.there c o' e1 hx
  tups := fun c xs q => b.tups c xs (a.tups c xs q)
  frzs := fun c ob xs q => b.frzs c ob xs (a.frzs c ob xs q)
  tbls := fun c ps q => by
    obtain ⟨m1, e1⟩ := a.tbls c ps q
    obtain ⟨m2, e2⟩ := b.tbls c _ e1
    exact ⟨m1 ++ m2, by rw [e2, Array.append_assoc]⟩
theorem Un.kept (k : ∀ b u, h.get? b = some u → h'.get? b = some u) : Un fs ex H H h h' :=
  ⟨fun b ob q _ _ _ => k b ob q, fun b ob q _ _ _ => ⟨ob.slots, k b ob q⟩, fun _ _ _ n _ => n, fun b ob q _ => ⟨ob, k b ob q⟩, fun _ _ q => q, fun _ _ _ q => q, fun _ ps q => ⟨#[], by rw [q]; simp⟩⟩
theorem Un.refl : Un fs ex H H h h := Un.kept fun _ _ q => q
theorem Un.laid (k : ∀ b u, h.get? b = some u → h'.get? b = some u) (hp : h.objs.size ≤ a) (hn : H a = none) : Un fs ex H (upd H a o) h h' where
  keep := fun b u q _ _ _ => k b u q
  slot := fun b u q _ _ _ => ⟨u.slots, k b u q⟩
  free := fun b u q n _ => by rw [upd_ne (Nat.ne_of_lt (Nat.lt_of_lt_of_le (Heap.lt_size q) hp))]; exact n
  there := fun b u q _ => ⟨u, k b u q⟩
  tups := fun b xs q => by rw [upd_ne (ne_of_none q hn)]; exact q
  frzs := fun b u xs q => by rw [upd_ne (ne_of_none q hn)]; exact q
  tbls := fun b ps q => ⟨#[], by rw [upd_ne (ne_of_none q hn), q]; simp⟩
theorem Un.write (mu : Mut (H x)) (he : e = x ∨ H e = some (.own x)) (k : ∀ b u, b ≠ e → h.get? b = some u → h'.get? b = some u) (heo : ∃ u, h'.get? e = some u) : Un fs ex H (upd H x o) h h' := by
  have hx : ∀ b, H b = none → b ≠ x := fun b n z => by subst z; rw [n] at mu; exact mu
  have hb : ∀ b, H b = none → b ≠ e := fun b n z => by
    subst z
    rcases he with r | r
    · exact hx b n r
    · rw [n] at r; cases r
  have hm : ∀ b u, H b = some u → ¬ Mut (some u) → b ≠ x := fun b u q nm z => by subst z; rw [q] at mu; exact nm mu
  refine ⟨fun b u q n _ _ => k b u (hb b n) q, fun b u q n _ _ => ⟨u.slots, k b u (hb b n) q⟩, fun b u q n _ => by rw [upd_ne (hx b n)]; exact n, fun b u q _ => ?_,
    fun b xs q => by rw [upd_ne (hm b _ q fun z => z)]; exact q, fun b u xs q => by rw [upd_ne (hm b _ q fun z => z)]; exact q, fun b ps q => ⟨#[], by rw [upd_ne (hm b _ q fun z => z), q]; simp⟩⟩
  by_cases hbe : b = e
  · subst hbe; exact heo
  · exact ⟨u, k b u hbe q⟩
theorem Un.mono (u : Un fs ex H H1 h h1) (hs : ∀ b ∈ fs, b ∈ fs') (hx : ∀ b ∈ ex, b ∈ ex') : Un fs' ex' H H1 h h1 :=
  ⟨fun b ob q n hb he => u.keep b ob q n (fun z => hb (hs b z)) fun z => he (hx b z), fun _ _ q n _ he => u.any q n fun z => he (hx _ z), fun b ob q n he => u.free b ob q n fun z => he (hx b z), fun b ob q he => u.there b ob q fun z => he (hx b z), u.tups, u.frzs, u.tbls⟩
end
def trk (h : Heap) (H : Hp) : List Addr := (List.range h.objs.size).filter fun a => (H a).isSome
def hidT (h : Heap) (H : Hp) : Heap := PySem.W.hideAll h (trk h H)
theorem hidT_size (h : Heap) (H : Hp) : (hidT h H).objs.size = h.objs.size := PySem.W.hideAll_size _ _
theorem hidT_get {h : Heap} {H : Hp} {b : Addr} {o : Obj} (e : h.get? b = some o) (n : H b = none) : (hidT h H).get? b = some o :=
  PySem.W.hideAll_get _ e fun hm => by
    have q : (H b).isSome = true := (List.mem_filter.mp hm).2
    rw [n] at q; simp at q
theorem of_hidT {h : Heap} {H : Hp} {b : Addr} {o : Obj} (e : (hidT h H).get? b = some o) : h.get? b = some o ∧ H b = none := by
  have e' : h.get? b = some o := PySem.W.of_hideAll (trk h H) e
  refine ⟨e', ?_⟩
  cases q : H b with
  | none => rfl
  | some x =>
    have hm : b ∈ trk h H := List.mem_filter.mpr ⟨List.mem_range.mpr (Heap.lt_size e'), by simp [q]⟩
    have z : (hidT h H).get? b = none := PySem.W.hideAll_none (trk h H) hm
    rw [z] at e; cases e
def allNews (g h : Heap) (L : Addr) : List (Addr × Obj) := (List.range h.objs.size).filterMap fun a => if a = L ∨ (g.get? a).isSome = true then none else (h.get? a).map fun o => (a, o)
def rest (g h : Heap) (L d : Addr) : List (Addr × Obj) := (allNews g h L).filter fun p => decide (p.1 ≠ d)
end L2
namespace L2
open PySem PySem.Spec PyProof.Rows
/-- the module's facts, over the base: the heap at the law's entry without what is tracked there -/
structure Mod (K : PySem.W.Frag) (mg : Str → Option Value) (base : Heap) : Prop where
  kin : K.In base
  glob : base.Ns mainGlobals mg
  blt : ∃ mb, base.Ns builtinsNs mb ∧ ∀ x : Str, x ≠ "__name__" → mb x = bootBuiltins x
  nolimit : base.NoLimit
/-- the context: a def's body (or a comprehension's block) running. base: fixed through the whole law; s₀, H₀: the entry; outer: the frames whose slots others may change (a def's callers); stack: all frames that run;
   ex: iterators that were made ahead of the entry and are walked here (a comprehension's); fn: the names whose cells were made at the entry (a def: all; a comprehension's block: its own); calm: not within an except suite; pn: pins that every state bears; xe: what is wanted of an exception that leaves the code -/
structure Cx where
  prog : Program
  w : World
  K : PySem.W.Frag
  mg : Str → Option Value
  base : Heap
  A : Around
  N : List Str
  s_0 : Shared
  H_0 : Hp
  env : Env
  outer : List Env
  stack : List Env
  ex : List Addr
  fn : Str → Bool
  calm : Bool
  pn : List (Addr × Obj)
  xe : Value → Shared → Prop
/-- the callers' frames -/
def frs (l : List Env) : List Addr := l.filterMap (·.frame)
abbrev Cx.fs (X : Cx) : List Addr := frs X.outer
def Vis (sc : Scope) (x : Str) : Prop := sc.names.lookup x = some .local ∨ sc.names.lookup x = some .cell ∨ sc.names.lookup x = some .free
def Loc (sc : Scope) (x : Str) : Prop := sc.names.lookup x = some .local ∨ sc.names.lookup x = some .cell
def Look (env : Env) (h : Heap) (m : Str → Option Value) (x : Str) (u : Value) : Prop :=
  (env.kindOf x = some .local ∧ m x = some u) ∨ ((env.kindOf x = some .cell ∨ env.kindOf x = some .free) ∧ ∃ c, env.cells.lookup x = some c ∧ h.IsCell c (some u))
structure Cx.Ok (X : Cx) : Prop where
  mod : Mod X.K X.mg X.base
  kind : X.env.scope.kind = .function
  glob : X.env.globals = mainGlobals
  blt : X.env.builtins = builtinsNs
  above : X.s_0.heap.objs.size ≤ X.env.locals
  inj : ∀ x y c, X.env.cells.lookup x = some c → X.env.cells.lookup y = some c → x = y
  has : ∀ x, (X.env.kindOf x = some .cell ∨ X.env.kindOf x = some .free) → ∃ c, X.env.cells.lookup x = some c
  cab : ∀ x c, X.fn x = true → X.env.cells.lookup x = some c → X.s_0.heap.objs.size ≤ c
  hd : X.calm = true → X.A.handled = none
  frames : X.A.frames = some X.stack
  stk : X.stack = X.outer ∨ (X.stack = X.env :: X.outer ∧ X.env.frame = some X.env.locals)
  exf : ∀ b ∈ X.ex, b ≠ X.env.locals ∧ ∀ x c, X.env.cells.lookup x = some c → c ≠ b
  bs : ∀ b o, X.base.get? b = some o → X.s_0.heap.get? b = some o ∧ X.H_0 b = none
  bsz : X.base.objs.size ≤ X.s_0.heap.objs.size
  noex : ∀ b o, X.base.get? b = some o → b ∉ X.ex
  exfs : ∀ b ∈ X.ex, b ∉ X.fs
  funs : X.s_0.heap.FunFrames X.base X.outer
  frf : ∀ b ∈ X.fs, X.H_0 b = none
structure Inv (X : Cx) (pins : List (Addr × Obj)) (σ : List (Option V)) (H : Hp) (s : Shared) : Prop where
  ok : X.Ok
  os : s.os = X.s_0.os
  bare : AllBare s.gens
  base : Un X.fs X.ex X.H_0 H X.s_0.heap s.heap
  loc : ∃ m, s.heap.Ns X.env.locals m ∧ ∀ (i : Nat) (x : Str) (v : V), X.N[i]? = some x → σ[i]? = some (some v) → Vis X.env.scope x → ∃ u, RelV v u ∧ Look X.env s.heap m x u
  cell : ∀ x c, X.env.cells.lookup x = some c → ∃ v, s.heap.IsCell c v
  free : H X.env.locals = none
  freeC : ∀ x c, X.env.cells.lookup x = some c → H c = none
  pin : ∀ p ∈ X.pn ++ pins, s.heap.get? p.1 = some p.2 ∧ H p.1 = none ∧ p.1 ≠ X.env.locals ∧ p.1 ∉ X.fs ∧ ∀ v, p.2.data ≠ .cell v
  hok : HOk X.prog X.w H s.heap
  len : σ.length = X.N.length
section
variable {X : Cx} {pins : List (Addr × Obj)} {σ : List (Option V)} {H H' : Hp} {s : Shared} {h' : Heap}
theorem Cx.Ok.nofr (ok : X.Ok) {b : Addr} {o : Obj} (e : X.base.get? b = some o) : b ∉ X.fs := fun hb => by
  have := (ok.funs.mem hb).1
  rw [e] at this; cases this
theorem Inv.bs (I : Inv X pins σ H s) : ∀ b o, X.base.get? b = some o → s.heap.get? b = some o ∧ H b = none := fun b o e =>
  ⟨I.base.keep b o (I.ok.bs b o e).1 (I.ok.bs b o e).2 (I.ok.nofr e) (I.ok.noex b o e), I.base.free b o (I.ok.bs b o e).1 (I.ok.bs b o e).2 (I.ok.noex b o e)⟩
theorem Inv.bk (I : Inv X pins σ H s) : ∀ b o, X.base.get? b = some o → s.heap.get? b = some o := fun b o e => (I.bs b o e).1
theorem Inv.mod (I : Inv X pins σ H s) : Mod X.K X.mg X.base := I.ok.mod
theorem Inv.kIn (I : Inv X pins σ H s) : X.K.In s.heap := I.ok.mod.kin.keeps I.bk
theorem Inv.nolimit (I : Inv X pins σ H s) : s.heap.NoLimit := I.ok.mod.nolimit.keeps I.bk
theorem Inv.lt (I : Inv X pins σ H s) : X.env.locals < s.heap.objs.size := let ⟨_, hn, _⟩ := I.loc; hn.lt
theorem Inv.sz (I : Inv X pins σ H s) : X.s_0.heap.objs.size ≤ s.heap.objs.size := Nat.le_trans I.ok.above (Nat.le_of_lt I.lt)
theorem Inv.nofs (I : Inv X pins σ H s) {a : Addr} (h : s.heap.objs.size ≤ a) : a ∉ X.fs := fun hb => by
  obtain ⟨_, o, ho, _⟩ := I.ok.funs.mem hb
  exact absurd (Nat.lt_of_lt_of_le (Heap.lt_size ho) (Nat.le_trans I.sz h)) (Nat.lt_irrefl _)
theorem Inv.cne (I : Inv X pins σ H s) : ∀ x c, X.env.cells.lookup x = some c → c ≠ X.env.locals := fun x c e z => by
  obtain ⟨v, o, ho, hd⟩ := I.cell x c e
  obtain ⟨m, ⟨o', es, ep, ho', hd', _⟩, _⟩ := I.loc
  rw [z, ho'] at ho; cases ho; rw [hd'] at hd; cases hd
theorem Inv.funs (I : Inv X pins σ H s) : s.heap.FunFrames X.base X.outer := by
  have all : ∀ (l : List Env), (∀ b ∈ frs l, b ∈ X.fs) → X.s_0.heap.FunFrames X.base l → s.heap.FunFrames X.base l := by
    intro l
    induction l with
    | nil => intro _ _; trivial
    | cons env r ih =>
      intro hs hl
      obtain ⟨hk, ⟨L, o, hf, hn, ho, hd⟩, hr⟩ := hl
      have hL : L ∈ X.fs := hs L (by unfold frs; rw [List.filterMap_cons, hf]; exact List.mem_cons_self)
      obtain ⟨sl, e⟩ := I.base.slot L o ho (I.ok.frf L hL) hL fun z => I.ok.exfs L z hL
      exact ⟨hk, ⟨L, _, hf, hn, e, hd⟩, ih (fun b hb => hs b (by unfold frs; rw [List.filterMap_cons, hf]; exact List.mem_cons_of_mem _ hb)) hr⟩
  exact all X.outer (fun _ hb => hb) I.ok.funs
/-- the frames that run, for a call -/
theorem Inv.stack (I : Inv X pins σ H s) : s.heap.FunFrames X.base X.stack := by
  rcases I.ok.stk with e | ⟨e, hf⟩
  · rw [e]; exact I.funs
  · rw [e]
    obtain ⟨m, hn, _⟩ := I.loc
    refine .cons (by rw [I.ok.kind]; decide) hf hn ?_ I.funs
    exact Heap.get?_none_of_le (Nat.le_trans I.ok.bsz I.ok.above)
theorem Inv.stkSub (I : Inv X pins σ H s) : ∀ b ∈ frs X.stack, b ∈ X.env.locals :: X.fs := fun b hb => by
  rcases I.ok.stk with e | ⟨e, hf⟩
  · rw [e] at hb; exact List.mem_cons_of_mem _ hb
  · rw [e] at hb
    unfold frs at hb
    rw [List.filterMap_cons, hf] at hb
    exact hb
theorem Inv.stkFree (I : Inv X pins σ H s) : ∀ b ∈ frs X.stack, H b = none := fun b hb => by
  rcases List.mem_cons.mp (I.stkSub b hb) with e | hb
  · rw [e]; exact I.free
  · obtain ⟨_, o, ho, _⟩ := I.ok.funs.mem hb
    exact I.base.free b o ho (I.ok.frf b hb) fun z => I.ok.exfs b z hb
/-- THE STEP: the untracked objects but the frame and the records at ch are kept (the callers' frames up to slots), the frame's map is kept, the new abstract heap is held -/
theorem Inv.step {g' : Array GenState} {t' : Nat} {d' : Drawn} {ch : List Addr} (I : Inv X pins σ H s)
    (hch : ∀ b ∈ ch, (b ∈ X.ex ∨ X.s_0.heap.objs.size ≤ b) ∧ b ≠ X.env.locals ∧ (∀ x c, X.env.cells.lookup x = some c → c ≠ b) ∧ ∀ p ∈ X.pn ++ pins, p.1 ≠ b)
    (keep : ∀ b o, b ≠ X.env.locals → b ∉ X.fs → b ∉ ch → s.heap.get? b = some o → H b = none → h'.get? b = some o)
    (slot : ∀ b o, b ≠ X.env.locals → b ∈ X.fs → b ∉ ch → s.heap.get? b = some o → H b = none → ∃ sl, h'.get? b = some { o with slots := sl }) (free : ∀ b o, b ∉ ch → s.heap.get? b = some o → H b = none → H' b = none)
    (there : ∀ b o, b ∉ ch → s.heap.get? b = some o → ∃ o', h'.get? b = some o')
    (tups : ∀ b xs, H b = some (.tup xs) → H' b = some (.tup xs)) (frzs : ∀ b o u, H b = some (.frz o u) → H' b = some (.frz o u)) (tbls : ∀ b ps, H b = some (.tbl ps) → ∃ more, H' b = some (.tbl (ps ++ more)))
    (ns : ∀ m, s.heap.Ns X.env.locals m → h'.Ns X.env.locals m) (hok : HOk X.prog X.w H' h') (hg : AllBare g') :
    Inv X pins σ H' { s with heap := h', gens := g', drawn := d', toks := t' } := by
  have neL : ∀ b o, X.s_0.heap.get? b = some o → b ≠ X.env.locals := fun b o e => Nat.ne_of_lt (Nat.lt_of_lt_of_le (Heap.lt_size e) I.ok.above)
  have neC : ∀ b o, X.s_0.heap.get? b = some o → b ∉ X.ex → b ∉ ch := fun b o e hx hb => by
    rcases (hch b hb).1 with z | z
    · exact hx z
    · exact absurd (Nat.lt_of_lt_of_le (Heap.lt_size e) z) (Nat.lt_irrefl _)
  have cellK : ∀ x c, X.env.cells.lookup x = some c → ∀ v, s.heap.IsCell c v → h'.IsCell c v := fun x c e v ⟨o, ho, hd⟩ => by
    have nch : c ∉ ch := fun z => (hch c z).2.2.1 x c e rfl
    by_cases hc : c ∈ X.fs
    · obtain ⟨sl, q⟩ := slot c o (I.cne x c e) hc nch ho (I.freeC x c e)
      exact ⟨_, q, hd⟩
    · exact ⟨o, keep c o (I.cne x c e) hc nch ho (I.freeC x c e), hd⟩
  refine ⟨I.ok, I.os, hg, ⟨fun b o e n hb hx => ?_, fun b o e n hb hx => ?_, fun b o e n hx => ?_, fun b o e hx => ?_, fun b xs e => tups b xs (I.base.tups b xs e), fun b o xs e => frzs b o xs (I.base.frzs b o xs e), fun b ps e => ?_⟩, ?_, fun x c e => ?_, ?_, fun x c e => ?_, fun p hp => ?_, hok, I.len⟩
  · exact keep b o (neL b o e) hb (neC b o e hx) (I.base.keep b o e n hb hx) (I.base.free b o e n hx)
  · obtain ⟨sl, e1⟩ := I.base.slot b o e n hb hx
    obtain ⟨sl', e2⟩ := slot b _ (neL b o e) hb (neC b o e hx) e1 (I.base.free b o e n hx)
    exact ⟨sl', e2⟩
  · obtain ⟨o', e1⟩ := I.base.there b o e hx
    exact free b o' (neC b o e hx) e1 (I.base.free b o e n hx)
  · obtain ⟨o', e1⟩ := I.base.there b o e hx
    exact there b o' (neC b o e hx) e1
  · obtain ⟨m1, e1⟩ := I.base.tbls b ps e
    obtain ⟨m2, e2⟩ := tbls b _ e1
    exact ⟨m1 ++ m2, by rw [e2, Array.append_assoc]⟩
  · obtain ⟨m, hn, hl⟩ := I.loc
    refine ⟨m, ns m hn, fun i x v e1 e2 e3 => ?_⟩
    obtain ⟨u, r, l⟩ := hl i x v e1 e2 e3
    refine ⟨u, r, ?_⟩
    rcases l with l | ⟨k, c, e, z⟩
    · exact .inl l
    · exact .inr ⟨k, c, e, cellK x c e _ z⟩
  · obtain ⟨v, z⟩ := I.cell x c e
    exact ⟨v, cellK x c e v z⟩
  · obtain ⟨m, ⟨o, _, _, ho, _⟩, _⟩ := I.loc
    exact free _ o (fun z => (hch _ z).2.1 rfl) ho I.free
  · obtain ⟨v, o, ho, hd⟩ := I.cell x c e
    exact free c o (fun z => (hch c z).2.2.1 x c e rfl) ho (I.freeC x c e)
  · obtain ⟨e, n, ne, nf, d⟩ := I.pin p hp
    have nch : p.1 ∉ ch := fun z => (hch p.1 z).2.2.2 p hp rfl
    exact ⟨keep p.1 p.2 ne nf nch e n, free p.1 p.2 nch e n, ne, nf, d⟩
/-- .. where the frame's own object is kept too -/
theorem Inv.un {t' : Nat} (I : Inv X pins σ H s) (u : Un X.fs [] H H' s.heap h') (hok : HOk X.prog X.w H' h') : Inv X pins σ H' { s with heap := h', toks := t' } := by
  obtain ⟨m, ⟨o, es, ep, ho, r⟩, _⟩ := id I.loc
  obtain ⟨sl, hL⟩ := u.any ho I.free (by simp)
  exact I.step (g' := s.gens) (d' := s.drawn) (ch := []) (fun _ z => nomatch z) (fun b o _ hb _ e n => u.keep b o e n hb (by simp)) (fun b o _ hb _ e n => u.slot b o e n hb (by simp)) (fun b o _ e n => u.free b o e n (by simp)) (fun b o _ e => u.there b o e (by simp)) u.tups u.frzs u.tbls (fun m' hm => by
    obtain ⟨o', es', ep', ho', r'⟩ := hm
    rw [ho] at ho'; cases ho'
    exact ⟨_, es', ep', hL, r'⟩) hok I.bare
/-- behind a call (or a comprehension's block): the slots of this frame may have changed too, the records at ch may have turned -/
theorem Inv.call {g' : Array GenState} {t' : Nat} {d' : Drawn} {ch : List Addr} (I : Inv X pins σ H s) (u : Un (frs X.stack) ch H H' s.heap h') (hok : HOk X.prog X.w H' h') (hg : AllBare g')
    (hch : ∀ b ∈ ch, (b ∈ X.ex ∨ X.s_0.heap.objs.size ≤ b) ∧ b ≠ X.env.locals ∧ (∀ x c, X.env.cells.lookup x = some c → c ≠ b) ∧ ∀ p ∈ X.pn ++ pins, p.1 ≠ b) :
    Inv X pins σ H' { s with heap := h', gens := g', drawn := d', toks := t' } := by
  obtain ⟨m, ⟨o, es, ep, ho, r⟩, _⟩ := id I.loc
  obtain ⟨sl, hL⟩ := u.any ho I.free fun z => (hch _ z).2.1 rfl
  exact I.step (ch := ch) hch (fun b o hL hb hc e n => u.keep b o e n (fun z => (List.mem_cons.mp (I.stkSub b z)).elim hL hb) hc) (fun b o _ _ hc e n => u.any e n hc) (fun b o hc e n => u.free b o e n hc) (fun b o hc e => u.there b o e hc) u.tups u.frzs u.tbls (fun m' hm => by
    obtain ⟨o', es', ep', ho', r'⟩ := hm
    rw [ho] at ho'; cases ho'
    exact ⟨_, es', ep', hL, r'⟩) hok hg
/-- an untracked record of ours (an iterator) has turned -/
theorem Inv.turned {t' : Nat} {it : Addr} (I : Inv X pins σ H s) (k : ∀ b o, b ≠ it → s.heap.get? b = some o → h'.get? b = some o) (hn : H it = none) (hL : it ≠ X.env.locals)
    (h1 : it ∈ X.ex ∨ X.s_0.heap.objs.size ≤ it) (h2 : ∀ x c, X.env.cells.lookup x = some c → c ≠ it) (h3 : ∀ p ∈ X.pn ++ pins, p.1 ≠ it) : Inv X pins σ H { s with heap := h', toks := t' } := by
  have nit : ∀ b u, H b = some u → b ≠ it := fun b u e z => by rw [z, hn] at e; cases e
  refine I.step (g' := s.gens) (d' := s.drawn) (ch := [it]) (fun b hb => ?_) (fun b o _ _ hc e _ => k b o (fun z => hc (by simp [z])) e) (fun b o _ _ hc e _ => ⟨o.slots, k b o (fun z => hc (by simp [z])) e⟩) (fun _ _ _ _ n => n)
    (fun b o hc e => ⟨o, k b o (fun z => hc (by simp [z])) e⟩) (fun _ _ e => e) (fun _ _ _ e => e) (fun b ps e => ⟨#[], by rw [e]; simp⟩) (fun m hm => ?_) (fun b u e => ?_) I.bare
  · have e : b = it := by simpa using hb
    subst e
    exact ⟨h1, hL, h2, h3⟩
  · obtain ⟨o, es, ep, ho, r⟩ := hm
    exact ⟨o, es, ep, k _ o (Ne.symm hL) ho, r⟩
  · refine (I.hok b u e).stay (fun c v hc q => k c v ?_ q) (fun _ q => q) fun _ _ q => q
    rcases hc with z | z
    · rw [z]; exact nit b u e
    · exact nit c _ z
theorem Inv.tok (I : Inv X pins σ H s) (t : Nat) : Inv X pins σ H { s with toks := t } := I.un (h' := s.heap) (t' := t) Un.refl I.hok
/-- all objects kept -/
theorem Inv.kept {t' : Nat} (I : Inv X pins σ H s) (k : ∀ b u, s.heap.get? b = some u → h'.get? b = some u) : Inv X pins σ H { s with heap := h', toks := t' } := I.un (Un.kept k) (I.hok.kept k)
/-- a new object laid and tracked -/
theorem Inv.laid {a : Addr} {o : HO} {t' : Nat} (I : Inv X pins σ H s) (k : ∀ b u, s.heap.get? b = some u → h'.get? b = some u) (hp : s.heap.objs.size ≤ a) (new : ObjOk X.prog X.w (upd H a o) h' a o) :
    Inv X pins σ (upd H a o) { s with heap := h', toks := t' } := I.un (Un.laid k hp (I.hok.fresh hp)) (I.hok.laid k hp new)
/-- an object written -/
theorem Inv.write {x e : Addr} {o : HO} {t' : Nat} (I : Inv X pins σ H s) (mu : Mut (H x)) (he : e = x ∨ H e = some (.own x)) (k : ∀ b u, b ≠ e → s.heap.get? b = some u → h'.get? b = some u) (heo : ∃ u, h'.get? e = some u)
    (new : ObjOk X.prog X.w (upd H x o) h' x o) : Inv X pins σ (upd H x o) { s with heap := h', toks := t' } := I.un (Un.write mu he k heo) (I.hok.write mu he k heo new)
/-- forgetting slots, pins -/
theorem Inv.weak {σ' : List (Option V)} (I : Inv X pins σ H s) (hl : σ'.length = σ.length) (w : ∀ (i : Nat) v, σ'[i]? = some (some v) → σ[i]? = some (some v)) : Inv X pins σ' H s :=
  ⟨I.ok, I.os, I.bare, I.base, let ⟨m, hn, hl'⟩ := I.loc; ⟨m, hn, fun i x v e1 e2 e3 => hl' i x v e1 (w i v e2) e3⟩, I.cell, I.free, I.freeC, I.pin, I.hok, hl.trans I.len⟩
theorem Inv.pins_of {pins' : List (Addr × Obj)} (I : Inv X pins σ H s) (h : ∀ p ∈ pins', s.heap.get? p.1 = some p.2 ∧ H p.1 = none ∧ p.1 ≠ X.env.locals ∧ p.1 ∉ X.fs ∧ ∀ v, p.2.data ≠ .cell v) : Inv X pins' σ H s :=
  ⟨I.ok, I.os, I.bare, I.base, I.loc, I.cell, I.free, I.freeC, fun p hp => (List.mem_append.mp hp).elim (fun z => I.pin p (List.mem_append_left _ z)) (h p), I.hok, I.len⟩
theorem nodup_ix {N : List Str} (hN : N.Nodup) {i j : Nat} {x : Str} (a : N[i]? = some x) (b : N[j]? = some x) : i = j := by
  obtain ⟨h1, e1⟩ := List.getElem?_eq_some_iff.mp a
  obtain ⟨h2, e2⟩ := List.getElem?_eq_some_iff.mp b
  exact (List.getElem_inj hN).mp (e1.trans e2.symm)
/-- a name is stored; what changed -/
theorem store_ok2 {M : Model} {A : Around} {E : Value → Shared → Prop} {i : Nat} {x : Str} {v : V} {u : Value} {Q : Unit → Shared → Prop} (I : Inv X pins σ H s) (hN : X.N.Nodup) (hi : X.N[i]? = some x) (hx : Loc X.env.scope x) (r : RelV v u)
    (h : ∀ s', Inv X pins (σ.set i (some v)) H s' → (∃ a, Heap.SameBut a s.heap s'.heap ∧ (a = X.env.locals ∨ X.env.cells.lookup x = some a)) → Q () s') (hf : X.fn x = true ∨ X.env.scope.names.lookup x = some .local := by first | exact .inl rfl | exact .inr rfl | assumption) : wpAny M A (storeName X.env x u) Q E s := by
  obtain ⟨m, hn, hl⟩ := id I.loc
  have hcls : (X.env.scope.kind == .class || (X.env.scope.kind == .module && X.env.locals != X.env.globals)) = false := by rw [I.ok.kind]; rfl
  have hiσ : i < σ.length := by rw [I.len]; exact (List.getElem?_eq_some_iff.mp hi).1
  have cne := I.cne
  have tracked : ∀ {a : Addr} {h' : Heap}, (∃ o, s.heap.get? a = some o ∧ H a = none) → Heap.SameBut a s.heap h' → HOk X.prog X.w H h' := fun {a h'} ha hs b ob e => by
    obtain ⟨_, _, hfree⟩ := ha
    refine (I.hok b ob e).stay (fun c w' hc q => (hs.2 c ?_).trans q) (fun _ q => q) fun _ _ q => q
    rintro rfl
    rcases hc with rfl | hc
    · rw [hfree] at e; cases e
    · rw [hfree] at hc; cases hc
  rcases hx with hk | hk
  · refine wpAny_storeName_local hk hn (fun h' hn' hs => ?_) hcls
    obtain ⟨oL, _, _, hoL, _⟩ := id hn
    refine h _ ⟨I.ok, I.os, I.bare, ⟨fun b o e n hb hx => ?_, fun b o e n hb hx => ?_, I.base.free, fun b o e hx => ?_, I.base.tups, I.base.frzs, I.base.tbls⟩, ⟨_, hn', fun j y v' e1 e2 e3 => ?_⟩, fun y c e => ?_, I.free, I.freeC, fun p hp => ?_, tracked ⟨oL, hoL, I.free⟩ hs, by simpa using I.len⟩ ⟨_, hs, .inl rfl⟩
    · exact (hs.2 b (Nat.ne_of_lt (Nat.lt_of_lt_of_le (Heap.lt_size e) I.ok.above))).trans (I.base.keep b o e n hb hx)
    · obtain ⟨sl, e1⟩ := I.base.slot b o e n hb hx
      exact ⟨sl, (hs.2 b (Nat.ne_of_lt (Nat.lt_of_lt_of_le (Heap.lt_size e) I.ok.above))).trans e1⟩
    · obtain ⟨o', e1⟩ := I.base.there b o e hx
      exact ⟨o', (hs.2 b (Nat.ne_of_lt (Nat.lt_of_lt_of_le (Heap.lt_size e) I.ok.above))).trans e1⟩
    · by_cases hj : j = i
      · subst hj
        rw [hi] at e1; cases e1
        rw [List.getElem?_set_self hiσ] at e2
        cases e2
        exact ⟨u, r, .inl ⟨hk, by simp⟩⟩
      · rw [List.getElem?_set_ne (Ne.symm hj)] at e2
        obtain ⟨u', r', q⟩ := hl j y v' e1 e2 e3
        refine ⟨u', r', ?_⟩
        rcases q with ⟨k, e⟩ | ⟨k, c, e, z⟩
        · refine .inl ⟨k, ?_⟩
          have : y ≠ x := fun e => hj (nodup_ix hN e1 (e ▸ hi))
          simp [this, e]
        · exact .inr ⟨k, c, e, z.sameBut hs (cne y c e)⟩
    · obtain ⟨w', z⟩ := I.cell y c e
      exact ⟨w', z.sameBut hs (cne y c e)⟩
    · obtain ⟨e, n, ne, nf, d⟩ := I.pin p hp
      exact ⟨(hs.2 p.1 ne).trans e, n, ne, nf, d⟩
  · have hfn : X.fn x = true := by
      rcases hf with z | z
      · exact z
      · rw [z] at hk; cases hk
    obtain ⟨c, hc⟩ := I.ok.has x (.inl hk)
    obtain ⟨w', z⟩ := I.cell x c hc
    refine wpAny_storeName_cell I.ok.kind hk hc z (fun h' hc' hs => ?_)
    obtain ⟨oc, hoc, hocd⟩ := id z
    refine h { s with heap := h' } ⟨I.ok, I.os, I.bare, ⟨fun b o e n hb hx => ?_, fun b o e n hb hx => ?_, I.base.free, fun b o e hx => ?_, I.base.tups, I.base.frzs, I.base.tbls⟩, ⟨m, hn.sameBut hs (Ne.symm (cne x c hc)), fun j y v' e1 e2 e3 => ?_⟩, fun y c' e => ?_, I.free, I.freeC, fun p hp => ?_, tracked ⟨oc, hoc, I.freeC x c hc⟩ hs, by simpa using I.len⟩ ⟨c, hs, .inr hc⟩
    · exact (hs.2 b (Nat.ne_of_lt (Nat.lt_of_lt_of_le (Heap.lt_size e) (I.ok.cab x c hfn hc)))).trans (I.base.keep b o e n hb hx)
    · obtain ⟨sl, e1⟩ := I.base.slot b o e n hb hx
      exact ⟨sl, (hs.2 b (Nat.ne_of_lt (Nat.lt_of_lt_of_le (Heap.lt_size e) (I.ok.cab x c hfn hc)))).trans e1⟩
    · obtain ⟨o', e1⟩ := I.base.there b o e hx
      exact ⟨o', (hs.2 b (Nat.ne_of_lt (Nat.lt_of_lt_of_le (Heap.lt_size e) (I.ok.cab x c hfn hc)))).trans e1⟩
    · by_cases hj : j = i
      · subst hj
        rw [hi] at e1; cases e1
        rw [List.getElem?_set_self hiσ] at e2
        cases e2
        exact ⟨u, r, .inr ⟨.inl hk, c, hc, hc'⟩⟩
      · rw [List.getElem?_set_ne (Ne.symm hj)] at e2
        obtain ⟨u', r', q⟩ := hl j y v' e1 e2 e3
        refine ⟨u', r', ?_⟩
        rcases q with q | ⟨k, c', e, z'⟩
        · exact .inl q
        · refine .inr ⟨k, c', e, z'.sameBut hs ?_⟩
          rintro rfl
          exact hj (nodup_ix hN e1 (I.ok.inj _ _ _ e hc ▸ hi))
    · by_cases hcc : c' = c
      · subst hcc; exact ⟨_, hc'⟩
      · obtain ⟨w2, z2⟩ := I.cell y c' e
        exact ⟨w2, z2.sameBut hs hcc⟩
    · obtain ⟨e, n, ne, nf, d⟩ := I.pin p hp
      refine ⟨(hs.2 p.1 ?_).trans e, n, ne, nf, d⟩
      intro q
      rw [q, hoc] at e
      have q' : oc = p.2 := Option.some.inj e
      exact d w' (by rw [← q']; exact hocd)
theorem store_ok {M : Model} {A : Around} {E : Value → Shared → Prop} {i : Nat} {x : Str} {v : V} {u : Value} {Q : Unit → Shared → Prop} (I : Inv X pins σ H s) (hN : X.N.Nodup) (hi : X.N[i]? = some x) (hx : Loc X.env.scope x) (r : RelV v u)
    (h : ∀ s', Inv X pins (σ.set i (some v)) H s' → Q () s') (hf : X.fn x = true ∨ X.env.scope.names.lookup x = some .local := by first | exact .inl rfl | exact .inr rfl | assumption) : wpAny M A (storeName X.env x u) Q E s :=
  store_ok2 I hN hi hx r (fun s' I' _ => h s' I') hf
/-- behind a call or a block, the state as it is -/
theorem Inv.call' {s' : Shared} {ch : List Addr} (I : Inv X pins σ H s) (ho : s'.os = s.os) (u : Un (frs X.stack) ch H H' s.heap s'.heap) (hok : HOk X.prog X.w H' s'.heap) (hg : AllBare s'.gens)
    (hch : ∀ b ∈ ch, (b ∈ X.ex ∨ X.s_0.heap.objs.size ≤ b) ∧ b ≠ X.env.locals ∧ (∀ x c, X.env.cells.lookup x = some c → c ≠ b) ∧ ∀ p ∈ X.pn ++ pins, p.1 ≠ b) : Inv X pins σ H' s' := by
  obtain ⟨h', g', d', t', o'⟩ := s'
  have e : o' = s.os := ho
  subst e
  exact I.call (g' := g') (t' := t') (d' := d') u hok hg hch
end
/-- an exception: its class, its own dict's address (where it has one), the abstract heap behind it -/
abbrev XK := Value → Option Addr → Hp → Prop
abbrev St := List (Option V)
abbrev VK := V → Hp → Prop
/-- an expression's reading; a test's; an argument list's -/
abbrev TE := St → Hp → VK → Prop
abbrev TT := St → Hp → (Bool → Hp → Prop) → Prop
abbrev TA := St → Hp → (List V → Hp → Prop) → Prop
/-- what is wanted behind a statement -/
structure Ends where
  nx : St → Hp → Prop
  rt : VK
  bk : St → Hp → Prop := fun _ _ => False
  ct : St → Hp → Prop := fun _ _ => False
abbrev TS := Ends → St → Hp → Prop
def EP (X : Cx) (pins : List (Addr × Obj)) (σ : St) (Q : VK) (u : Value) (s' : Shared) : Prop := ∃ v H', Inv X pins σ H' s' ∧ RelV v u ∧ Q v H'
def TP (X : Cx) (pins : List (Addr × Obj)) (σ : St) (Q : Bool → Hp → Prop) (b : Bool) (s' : Shared) : Prop := ∃ H', Inv X pins σ H' s' ∧ Q b H'
def AP (X : Cx) (pins : List (Addr × Obj)) (σ : St) (Q : List V → Hp → Prop) (us : List Value) (s' : Shared) : Prop := ∃ vs H', Inv X pins σ H' s' ∧ Vals vs us ∧ Q vs H'
def SP (X : Cx) (pins : List (Addr × Obj)) (D : Ends) (f : Flow) (s' : Shared) : Prop :=
  match f with
  | .next => ∃ σ' H', Inv X pins σ' H' s' ∧ D.nx σ' H'
  | .brk => ∃ σ' H', Inv X pins σ' H' s' ∧ D.bk σ' H'
  | .cont => ∃ σ' H', Inv X pins σ' H' s' ∧ D.ct σ' H'
  | .ret u => ∃ v σ' H', Inv X pins σ' H' s' ∧ RelV v u ∧ D.rt v H'
def PE (X : Cx) (e : Expr) (t : TE) : Prop :=
  ∀ (pins : List (Addr × Obj)) (s : Shared) (σ : St) (H : Hp) (Q : VK), Inv X pins σ H s → t σ H Q → wpAny (model X.prog X.w) X.A (eval e X.env) (EP X pins σ Q) X.xe s
def PT (X : Cx) (e : Expr) (t : TT) : Prop :=
  ∀ (pins : List (Addr × Obj)) (s : Shared) (σ : St) (H : Hp) (Q : Bool → Hp → Prop), Inv X pins σ H s → t σ H Q → wpAny (model X.prog X.w) X.A (isTrue e X.env (eval e X.env)) (TP X pins σ Q) X.xe s
/-- a test whatever its 'whole' is (and, or) -/
def PW (X : Cx) (e : Expr) (t : TT) : Prop :=
  ∀ (whole : Sem Value) (pins : List (Addr × Obj)) (s : Shared) (σ : St) (H : Hp) (Q : Bool → Hp → Prop), Inv X pins σ H s → t σ H Q → wpAny (model X.prog X.w) X.A (isTrue e X.env whole) (TP X pins σ Q) X.xe s
theorem PW.pt {X : Cx} {e : Expr} {t : TT} (h : PW X e t) : PT X e t := h _
/-- an argument list (no star), from the left -/
def PA (X : Cx) (es : List Expr) (t : TA) : Prop :=
  ∀ (pos : Pos) (pins : List (Addr × Obj)) (s : Shared) (σ : St) (H : Hp) (Q : List V → Hp → Prop), Inv X pins σ H s → t σ H Q → wpAny (model X.prog X.w) X.A (spliced (backTo pos (starEach es X.env))) (AP X pins σ Q) X.xe s
def PS (X : Cx) (st : Stmt) (t : TS) : Prop :=
  ∀ (pins : List (Addr × Obj)) (s : Shared) (σ : St) (H : Hp) (D : Ends), Inv X pins σ H s → t D σ H → wpAny (model X.prog X.w) X.A (exec st X.env) (SP X pins D) X.xe s
def PSs (X : Cx) (st : List Stmt) (t : TS) : Prop :=
  ∀ (pins : List (Addr × Obj)) (s : Shared) (σ : St) (H : Hp) (D : Ends), Inv X pins σ H s → t D σ H → wpAny (model X.prog X.w) X.A (execs st X.env) (SP X pins D) X.xe s
/-- weaken the end -/
theorem thn {α : Type} {t : Sem α} {Q Q' : α → Shared → Prop} {M : Model} {A : Around} {E : Value → Shared → Prop} {s : Shared} (h : wpAny M A t Q E s) (hQ : ∀ a s, Q a s → Q' a s) : wpAny M A t Q' E s := wpAny_mono h hQ fun _ _ x => x
end L2
namespace L2
open PySem PySem.Spec PyProof.Rows
section
variable {X : Cx}
def tVar (i : Nat) : TE := fun σ H Q => ∃ v, σ[i]? = some (some v) ∧ Q v H
def tC (v : V) : TE := fun _ H Q => Q v H
theorem pe_var {i : Nat} {x : Str} {pos : Pos} (hN : X.N[i]? = some x) (hv : Vis X.env.scope x) (hd : (x == ("__debug__" : Str)) = false := by decide) (hcd : (x == ("__classdict__" : Str)) = false := by decide) : PE X (.Name x pos) (tVar i) := by
  intro pins s σ H Q I h
  obtain ⟨v, e, h⟩ := h
  obtain ⟨m, hn, hl⟩ := I.loc
  obtain ⟨u, r, l⟩ := hl i x v hN e hv
  have fin : EP X pins σ Q u s := ⟨v, H, I, r, h⟩
  rcases l with ⟨hk, hm⟩ | ⟨hk, c, hc, hcell⟩
  · exact wpAny_Name (wpAny_loadName_local I.ok.kind hk hn hm fin) hd
  · rcases hk with hk | hk
    · exact wpAny_Name (wpAny_loadName_cell I.ok.kind hk hc hcell fin) hd
    · exact wpAny_Name (wpAny_loadName_free I.ok.kind hk hc hcell fin hcd) hd
theorem pe_int {i j pos} : PE X (.Constant (.int i) j pos) (tC (.int i)) := fun _ _ _ H _ I h => wpAny_Constant_int ⟨.int i, H, I.tok _, ⟨_, rfl⟩, h⟩
/-- a global name of the def -/
def Gl (X : Cx) (x : Str) : Prop := X.env.kindOf x = some .globalImplicit
theorem ld_glob {E : Value → Shared → Prop} {pins : List (Addr × Obj)} {s : Shared} {σ : St} {H : Hp} {x : Str} {u : Value} {pos : Pos} {Q : Value → Shared → Prop} (I : Inv X pins σ H s) (hg : Gl X x) (hm : X.mg x = some u) (h : Q u s)
    (hd : (x == ("__debug__" : Str)) = false := by decide) : wpAny (model X.prog X.w) X.A (eval (.Name x pos) X.env) Q E s :=
  Calls.Name_function_global I.ok.kind hg (Calls.loadGlobal_global (by rw [I.ok.glob]; exact I.mod.glob.keeps I.bk) hm h) hd
theorem ld_blt {E : Value → Shared → Prop} {pins : List (Addr × Obj)} {s : Shared} {σ : St} {H : Hp} {x : Str} {u : Value} {pos : Pos} {Q : Value → Shared → Prop} (I : Inv X pins σ H s) (hg : Gl X x) (hm : X.mg x = none) (hv : bootBuiltins x = some u) (h : Q u s)
    (hn : x ≠ "__name__" := by decide) (hd : (x == ("__debug__" : Str)) = false := by decide) : wpAny (model X.prog X.w) X.A (eval (.Name x pos) X.env) Q E s := by
  obtain ⟨mb, h1, h2⟩ := I.mod.blt
  exact Calls.Name_function_global I.ok.kind hg (Calls.loadGlobal_builtin (by rw [I.ok.glob]; exact I.mod.glob.keeps I.bk) hm (by rw [I.ok.blt]; exact h1.keeps I.bk) ((h2 x hn).trans hv) h) hd
/-- a module's constant, a class, a function, as a value -/
theorem pe_glob {x : Str} {v : V} {u : Value} {pos : Pos} (hg : Gl X x) (hm : X.mg x = some u) (r : RelV v u) (hd : (x == ("__debug__" : Str)) = false := by decide) : PE X (.Name x pos) (tC v) :=
  fun _ _ _ H _ I h => ld_glob I hg hm ⟨v, H, I, r, h⟩ hd
variable {a b : Expr} {ta tb : TE} {pos : Pos}
/-- a comparison as a value, as a test -/
def tB (t : TE) : TT := fun σ H Q => t σ H fun x H1 => ∃ c, x = .bl c ∧ Q c H1
variable {tA tB' : TT} {rest : List Expr}
def tAnd (t u : TT) : TT := fun σ H Q => t σ H fun c H1 => if c = true then u σ H1 Q else Q false H1
def tOr (t u : TT) : TT := fun σ H Q => t σ H fun c H1 => if c = true then Q true H1 else u σ H1 Q
def tNot (t : TT) : TT := fun σ H Q => t σ H fun c H1 => Q (!c) H1
theorem pw_and1 (ha : PT X a tA) : PW X (.BoolOp .And [a] pos) tA := by
  intro wh pins s σ H Q I h
  refine isTrue_and (thn (ha pins s σ H Q I h) fun c s1 e => ?_)
  cases c with
  | true => exact isTrue_and_nil e
  | false => exact e
theorem pw_and (ha : PT X a tA) (hb : PW X (.BoolOp .And (b :: rest) pos) tB') : PW X (.BoolOp .And (a :: b :: rest) pos) (tAnd tA tB') := by
  intro wh pins s σ H Q I h
  refine isTrue_and (thn (ha pins s σ H _ I h) fun c s1 ⟨H1, I1, q1⟩ => ?_)
  cases c with
  | true => exact hb wh pins s1 σ H1 Q I1 q1
  | false => exact ⟨H1, I1, q1⟩
theorem pt_not (ha : PT X a tA) : PT X (.UnaryOp .Not a pos) (tNot tA) := by
  intro pins s σ H Q I h
  exact isTrue_not (ha pins s σ H (fun c H1 => Q (!c) H1) I h)
/-- .. as values (bools) -/
def tAndV (ta tb : TE) : TE := fun σ H Q => ta σ H fun x H1 => ∃ c, x = .bl c ∧ if c = true then tb σ H1 Q else Q (.bl false) H1
def tOrV (ta tb : TE) : TE := fun σ H Q => ta σ H fun x H1 => ∃ c, x = .bl c ∧ if c = true then Q (.bl true) H1 else tb σ H1 Q
def tNotV (ta : TE) : TE := fun σ H Q => ta σ H fun x H1 => ∃ c, x = .bl c ∧ Q (.bl (!c)) H1
theorem pe_one {op} {t : TE} (h : PE X a t) : PE X (.BoolOp op [a] pos) t := fun pins s σ H Q I hw => BoolOp_one (h pins s σ H Q I hw)
theorem pe_and (ha : PE X a ta) (hb : PE X (.BoolOp .And (b :: rest) pos) tb) : PE X (.BoolOp .And (a :: b :: rest) pos) (tAndV ta tb) := by
  intro pins s σ H Q I h
  refine BoolOp_and (thn (ha pins s σ H _ I h) fun v s1 ⟨x, H1, I1, r1, q1⟩ => ?_)
  obtain ⟨c, rfl, q1⟩ := q1
  cases r1
  refine wpAny_truthy_bool ?_
  cases c with
  | true => exact hb pins s1 σ H1 Q I1 q1
  | false => exact ⟨.bl false, H1, I1, rfl, q1⟩
/-- a if t else b -/
def tIf (t : TT) (ta tb : TE) : TE := fun σ H Q => t σ H fun c H1 => if c = true then ta σ H1 Q else tb σ H1 Q
theorem pe_ifExp {c : Expr} (hc : PT X c tA) (ha : PE X a ta) (hb : PE X b tb) : PE X (.IfExp c a b pos) (tIf tA ta tb) := by
  intro pins s σ H Q I h
  refine wpAny_IfExp (thn (hc pins s σ H _ I h) fun d s1 ⟨H1, I1, q1⟩ => ?_)
  cases d with
  | true => exact ha pins s1 σ H1 Q I1 q1
  | false => exact hb pins s1 σ H1 Q I1 q1
end
end L2
namespace L2
open PySem PySem.Spec PyProof.Rows
def SqL (K : PySem.W.Frag) (H : Hp) (a : Addr) (xs : List V) : Prop :=
  Rd H a (.lst xs) ∨
    ∃ (o : Obj) (its : Array Value) (n : Nat), K.lookup a = some o ∧ o.cls = .type "list" ∧ o.dict = none ∧ o.data = .seq its n ∧ its.size ≤ sizeLine ∧ Vals xs its.toList
def SqT (K : PySem.W.Frag) (H : Hp) (a : Addr) (xs : List V) : Prop :=
  Rd H a (.tup xs) ∨
    ∃ (o : Obj) (its : Array Value) (n : Nat), K.lookup a = some o ∧ o.cls = .type "tuple" ∧ o.data = .seq its n ∧ its.size ≤ sizeLine ∧ Vals xs its.toList
def absV : Value → Option V
  | .none => some .non
  | .bool b => some (.bl b)
  | .int i _ => some (.int i)
  | .str x _ => some (.str x)
  | .bytes b _ => some (.byt b)
  | .float b _ => some (.flt b)
  | .ref a => some (.ref a)
  | .type n => some (.ty n)
  | _ => none
theorem RelV.abs {x : V} {u : Value} (r : RelV x u) : absV u = some x := by
  cases x with
  | non => cases r; rfl
  | bl _ => cases r; rfl
  | int _ => obtain ⟨t, rfl⟩ := r; rfl
  | str _ => obtain ⟨t, rfl⟩ := r; rfl
  | byt _ => obtain ⟨t, rfl⟩ := r; rfl
  | flt _ => obtain ⟨t, rfl⟩ := r; rfl
  | ref _ => cases r; rfl
  | ty _ => cases r; rfl
theorem RelV.inj {x y : V} {u : Value} (r : RelV x u) (q : RelV y u) : x = y := Option.some.inj (r.abs.symm.trans q.abs)
theorem Vals.inj : ∀ {xs ys : List V} {us : List Value}, Vals xs us → Vals ys us → xs = ys
  | _, _, _, .nil, .nil => rfl
  | _, _, _, .cons r t, .cons r' t' => by rw [r.inj r', Vals.inj t t']
section
variable {X : Cx} {pins : List (Addr × Obj)} {σ : St} {H : Hp} {s : Shared} {a : Addr} {xs ys : List V}
theorem SqL.of {K : PySem.W.Frag} (h : H a = some (.lst xs)) : SqL K H a xs := .inl (.inl h)
theorem SqT.of {K : PySem.W.Frag} (h : H a = some (.tup xs)) : SqT K H a xs := .inl (.inl h)
theorem Inv.list (I : Inv X pins σ H s) (h : SqL X.K H a xs) : ∃ its : List Value, Vals xs its ∧ PlainL s.heap a its.toArray ∧ xs.length ≤ sizeLine := by
  rcases h with h | ⟨o, its, n, hk, hc, hd, hs, hz, r⟩
  · obtain ⟨z, its, n, r, e⟩ := h.ok I.hok
    exact ⟨its, r, ⟨_, n, e, rfl, rfl, rfl⟩, z⟩
  · refine ⟨its.toList, r, ⟨o, n, I.kIn a o hk, hc, hd, by simpa using hs⟩, ?_⟩
    have e := r.length
    simp only [Array.length_toList] at e
    omega
theorem Inv.tuple (I : Inv X pins σ H s) (h : SqT X.K H a xs) : ∃ its : List Value, Vals xs its ∧ IsTup s.heap a its.toArray ∧ xs.length ≤ sizeLine := by
  rcases h with h | ⟨o, its, n, hk, hc, hs, hz, r⟩
  · obtain ⟨z, its, r, p⟩ := h.ok I.hok
    exact ⟨its, r, p, z⟩
  · refine ⟨its.toList, r, ⟨o, I.kIn a o hk, hc, n, by simpa using hs⟩, ?_⟩
    have e := r.length
    simp only [Array.length_toList] at e
    omega
theorem Inv.list_inj (I : Inv X pins σ H s) (h : SqL X.K H a xs) (h' : SqL X.K H a ys) : xs = ys := by
  obtain ⟨its, r, ⟨o, n, e, _, _, d⟩, _⟩ := I.list h
  obtain ⟨its', r', ⟨o', n', e', _, _, d'⟩, _⟩ := I.list h'
  rw [e] at e'; cases e'
  rw [d] at d'
  injection d' with d1 _
  have : its = its' := by simpa using congrArg Array.toList d1
  subst this
  exact r.inj r'
theorem Inv.tuple_inj (I : Inv X pins σ H s) (h : SqT X.K H a xs) (h' : SqT X.K H a ys) : xs = ys := by
  obtain ⟨its, r, ⟨o, e, _, n, d⟩, _⟩ := I.tuple h
  obtain ⟨its', r', ⟨o', e', _, n', d'⟩, _⟩ := I.tuple h'
  rw [e] at e'; cases e'
  rw [d] at d'
  injection d' with d1 _
  have : its = its' := by simpa using congrArg Array.toList d1
  subst this
  exact r.inj r'
end
abbrev Cx.wish (X : Cx) (E : Value → Shared → Prop) : Cx := { X with xe := E }
/-- no exception leaves -/
abbrev Cx.nox (X : Cx) : Cx := X.wish fun _ _ => False
theorem Cx.Ok.wish {X : Cx} (ok : X.Ok) (E : Value → Shared → Prop) : (X.wish E).Ok :=
  ⟨ok.mod, ok.kind, ok.glob, ok.blt, ok.above, ok.inj, ok.has, ok.cab, ok.hd, ok.frames, ok.stk, ok.exf, ok.bs, ok.bsz, ok.noex, ok.exfs, ok.funs, ok.frf⟩
theorem Cx.Ok.unwish {X : Cx} {E : Value → Shared → Prop} (ok : (X.wish E).Ok) : X.Ok :=
  ⟨ok.mod, ok.kind, ok.glob, ok.blt, ok.above, ok.inj, ok.has, ok.cab, ok.hd, ok.frames, ok.stk, ok.exf, ok.bs, ok.bsz, ok.noex, ok.exfs, ok.funs, ok.frf⟩
section
variable {X : Cx} {pins : List (Addr × Obj)} {σ : St} {H : Hp} {s : Shared} {E : Value → Shared → Prop}
theorem Inv.wish (I : Inv X pins σ H s) (E : Value → Shared → Prop) : Inv (X.wish E) pins σ H s := ⟨I.ok.wish E, I.os, I.bare, I.base, I.loc, I.cell, I.free, I.freeC, I.pin, I.hok, I.len⟩
theorem Inv.unwish (I : Inv (X.wish E) pins σ H s) : Inv X pins σ H s := ⟨I.ok.unwish, I.os, I.bare, I.base, I.loc, I.cell, I.free, I.freeC, I.pin, I.hok, I.len⟩
theorem SP.unwish {D : Ends} {f : Flow} {s' : Shared} (h : SP (X.wish E) pins D f s') : SP X pins D f s' := by
  cases f with
  | next => obtain ⟨σ', H', I, q⟩ := h; exact ⟨σ', H', I.unwish, q⟩
  | brk => obtain ⟨σ', H', I, q⟩ := h; exact ⟨σ', H', I.unwish, q⟩
  | cont => obtain ⟨σ', H', I, q⟩ := h; exact ⟨σ', H', I.unwish, q⟩
  | ret u => obtain ⟨v, σ', H', I, r, q⟩ := h; exact ⟨v, σ', H', I.unwish, r, q⟩
theorem PE.nox {e : Expr} {t : TE} (h : PE X.nox e t) : PE X e t := fun pins s σ H Q I hw =>
  wpAny_mono (h pins s σ H Q (I.wish _) hw) (fun _ _ ⟨v, H', I', r, q⟩ => ⟨v, H', I'.unwish, r, q⟩) fun _ _ z => False.elim z
theorem PT.nox {e : Expr} {t : TT} (h : PT X.nox e t) : PT X e t := fun pins s σ H Q I hw =>
  wpAny_mono (h pins s σ H Q (I.wish _) hw) (fun _ _ ⟨H', I', q⟩ => ⟨H', I'.unwish, q⟩) fun _ _ z => False.elim z
theorem PSs.nox {st : List Stmt} {t : TS} (h : PSs X.nox st t) : PSs X st t := fun pins s σ H D I hw =>
  wpAny_mono (h pins s σ H D (I.wish _) hw) (fun _ _ q => q.unwish) fun _ _ z => False.elim z
end
section
variable {X : Cx} {st : Stmt} {rest : List Stmt} {t u : TS} {e : Expr} {te : TE} {pos : Pos}
def tNext : TS := fun D σ H => D.nx σ H
def tSeq (t u : TS) : TS := fun D σ H => t { D with nx := u D } σ H
theorem pss_nil : PSs X [] tNext := fun _ _ σ H _ I h => wpAny_execs_nil ⟨σ, H, I, h⟩
theorem pss_cons (h1 : PS X st t) (h2 : PSs X rest u) : PSs X (st :: rest) (tSeq t u) := by
  intro pins s σ H D I h
  refine wpAny_execs_cons (thn (h1 pins s σ H { D with nx := u D } I h) fun f s1 q => ?_)
  cases f with
  | next =>
    obtain ⟨σ', H', I', q⟩ := q
    exact h2 pins s1 σ' H' D I' q
  | ret v => exact q
  | brk => exact q
  | cont => exact q
theorem pss_one (h1 : PS X st t) : PSs X [st] t := by
  intro pins s σ H D I h
  refine wpAny_execs_cons (thn (h1 pins s σ H D I h) fun f s1 q => ?_)
  cases f with
  | next => exact wpAny_execs_nil q
  | ret v => exact q
  | brk => exact q
  | cont => exact q
/-- in a def's body nothing is shown -/
theorem Inv.quiet {pins : List (Addr × Obj)} {σ : St} {H : Hp} {s : Shared} (I : Inv X pins σ H s) : interactive X.env = false := by simp [interactive, I.ok.kind]
/-- an expression whose value is dropped -/
def tDrop (te : TE) : TS := fun D σ H => te σ H fun _ H1 => D.nx σ H1
theorem ps_expr (he : PE X e te) (hs : swapsWith e none pos.line X.env = pure false := by rfl) : PS X (.Expr e pos) (tDrop te) := by
  intro pins s σ H D I h
  exact wpAny_Expr_any (thn (he pins s σ H _ I h) fun v s1 ⟨x, H1, I1, r1, q1⟩ => ⟨σ, H1, I1, q1⟩) I.quiet hs
def tRet (te : TE) : TS := fun D σ H => te σ H D.rt
theorem ps_ret (he : PE X e te) : PS X (.Return (some e) pos) (tRet te) := by
  intro pins s σ H D I h
  exact wpAny_Return_some (thn (he pins s σ H _ I h) fun v s1 ⟨x, H1, I1, r1, q1⟩ => ⟨x, σ, H1, I1, r1, q1⟩)
def tRetN : TS := fun D _ H => D.rt .non H
def tIfS (c : TT) (t u : TS) : TS := fun D σ H => c σ H fun b H1 => if b = true then t D σ H1 else u D σ H1
theorem ps_if {c : Expr} {a b : List Stmt} {tc : TT} (hc : PT X c tc) (ha : PSs X a t) (hb : PSs X b u) : PS X (.If c a b pos) (tIfS tc t u) := by
  intro pins s σ H D I h
  refine wpAny_If (thn (hc pins s σ H _ I h) fun d s1 ⟨H1, I1, q1⟩ => ?_)
  cases d with
  | true => exact ha pins s1 σ H1 D I1 q1
  | false => exact hb pins s1 σ H1 D I1 q1
end
abbrev TG := V → St → Hp → (St → Hp → Prop) → Prop
abbrev TGs := List V → St → Hp → (St → Hp → Prop) → Prop
def PG (X : Cx) (target : Expr) (t : TG) : Prop :=
  ∀ (pins : List (Addr × Obj)) (s : Shared) (σ : St) (H : Hp) (v : V) (u : Value) (Q : St → Hp → Prop), Inv X pins σ H s → RelV v u → t v σ H Q →
    wpAny (model X.prog X.w) X.A (assign target X.env u) (fun _ s' => ∃ σ' H', Inv X pins σ' H' s' ∧ Q σ' H') X.xe s
/-- several targets, one after another -/
def PGs (X : Cx) (ts : List Expr) (t : TGs) : Prop :=
  ∀ (pins : List (Addr × Obj)) (s : Shared) (σ : St) (H : Hp) (vs : List V) (us : List Value) (Q : St → Hp → Prop), Inv X pins σ H s → Vals vs us → t vs σ H Q →
    wpAny (model X.prog X.w) X.A (assignInOrder ((assignEach ts X.env).map (·.2)) us) (fun _ s' => ∃ σ' H', Inv X pins σ' H' s' ∧ Q σ' H') X.xe s
/-- a op= b, by values -/
abbrev TIp := V → V → Hp → VK → Prop
section
variable {X : Cx} {pos : Pos}
def gName (i : Nat) : TG := fun v σ H Q => Q (σ.set i (some v)) H
theorem pg_name {i : Nat} {x : Str} (hN : X.N.Nodup) (hi : X.N[i]? = some x) (hx : Loc X.env.scope x) (hf : X.fn x = true ∨ X.env.scope.names.lookup x = some .local := by first | exact .inl rfl | exact .inr rfl | assumption) : PG X (.Name x pos) (gName i) := by
  intro pins s σ H v u Q I r h
  exact wpAny_assign_Name (store_ok I hN hi hx r (fun s' I' => ⟨_, H, I', h⟩) hf)
def gNil : TGs := fun vs σ H Q => vs = [] ∧ Q σ H
def gCons (t : TG) (u : TGs) : TGs := fun vs σ H Q => ∃ v r, vs = v :: r ∧ t v σ H fun σ' H' => u r σ' H' Q
theorem pgs_nil : PGs X [] gNil := by
  intro pins s σ H vs us Q I r h
  obtain ⟨e, h⟩ := h
  subst e
  cases r
  exact assignInOrder_nil ⟨σ, H, I, h⟩
theorem pgs_cons {e : Expr} {es : List Expr} {t : TG} {u : TGs} (h1 : PG X e t) (h2 : PGs X es u)
    (hs : (assignEach (e :: es) X.env).map (·.2) = assign e X.env :: (assignEach es X.env).map (·.2) := by rfl) : PGs X (e :: es) (gCons t u) := by
  intro pins s σ H vs us Q I r h
  obtain ⟨v, vr, e1, h⟩ := h
  subst e1
  cases r with
  | cons r rr =>
    rw [hs]
    refine assignInOrder_cons (thn (h1 pins s σ H _ _ _ I r h) fun _ s1 ⟨σ1, H1, I1, q1⟩ => ?_)
    exact h2 pins s1 σ1 H1 _ _ Q I1 rr q1
/-- (a, b, ..) = a tuple of that length -/
def gTup (K : PySem.W.Frag) (n : Nat) (t : TGs) : TG := fun v σ H Q => ∃ a xs, v = .ref a ∧ SqT K H a xs ∧ xs.length = n ∧ t xs σ H Q
theorem pg_tup {es : List Expr} {k : Nat} {t : TGs} {n : Nat} (hc : X.calm = true) (h : PGs X es t)
    (hn : (assignEach es X.env).length = n := by rfl) (hst : (assignEach es X.env).findIdx? (·.1) = none := by rfl) : PG X (.Tuple es k pos) (gTup X.K n t) := by
  intro pins s σ H v u Q I r hw
  obtain ⟨a, xs, e1, hq, hl, hw⟩ := hw
  subst e1
  cases r
  obtain ⟨its, rv, ht, hz⟩ := I.tuple hq
  refine assign_Tuple_tuple (I.ok.hd hc) ht (by simp [hn, ← hl, rv.length]) hst fun h' hx => ?_
  have I1 : Inv X pins σ H { s with heap := h' } := I.kept (t' := s.toks) fun b o e => hx b o (Nat.ne_of_lt (Heap.lt_size e)) e
  exact h pins _ σ H xs _ Q I1 (by simpa using rv) hw
/-- target = value -/
def tAsg (te : TE) (g : TG) : TS := fun D σ H => te σ H fun x H1 => g x σ H1 D.nx
/-- name = value -/
theorem ps_set {i : Nat} {x : Str} {e : Expr} {te : TE} {pos' : Pos} (hN : X.N.Nodup) (hi : X.N[i]? = some x) (hx : Loc X.env.scope x) (he : PE X e te) (hs : swapsWith e (some (.Name x pos')) pos.line X.env = pure false := by rfl) (hf : X.fn x = true ∨ X.env.scope.names.lookup x = some .local := by first | exact .inl rfl | exact .inr rfl | assumption) :
    PS X (.Assign [.Name x pos'] e pos) (tAsg te (gName i)) := by
  intro pins s σ H D I h
  refine wpAny_Assign_Name (thn (he pins s σ H _ I h) fun v s1 ⟨y, H1, I1, r1, q1⟩ => ?_) hs
  exact store_ok I1 hN hi hx r1 (fun s2 I2 => ⟨_, H1, I2, q1⟩) hf
/-- name op= e -/
def tAug (i : Nat) (te : TE) (ti : TIp) : TS := fun D σ H => ∃ x, σ[i]? = some (some x) ∧ te σ H fun y H1 => ti x y H1 fun z H2 => D.nx (σ.set i (some z)) H2
/-- ints -/
def ipI (f : Int → Int → Int) : TIp := fun x y H Q => ∃ i j, x = .int i ∧ y = .int j ∧ Q (.int (f i j)) H
end
section
variable {X : Cx} {pos : Pos}
/-- the invariant W with its measure -/
def tWhile (c : TT) (tb : TS) : TS := fun D σ H => ∃ W : Nat → St → Hp → Prop, (∃ m, W m σ H) ∧ ∀ m σ H, W m σ H →
  c σ H fun b H1 => if b = true then ∃ N : St → Hp → Prop, (∀ σ' H', N σ' H' → ∃ m', m' < m ∧ W m' σ' H') ∧ tb { D with nx := N, ct := N, bk := D.nx } σ H1 else D.nx σ H1
theorem ps_while {c : Expr} {body : List Stmt} {tc : TT} {tb : TS} (hp : PassesOwn (model X.prog X.w) X.A X.env X.xe) (hc : PT X c tc) (hb : PSs X body tb) : PS X (.While c body [] pos) (tWhile tc tb) := by
  intro pins s σ H D I h
  obtain ⟨W, ⟨m0, w0⟩, turn⟩ := h
  refine wpAny_While (codeAny_whileLoop (fun n s' => ∃ σ' H', Inv X pins σ' H' s' ∧ W n σ' H') ?_ m0 ⟨σ, H, I, w0⟩)
  rintro n s1 ⟨σ1, H1, I1, w1⟩
  refine wpAny_passesOwn hp (thn (hc pins s1 σ1 H1 _ I1 (turn n σ1 H1 w1)) fun b s2 ⟨H2, I2, q2⟩ => ?_)
  cases b with
  | true =>
    obtain ⟨N, hN, q2⟩ := q2
    rw [if_pos rfl]
    refine wpAny_passesOwn hp (thn (hb pins s2 σ1 H2 _ I2 q2) fun f s3 q3 => ?_)
    cases f with
    | next =>
      obtain ⟨σ3, H3, I3, n3⟩ := q3
      obtain ⟨m', hm, w3⟩ := hN σ3 H3 n3
      exact ⟨m', hm, σ3, H3, I3, w3⟩
    | cont =>
      obtain ⟨σ3, H3, I3, n3⟩ := q3
      obtain ⟨m', hm, w3⟩ := hN σ3 H3 n3
      exact ⟨m', hm, σ3, H3, I3, w3⟩
    | brk => exact q3
    | ret v => exact q3
  | false =>
    rw [if_neg Bool.false_ne_true]
    exact wpAny_execs_nil ⟨σ1, H2, I2, q2⟩
end
/-- at turn i: it yields x (the heap may grow), or it stops -/
structure It where
  go : Nat → Hp → Prop
  yld : Nat → Hp → V → Hp → Prop
  stop : Nat → Hp → Prop
/-- the iterator's own objects may turn: they are not the frame's, not pinned, younger than the entry (or a comprehension's own) -/
def FpOk (X : Cx) (pins : List (Addr × Obj)) (H : Hp) (b : Addr) : Prop :=
  H b = none ∧ b ≠ X.env.locals ∧ b ∉ X.fs ∧ (b ∈ X.ex ∨ X.s_0.heap.objs.size ≤ b) ∧ (∀ x c, X.env.cells.lookup x = some c → c ≠ b) ∧ ∀ p ∈ X.pn ++ pins, p.1 ≠ b
theorem Inv.fpOk {X : Cx} {pins : List (Addr × Obj)} {σ : St} {H H' : Hp} {s : Shared} {b : Addr} (I : Inv X pins σ H s) (hb : s.heap.objs.size ≤ b) (hn : H' b = none) : FpOk X pins H' b := by
  refine ⟨hn, Nat.ne_of_gt (Nat.lt_of_lt_of_le I.lt hb), I.nofs hb, .inr (Nat.le_trans I.sz hb), fun x c e z => ?_, fun p hp z => ?_⟩
  · obtain ⟨v, q⟩ := I.cell x c e
    exact absurd (Nat.lt_of_lt_of_le q.lt (by rw [z]; exact hb)) (Nat.lt_irrefl _)
  · exact absurd (Nat.lt_of_lt_of_le (Heap.lt_size (I.pin p hp).1) (by rw [z]; exact hb)) (Nat.lt_irrefl _)
structure Turn (P : Program) (w : World) (K : PySem.W.Frag) (tg : Expr) (J : It) (fp : List Addr) (it : Addr) (tn : Nat → Heap → Prop) : Prop where
  mem : it ∈ fp
  obj : ∀ i h, tn i h → ∀ b ∈ fp, ∃ o, h.get? b = some o ∧ ∀ v, o.data ≠ .cell v
  keep : ∀ i h h', tn i h → (∀ b ∈ fp, ∀ o, h.get? b = some o → h'.get? b = some o) → tn i h'
  item : ∀ (X : Cx), X.prog = P → X.w = w → X.K = K → X.calm = true → ∀ (i : Nat) (pins : List (Addr × Obj)) (s : Shared) (σ : St) (H : Hp) (E : Value → Shared → Prop), Inv X pins σ H s → (∀ b ∈ fp, FpOk X pins H b) → tn i s.heap → J.go i H →
    wpAny (model P w) X.A (pyNext (.ref it)) (fun r s1 => ∃ u, r = some u ∧
      wpAny (model P w) X.A (letOwnedTupleGo tg (.ref it) u) (fun _ s2 => ∃ x H', Inv X pins σ H' s2 ∧ RelV x u ∧ J.yld i H x H' ∧ tn (i + 1) s2.heap ∧ ∀ b ∈ fp, H' b = none) E s1) E s
  done : ∀ (X : Cx), X.prog = P → X.w = w → X.K = K → X.calm = true → ∀ (i : Nat) (pins : List (Addr × Obj)) (s : Shared) (σ : St) (H : Hp) (E : Value → Shared → Prop), Inv X pins σ H s → (∀ b ∈ fp, FpOk X pins H b) → tn i s.heap → J.stop i H →
    wpAny (model P w) X.A (pyNext (.ref it)) (fun r s1 => r = none ∧ Inv X pins σ H s1) E s
  self : ∀ (A : Around) (i : Nat) (s : Shared) (Q : Value → Shared → Prop) (E : Value → Shared → Prop), tn i s.heap → Q (.ref it) s → wpAny (model P w) A (pyIter (.ref it)) Q E s
abbrev TI := St → Hp → (It → Hp → Prop) → Prop
/-- an iterator has come -/
def PIE (X : Cx) (pins : List (Addr × Obj)) (σ : St) (tg : Expr) (R : It → Hp → Prop) (itv : Value) (s2 : Shared) : Prop :=
  ∃ (it : Addr) (fp : List Addr) (tn : Nat → Heap → Prop) (J : It) (H' : Hp), itv = .ref it ∧ Inv X pins σ H' s2 ∧ Turn X.prog X.w X.K tg J fp it tn ∧ tn 0 s2.heap ∧ (∀ b ∈ fp, FpOk X pins H' b) ∧ R J H'
def PI (X : Cx) (tg iter : Expr) (wi : TI) : Prop :=
  ∀ (pins : List (Addr × Obj)) (s : Shared) (σ : St) (H : Hp) (R : It → Hp → Prop), Inv X pins σ H s → wi σ H R →
    wpAny (model X.prog X.w) X.A (eval iter X.env) (fun v s1 => wpAny (model X.prog X.w) X.A (pyIter v) (PIE X pins σ tg R) X.xe s1) X.xe s
/-- the step ahead of the store is nothing for an iterator that keeps no tuple -/
theorem go_of {M : Model} {A : Around} {E : Value → Shared → Prop} {s : Shared} {tg : Expr} {it : Addr} {u : Value} {o : Obj} {n : String} {vs : Array Value} {Q : Unit → Shared → Prop} (ho : s.heap.get? it = some o) (hc : o.cls = .type n) (hd : o.data = .fields vs)
    (hn : ["enumerate", "zip", "dict_itemiterator", "dict_reverseitemiterator", "odict_iterator", "itertools.zip_longest", "itertools.pairwise"].contains n = false) (hQ : Q () s) : wpAny M A (letOwnedTupleGo tg (.ref it) u) Q E s := by
  unfold letOwnedTupleGo
  cases tg <;> first
    | exact wpAny_pure hQ
    | (cases u <;> first
        | exact wpAny_pure hQ
        | (refine wpAny_bind (wpAny_load ho ?_)
           rw [hc, hd]
           show wpAny M A (if (["enumerate", "zip", "dict_itemiterator", "dict_reverseitemiterator", "odict_iterator", "itertools.zip_longest", "itertools.pairwise"].contains n && vs[0]? == some (rawInt _)) = true then _ else _) Q E s
           rw [if_neg (by intro h; rw [hn, Bool.false_and] at h; cases h)]
           exact wpAny_pure hQ))
/-- the list at a, as it stands at each turn (a loop may append to it) -/
def Itl (K : PySem.W.Frag) (a : Addr) : It :=
  ⟨fun i H => ∃ xs x, SqL K H a xs ∧ xs[i]? = some x, fun i H x H' => H' = H ∧ ∀ xs, SqL K H a xs → xs[i]? = some x, fun i H => ∃ xs, SqL K H a xs ∧ xs.length ≤ i⟩
def Itt (K : PySem.W.Frag) (a : Addr) : It :=
  ⟨fun i H => ∃ xs x, SqT K H a xs ∧ xs[i]? = some x, fun i H x H' => H' = H ∧ ∀ xs, SqT K H a xs → xs[i]? = some x, fun i H => ∃ xs, SqT K H a xs ∧ xs.length ≤ i⟩
theorem turn_list {P : Program} {w : World} {K : PySem.W.Frag} {tg : Expr} (a it : Addr) : Turn P w K tg (Itl K a) [it] it (fun i h => h.IsListIter it a i) where
  mem := by simp
  obj := fun i h st b hb => by
    have e : b = it := by simpa using hb
    subst e
    obtain ⟨o, e, c, d⟩ := st
    exact ⟨o, e, fun v z => by rw [d] at z; cases z⟩
  keep := fun i h h' st k => st.at fun o e => k it (by simp) o e
  item := by
    intro X hP hw hK hc i pins s σ H E I hf st hg
    subst hP hw hK
    obtain ⟨xs, x, hq, hx⟩ := hg
    obtain ⟨its, rv, p, hz⟩ := I.list hq
    obtain ⟨u, hu, ru⟩ := rv.get hx
    obtain ⟨f0, f1, f2, f3, f4, f5⟩ := hf it (by simp)
    refine wpAny_pyNext_list_item st p.isList (x := u) (by simpa using hu) fun h' st' sb => ?_
    have I1 : Inv X pins σ H { s with heap := h' } := I.turned (t' := s.toks) (fun b o hb e => (sb.2 b hb).trans e) f0 f1 f3 f4 f5
    obtain ⟨o, e, c, d⟩ := id st'
    exact ⟨u, rfl, go_of (s := { s with heap := h' }) e c d (by decide) ⟨x, H, I1, ru, ⟨rfl, fun ys hy => by rw [I.list_inj hy hq]; exact hx⟩, st', fun b hb => (hf b hb).1⟩⟩
  done := by
    intro X hP hw hK hc i pins s σ H E I hf st hg
    subst hP hw hK
    obtain ⟨xs, hq, hx⟩ := hg
    obtain ⟨its, rv, p, hz⟩ := I.list hq
    obtain ⟨f0, f1, f2, f3, f4, f5⟩ := hf it (by simp)
    have hl := rv.length
    exact wpAny_pyNext_list_end (I.ok.hd hc) st p.isList (by simp; omega) fun h' eb => ⟨rfl, I.turned (t' := s.toks) (fun b o hb e => eb b o hb e) f0 f1 f3 f4 f5⟩
  self := fun _ _ _ _ _ st h => wpAny_pyIter_listiter st h
theorem turn_tuple {P : Program} {w : World} {K : PySem.W.Frag} {tg : Expr} (a it : Addr) : Turn P w K tg (Itt K a) [it] it (fun i h => h.IsTupleIter it a i) where
  mem := by simp
  obj := fun i h st b hb => by
    have e : b = it := by simpa using hb
    subst e
    obtain ⟨o, e, c, d⟩ := st
    exact ⟨o, e, fun v z => by rw [d] at z; cases z⟩
  keep := fun i h h' st k => st.at fun o e => k it (by simp) o e
  item := by
    intro X hP hw hK hc i pins s σ H E I hf st hg
    subst hP hw hK
    obtain ⟨xs, x, hq, hx⟩ := hg
    obtain ⟨its, rv, p, hz⟩ := I.tuple hq
    obtain ⟨u, hu, ru⟩ := rv.get hx
    obtain ⟨f0, f1, f2, f3, f4, f5⟩ := hf it (by simp)
    refine wpAny_pyNext_tuple_item st (show s.heap.IsTuple a its.toArray from p) (x := u) (by simpa using hu) fun h' st' sb => ?_
    have I1 : Inv X pins σ H { s with heap := h' } := I.turned (t' := s.toks) (fun b o hb e => (sb.2 b hb).trans e) f0 f1 f3 f4 f5
    obtain ⟨o, e, c, d⟩ := id st'
    exact ⟨u, rfl, go_of (s := { s with heap := h' }) e c d (by decide) ⟨x, H, I1, ru, ⟨rfl, fun ys hy => by rw [I.tuple_inj hy hq]; exact hx⟩, st', fun b hb => (hf b hb).1⟩⟩
  done := by
    intro X hP hw hK hc i pins s σ H E I hf st hg
    subst hP hw hK
    obtain ⟨xs, hq, hx⟩ := hg
    obtain ⟨its, rv, p, hz⟩ := I.tuple hq
    obtain ⟨f0, f1, f2, f3, f4, f5⟩ := hf it (by simp)
    have hl := rv.length
    exact wpAny_pyNext_tuple_end (I.ok.hd hc) st (show s.heap.IsTuple a its.toArray from p) (by simp; omega) fun h' eb => ⟨rfl, I.turned (t' := s.toks) (fun b o hb e => eb b o hb e) f0 f1 f3 f4 f5⟩
  self := fun _ _ _ _ _ st h => wpAny_pyIter_tupleiter st h
end L2
namespace L2
open PySem PySem.Spec PyProof.Rows
section
variable {X : Cx} {tg : Expr}
def iList (K : PySem.W.Frag) (tl : TE) : TI := fun σ H R => tl σ H fun x H1 => ∃ a, x = .ref a ∧ (∃ xs, SqL K H1 a xs) ∧ R (Itl K a) H1
def iTup (K : PySem.W.Frag) (tl : TE) : TI := fun σ H R => tl σ H fun x H1 => ∃ a, x = .ref a ∧ (∃ xs, SqT K H1 a xs) ∧ R (Itt K a) H1
theorem pi_list {l : Expr} {tl : TE} (hl : PE X l tl) : PI X tg l (iList X.K tl) := by
  intro pins s σ H R I h
  refine thn (hl pins s σ H _ I h) fun v s1 ⟨x, H1, I1, r1, q1⟩ => ?_
  obtain ⟨a, e, ⟨xs, hq⟩, q⟩ := q1
  subst e
  cases r1
  obtain ⟨its, rv, p, hz⟩ := I1.list hq
  refine wpAny_pyIter_list p.isList ?_
  refine ⟨s1.heap.objs.size, [s1.heap.objs.size], _, _, H1, rfl, I1.kept (t' := s1.toks) fun b o e => Heap.get?_push_of_some _ e, turn_list a _, ⟨_, Heap.get?_push_size _ rfl, rfl, rfl⟩, fun b hb => ?_, q⟩
  have e : b = s1.heap.objs.size := by simpa using hb
  subst e
  exact I1.fpOk (Nat.le_refl _) (I1.hok.fresh (Nat.le_refl _))
theorem pi_tup {l : Expr} {tl : TE} (hl : PE X l tl) : PI X tg l (iTup X.K tl) := by
  intro pins s σ H R I h
  refine thn (hl pins s σ H _ I h) fun v s1 ⟨x, H1, I1, r1, q1⟩ => ?_
  obtain ⟨a, e, ⟨xs, hq⟩, q⟩ := q1
  subst e
  cases r1
  obtain ⟨its, rv, p, hz⟩ := I1.tuple hq
  refine wpAny_pyIter_tuple (show s1.heap.IsTuple a its.toArray from p) ?_
  refine ⟨s1.heap.objs.size, [s1.heap.objs.size], _, _, H1, rfl, I1.kept (t' := s1.toks) fun b o e => Heap.get?_push_of_some _ e, turn_tuple a _, ⟨_, Heap.get?_push_size _ rfl, rfl, rfl⟩, fun b hb => ?_, q⟩
  have e : b = s1.heap.objs.size := by simpa using hb
  subst e
  exact I1.fpOk (Nat.le_refl _) (I1.hok.fresh (Nat.le_refl _))
/-- W: the invariant by the turn and a measure; N: what the body is to reach -/
def tFor (wi : TI) (g : TG) (tb : TS) : TS := fun D σ H => wi σ H fun J H1 => ∃ W : Nat → Nat → St → Hp → Prop, (∃ m, W 0 m σ H1) ∧ ∀ i m σ H, W i m σ H →
  (J.stop i H ∧ D.nx σ H) ∨ (J.go i H ∧ ∃ N : St → Hp → Prop, (∀ σ' H', N σ' H' → ∃ m', m' < m ∧ W (i + 1) m' σ' H') ∧ ∀ x H', J.yld i H x H' → g x σ H' fun σ2 H2 => tb { D with nx := N, ct := N, bk := D.nx } σ2 H2)
/-- the records at fp as they stand -/
def pinsAt (fp : List Addr) (h : Heap) : List (Addr × Obj) := fp.filterMap fun b => (h.get? b).map fun o => (b, o)
theorem mem_pinsAt {fp : List Addr} {h : Heap} {b : Addr} {o : Obj} (hb : b ∈ fp) (e : h.get? b = some o) : (b, o) ∈ pinsAt fp h := List.mem_filterMap.mpr ⟨b, hb, by rw [e]; rfl⟩
theorem of_pinsAt {fp : List Addr} {h : Heap} {p : Addr × Obj} (hp : p ∈ pinsAt fp h) : p.1 ∈ fp ∧ h.get? p.1 = some p.2 := by
  obtain ⟨b, hb, e⟩ := List.mem_filterMap.mp hp
  cases q : h.get? b with
  | none => rw [q] at e; cases e
  | some o =>
    rw [q] at e
    have e' : (b, o) = p := Option.some.inj e
    subst e'
    exact ⟨hb, q⟩
theorem Inv.pinned {pins : List (Addr × Obj)} {σ : St} {H : Hp} {s : Shared} {fp : List Addr} (I : Inv X pins σ H s) (hf : ∀ b ∈ fp, FpOk X pins H b) (ho : ∀ b ∈ fp, ∃ o, s.heap.get? b = some o ∧ ∀ v, o.data ≠ .cell v) : Inv X (pins ++ pinsAt fp s.heap) σ H s :=
  I.pins_of fun p hp => (List.mem_append.mp hp).elim (fun z => I.pin p (List.mem_append_right _ z)) fun z => by
    obtain ⟨hb, e⟩ := of_pinsAt z
    obtain ⟨f0, f1, f2, _⟩ := hf p.1 hb
    obtain ⟨o, e', d⟩ := ho p.1 hb
    rw [e] at e'; cases e'
    exact ⟨e, f0, f1, f2, d⟩
theorem Inv.unpinned {pins pl : List (Addr × Obj)} {σ : St} {H : Hp} {s : Shared} (I : Inv X (pins ++ pl) σ H s) : Inv X pins σ H s := I.pins_of fun p hp => I.pin p (List.mem_append_right _ (List.mem_append_left _ hp))
theorem ps_for {iter : Expr} {body : List Stmt} {wi : TI} {g : TG} {tb : TS} {pos : Pos} (hp : PassesOwn (model X.prog X.w) X.A X.env X.xe) (hc : X.calm = true) (hi : PI X tg iter wi) (hg : PG X tg g) (hb : PSs X body tb)
    (hs : ∀ x, foldedSetIterable iter X.env x = pure x := by intro _; rfl) : PS X (.For tg iter body [] pos) (tFor wi g tb) := by
  intro pins s σ H D I h
  refine wpAny_For (thn (hi pins s σ H _ I h) fun v s1 h1 => thn h1 fun itv s2 h2 => ?_) hs
  obtain ⟨it, fp, tn, J, H2, e, I2, T, st2, f2, W, ⟨m0, w0⟩, turn⟩ := h2
  subst e
  -- what stays true of the iterator's objects through the loop
  have stat : ∀ {H' : Hp}, (∀ b ∈ fp, H' b = none) → ∀ b ∈ fp, FpOk X pins H' b := fun hn b hb => ⟨hn b hb, (f2 b hb).2⟩
  refine codeAny_forLoop_any (fun n s' => ∃ i σ' H', Inv X pins σ' H' s' ∧ tn i s'.heap ∧ (∀ b ∈ fp, H' b = none) ∧ W i n σ' H') ?_ m0 ⟨0, σ, H2, I2, st2, fun b hb => (f2 b hb).1, w0⟩
  rintro n s3 ⟨i, σ3, H3, I3, st3, fr3, w3⟩
  rcases turn i n σ3 H3 w3 with ⟨stop, qn⟩ | ⟨go, N, hN, step⟩
  · refine wpAny_passesOwn hp (thn (T.done X rfl rfl rfl hc i pins s3 σ3 H3 X.xe I3 (stat fr3) st3 stop) fun r s4 ⟨hr, I4⟩ => ?_)
    subst hr
    exact wpAny_execs_nil ⟨σ3, H3, I4, qn⟩
  · refine wpAny_passesOwn hp (thn (T.item X rfl rfl rfl hc i pins s3 σ3 H3 X.xe I3 (stat fr3) st3 go) fun r s4 ⟨u, hr, h4⟩ => ?_)
    subst hr
    refine wpAny_passesOwn hp (thn h4 fun _ s5 ⟨x, H5, I5, r5, y5, st5, fr5⟩ => ?_)
    have I5' := I5.pinned (stat fr5) (T.obj _ _ st5)
    refine wpAny_passesOwn hp (thn (hg _ s5 σ3 H5 x u _ I5' r5 (step x H5 y5)) fun _ s6 ⟨σ6, H6, I6, q6⟩ => ?_)
    refine wpAny_passesOwn hp (thn (hb _ s6 σ6 H6 _ I6 q6) fun f s7 q7 => ?_)
    have again : ∀ {σ7 : St} {H7 : Hp}, Inv X (pins ++ pinsAt fp s5.heap) σ7 H7 s7 → N σ7 H7 → ∃ m, m < n ∧ ∃ i σ' H', Inv X pins σ' H' s7 ∧ tn i s7.heap ∧ (∀ b ∈ fp, H' b = none) ∧ W i m σ' H' := fun {σ7 H7} I7 n7 => by
      obtain ⟨m', hm, w7⟩ := hN σ7 H7 n7
      refine ⟨m', hm, i + 1, σ7, H7, I7.unpinned, T.keep _ _ _ st5 fun b hb o e => (I7.pin (b, o) (List.mem_append_right _ (List.mem_append_right _ (mem_pinsAt hb e)))).1, fun b hb => ?_, w7⟩
      obtain ⟨o, e, d⟩ := T.obj _ _ st5 b hb
      exact (I7.pin (b, o) (List.mem_append_right _ (List.mem_append_right _ (mem_pinsAt hb e)))).2.1
    cases f with
    | next => obtain ⟨σ7, H7, I7, n7⟩ := q7; exact again I7 n7
    | cont => obtain ⟨σ7, H7, I7, n7⟩ := q7; exact again I7 n7
    | brk => obtain ⟨σ7, H7, I7, q7⟩ := q7; exact ⟨σ7, H7, I7.unpinned, q7⟩
    | ret v => obtain ⟨x7, σ7, H7, I7, r7, q7⟩ := q7; exact ⟨x7, σ7, H7, I7.unpinned, r7, q7⟩
end
/-- over a list that the body leaves as it is -/
theorem for_list {K : PySem.W.Frag} {a : Addr} {xs : List V} {g : TG} {tb : TS} {D : Ends} {σ : St} {H : Hp} (Pv : Nat → St → Hp → Prop) (h0 : Pv 0 σ H) (hl : ∀ i σ H, i ≤ xs.length → Pv i σ H → SqL K H a xs)
    (hs : ∀ i x σ H, xs[i]? = some x → Pv i σ H → g x σ H fun σ2 H2 => tb { D with nx := Pv (i + 1), ct := Pv (i + 1), bk := D.nx } σ2 H2) (hd : ∀ σ H, Pv xs.length σ H → D.nx σ H) :
    ∃ W : Nat → Nat → St → Hp → Prop, (∃ m, W 0 m σ H) ∧ ∀ i m σ H, W i m σ H →
      ((Itl K a).stop i H ∧ D.nx σ H) ∨ ((Itl K a).go i H ∧ ∃ N : St → Hp → Prop, (∀ σ' H', N σ' H' → ∃ m', m' < m ∧ W (i + 1) m' σ' H') ∧ ∀ x H', (Itl K a).yld i H x H' → g x σ H' fun σ2 H2 => tb { D with nx := N, ct := N, bk := D.nx } σ2 H2) := by
  refine ⟨fun i m σ H => m = xs.length - i ∧ i ≤ xs.length ∧ Pv i σ H, ⟨xs.length, by simp, Nat.zero_le _, h0⟩, ?_⟩
  rintro i m σ H ⟨rfl, hi, p⟩
  have q := hl i σ H hi p
  by_cases hlt : i < xs.length
  · refine .inr ⟨⟨xs, xs[i], q, by simp [hlt]⟩, Pv (i + 1), fun σ' H' p' => ⟨xs.length - (i + 1), by omega, rfl, hlt, p'⟩, fun x H' y => ?_⟩
    obtain ⟨e, y⟩ := y
    subst e
    exact hs i x σ _ (y xs q) p
  · have e : i = xs.length := by omega
    subst e
    exact .inl ⟨⟨xs, q, Nat.le_refl _⟩, hd σ H p⟩
theorem for_tup {K : PySem.W.Frag} {a : Addr} {xs : List V} {g : TG} {tb : TS} {D : Ends} {σ : St} {H : Hp} (Pv : Nat → St → Hp → Prop) (h0 : Pv 0 σ H) (hl : ∀ i σ H, i ≤ xs.length → Pv i σ H → SqT K H a xs)
    (hs : ∀ i x σ H, xs[i]? = some x → Pv i σ H → g x σ H fun σ2 H2 => tb { D with nx := Pv (i + 1), ct := Pv (i + 1), bk := D.nx } σ2 H2) (hd : ∀ σ H, Pv xs.length σ H → D.nx σ H) :
    ∃ W : Nat → Nat → St → Hp → Prop, (∃ m, W 0 m σ H) ∧ ∀ i m σ H, W i m σ H →
      ((Itt K a).stop i H ∧ D.nx σ H) ∨ ((Itt K a).go i H ∧ ∃ N : St → Hp → Prop, (∀ σ' H', N σ' H' → ∃ m', m' < m ∧ W (i + 1) m' σ' H') ∧ ∀ x H', (Itt K a).yld i H x H' → g x σ H' fun σ2 H2 => tb { D with nx := N, ct := N, bk := D.nx } σ2 H2) := by
  refine ⟨fun i m σ H => m = xs.length - i ∧ i ≤ xs.length ∧ Pv i σ H, ⟨xs.length, by simp, Nat.zero_le _, h0⟩, ?_⟩
  rintro i m σ H ⟨rfl, hi, p⟩
  have q := hl i σ H hi p
  by_cases hlt : i < xs.length
  · refine .inr ⟨⟨xs, xs[i], q, by simp [hlt]⟩, Pv (i + 1), fun σ' H' p' => ⟨xs.length - (i + 1), by omega, rfl, hlt, p'⟩, fun x H' y => ?_⟩
    obtain ⟨e, y⟩ := y
    subst e
    exact hs i x σ _ (y xs q) p
  · have e : i = xs.length := by omega
    subst e
    exact .inl ⟨⟨xs, q, Nat.le_refl _⟩, hd σ H p⟩
end L2
namespace L2
open PySem PySem.Spec PyProof.Rows
abbrev R2 := V → V → Hp → VK → Prop
/-- a two-place operation on values: f is binaryOp op, inplaceOp op or compareOp op -/
def OpR (X : Cx) (f : Value → Value → Sem Value) (r : R2) : Prop :=
  ∀ (pins : List (Addr × Obj)) (s : Shared) (σ : St) (H : Hp) (x y : V) (v u : Value) (Q : VK), Inv X pins σ H s → RelV x v → RelV y u → r x y H Q →
    wpAny (model X.prog X.w) X.A (f v u) (EP X pins σ Q) X.xe s
/-- a call of a value that is known (a builtin, a type) with values -/
def CallR (X : Cx) (f : Value) (r : List V → Hp → VK → Prop) : Prop :=
  ∀ (pins : List (Addr × Obj)) (s : Shared) (σ : St) (H : Hp) (xs : List V) (us : List Value) (Q : VK), Inv X pins σ H s → Vals xs us → r xs H Q →
    wpAny (model X.prog X.w) X.A (call f us) (EP X pins σ Q) X.xe s
/-- a value's truth -/
def TruR (X : Cx) (r : V → Hp → (Bool → Hp → Prop) → Prop) : Prop :=
  ∀ (pins : List (Addr × Obj)) (s : Shared) (σ : St) (H : Hp) (x : V) (v : Value) (Q : Bool → Hp → Prop), Inv X pins σ H s → RelV x v → r x H Q →
    wpAny (model X.prog X.w) X.A (truthy v) (TP X pins σ Q) X.xe s
def tOp (r : R2) (ta tb : TE) : TE := fun σ H Q => ta σ H fun x H1 => tb σ H1 fun y H2 => r x y H2 Q
def tUn (r : V → Hp → VK → Prop) (ta : TE) : TE := fun σ H Q => ta σ H fun x H1 => r x H1 Q
/-- ints in, under C, and a value out -/
def rI (C : Int → Int → Prop) (g : Int → Int → V) : R2 := fun x y H Q => ∃ i j, x = .int i ∧ y = .int j ∧ C i j ∧ Q (g i j) H
def rI0 (g : Int → Int → V) : R2 := fun x y H Q => ∃ i j, x = .int i ∧ y = .int j ∧ Q (g i j) H
def rU (g : Int → V) : V → Hp → VK → Prop := fun x H Q => ∃ i, x = .int i ∧ Q (g i) H
section
variable {X : Cx} {a b c : Expr} {ta tb tc : TE} {pos : Pos}
theorem binT (ha : PE X a ta) (hb : PE X b tb) {pins : List (Addr × Obj)} {s : Shared} {σ : St} {H : Hp} {R : V → V → Hp → Prop} (I : Inv X pins σ H s)
    (h : ta σ H fun x H1 => tb σ H1 fun y H2 => R x y H2) {Q : Value → Shared → Prop} {f : Value → Value → Sem Value}
    (hf : ∀ v u s2 x y H2, Inv X pins σ H2 s2 → RelV x v → RelV y u → R x y H2 → wpAny (model X.prog X.w) X.A (f v u) Q X.xe s2) :
    wpAny (model X.prog X.w) X.A (eval a X.env) (fun v s₁ => wpAny (model X.prog X.w) X.A (eval b X.env) (fun u s₂ => wpAny (model X.prog X.w) X.A (f v u) Q X.xe s₂) X.xe s₁) X.xe s := by
  refine thn (ha pins s σ H _ I h) fun v s1 ⟨x, H1, I1, r1, q1⟩ => ?_
  refine thn (hb pins s1 σ H1 _ I1 q1) fun u s2 ⟨y, H2, I2, r2, q2⟩ => ?_
  exact hf v u s2 x y H2 I2 r1 r2 q2
theorem pe_op {op : Operator} {r : R2} (ho : OpR X (binaryOp op) r) (ha : PE X a ta) (hb : PE X b tb) : PE X (.BinOp a op b pos) (tOp r ta tb) := by
  intro pins s σ H Q I h
  exact wpAny_BinOp (binT ha hb I h fun v u s2 x y H2 I2 rx ry q => ho pins s2 σ H2 x y v u Q I2 rx ry q)
theorem opI {f : Value → Value → Sem Value} {C : Int → Int → Prop} {g : Int → Int → Int}
    (rule : ∀ (i j : Int) (t u : Tok) (s : Shared) (Q : Value → Shared → Prop) (E : Value → Shared → Prop), C i j → Q (.int (g i j) s.toks) { s with toks := s.toks + 1 } → wpAny (model X.prog X.w) X.A (f (.int i t) (.int j u)) Q E s) :
    OpR X f (rI C fun i j => .int (g i j)) := by
  intro pins s σ H x y v u Q I rx ry h
  obtain ⟨i, j, rfl, rfl, hc, q⟩ := h
  obtain ⟨t, rfl⟩ := rx
  obtain ⟨t', rfl⟩ := ry
  exact rule i j t t' s _ _ hc ⟨.int (g i j), H, I.tok _, ⟨_, rfl⟩, q⟩
theorem opI0 {f : Value → Value → Sem Value} {g : Int → Int → Int}
    (rule : ∀ (i j : Int) (t u : Tok) (s : Shared) (Q : Value → Shared → Prop) (E : Value → Shared → Prop), Q (.int (g i j) s.toks) { s with toks := s.toks + 1 } → wpAny (model X.prog X.w) X.A (f (.int i t) (.int j u)) Q E s) :
    OpR X f (rI0 fun i j => .int (g i j)) := by
  intro pins s σ H x y v u Q I rx ry h
  obtain ⟨i, j, rfl, rfl, q⟩ := h
  obtain ⟨t, rfl⟩ := rx
  obtain ⟨t', rfl⟩ := ry
  exact rule i j t t' s _ _ ⟨.int (g i j), H, I.tok _, ⟨_, rfl⟩, q⟩
theorem opB0 {f : Value → Value → Sem Value} {g : Int → Int → Bool}
    (rule : ∀ (i j : Int) (t u : Tok) (s : Shared) (Q : Value → Shared → Prop) (E : Value → Shared → Prop), Q (.bool (g i j)) s → wpAny (model X.prog X.w) X.A (f (.int i t) (.int j u)) Q E s) :
    OpR X f (rI0 fun i j => .bl (g i j)) := by
  intro pins s σ H x y v u Q I rx ry h
  obtain ⟨i, j, rfl, rfl, q⟩ := h
  obtain ⟨t, rfl⟩ := rx
  obtain ⟨t', rfl⟩ := ry
  exact rule i j t t' s _ _ ⟨.bl (g i j), H, I, rfl, q⟩
def CMul (i j : Int) : Prop := (-(2 ^ 64) < i ∧ i < 2 ^ 64) ∨ (-(2 ^ 64) < j ∧ j < 2 ^ 64)
theorem CMul.ok {i j : Int} (h : CMul i j) : IntMulOk i j := by
  rcases h with ⟨h1, h2⟩ | ⟨h1, h2⟩
  · exact .of_left (intBits_le_64 h1 h2)
  · exact .of_right (intBits_le_64 h1 h2)
theorem op_add : OpR X (binaryOp .Add) (rI0 fun i j => .int (i + j)) := opI0 fun _ _ _ _ _ _ _ q => add_int q
theorem op_sub : OpR X (binaryOp .Sub) (rI0 fun i j => .int (i - j)) := opI0 fun _ _ _ _ _ _ _ q => sub_int q
theorem op_mul : OpR X (binaryOp .Mult) (rI CMul fun i j => .int (i * j)) := opI fun _ _ _ _ _ _ _ hc q => mul_int q hc.ok
end
/-- the scalars that == tells apart as data does -/
def scal : V → V → Bool
  | .non, .non => true | .non, .int _ => true | .int _, .non => true | .non, .bl _ => true | .bl _, .non => true | .non, .str _ => true | .str _, .non => true
  | .int _, .int _ => true | .bl _, .bl _ => true | .str _, .str _ => true | .byt _, .byt _ => true
  | .int _, .str _ => true | .str _, .int _ => true | .bl _, .str _ => true | .str _, .bl _ => true
  | _, _ => false
def rEq : R2 := fun x y H Q => scal x y = true ∧ Q (.bl (decide (x = y))) H
def rNe : R2 := fun x y H Q => scal x y = true ∧ Q (.bl (!decide (x = y))) H
theorem dec_int {i j : Int} : decide (V.int i = V.int j) = (i == j) := by
  rw [Bool.eq_iff_iff]
  simp
theorem dec_bl {i j : Bool} : decide (V.bl i = V.bl j) = (i == j) := by
  rw [Bool.eq_iff_iff]
  simp
theorem dec_str {i j : Str} : decide (V.str i = V.str j) = (i == j) := by
  rw [Bool.eq_iff_iff]
  simp
theorem dec_byt {i j : Array UInt8} : decide (V.byt i = V.byt j) = (i.toList == j.toList) := by
  rw [Bool.eq_iff_iff]
  cases i
  cases j
  simp
section
variable {X : Cx} {a b c : Expr} {ta tb tc : TE} {pos : Pos}
theorem fin_bl {pins : List (Addr × Obj)} {σ : St} {H : Hp} {s : Shared} {Q : VK} {k k' : Bool} (I : Inv X pins σ H s) (q : Q (.bl k) H) (e : k = k') : EP X pins σ Q (.bool k') s := by
  subst e
  exact ⟨.bl k, H, I, rfl, q⟩
theorem op_eq : OpR X (compareOp .Eq) rEq := by
  intro pins s σ H x y v u Q I rx ry h
  obtain ⟨hs, q⟩ := h
  cases x with
  | non =>
    cases rx
    cases y with
    | non => cases ry; exact PySem.EqNone.eq_none_none (fin_bl I q (by simp))
    | bl j => cases ry; exact PySem.EqNone.eq_none_bool (fin_bl I q (by simp))
    | int j => obtain ⟨t', rfl⟩ := ry; exact PySem.EqNone.eq_none_int (fin_bl I q (by simp))
    | str j => obtain ⟨t', rfl⟩ := ry; exact PySem.EqNone.eq_none_str (fin_bl I q (by simp))
    | _ => exact absurd (show false = true from hs) Bool.false_ne_true
  | bl i =>
    cases rx
    cases y with
    | non => cases ry; exact PySem.EqNone.eq_bool_none (fin_bl I q (by simp))
    | bl j => cases ry; exact eq_bool (fin_bl I q dec_bl)
    | str j => obtain ⟨t', rfl⟩ := ry; exact PySem.EqMixed.eq_bool_str (fin_bl I q (by simp))
    | _ => exact absurd (show false = true from hs) Bool.false_ne_true
  | int i =>
    obtain ⟨t, rfl⟩ := rx
    cases y with
    | non => cases ry; exact PySem.EqNone.eq_int_none (fin_bl I q (by simp))
    | int j => obtain ⟨t', rfl⟩ := ry; exact eq_int (fin_bl I q dec_int)
    | str j => obtain ⟨t', rfl⟩ := ry; exact PySem.EqMixed.eq_int_str (fin_bl I q (by simp))
    | _ => exact absurd (show false = true from hs) Bool.false_ne_true
  | str i =>
    obtain ⟨t, rfl⟩ := rx
    cases y with
    | non => cases ry; exact PySem.EqNone.eq_str_none (fin_bl I q (by simp))
    | bl j => cases ry; exact PySem.EqMixed.eq_str_bool (fin_bl I q (by simp))
    | int j => obtain ⟨t', rfl⟩ := ry; exact PySem.EqMixed.eq_str_int (fin_bl I q (by simp))
    | str j => obtain ⟨t', rfl⟩ := ry; exact eq_str (fin_bl I q dec_str)
    | _ => exact absurd (show false = true from hs) Bool.false_ne_true
  | byt i =>
    obtain ⟨t, rfl⟩ := rx
    cases y with
    | byt j => obtain ⟨t', rfl⟩ := ry; exact PySem.W.eq_bytes (fin_bl I q dec_byt)
    | _ => exact absurd (show false = true from hs) Bool.false_ne_true
  | _ => cases y <;> exact absurd (show false = true from hs) Bool.false_ne_true
theorem op_ne : OpR X (compareOp .NotEq) rNe := by
  intro pins s σ H x y v u Q I rx ry h
  obtain ⟨hs, q⟩ := h
  cases x with
  | non =>
    cases rx
    cases y with
    | non => cases ry; exact PySem.EqNone.ne_none_none (fin_bl I q (by simp))
    | bl j => cases ry; exact PySem.EqNone.ne_none_bool (fin_bl I q (by simp))
    | int j => obtain ⟨t', rfl⟩ := ry; exact PySem.EqNone.ne_none_int (fin_bl I q (by simp))
    | str j => obtain ⟨t', rfl⟩ := ry; exact PySem.EqNone.ne_none_str (fin_bl I q (by simp))
    | _ => exact absurd (show false = true from hs) Bool.false_ne_true
  | bl i =>
    cases rx
    cases y with
    | non => cases ry; exact PySem.EqNone.ne_bool_none (fin_bl I q (by simp))
    | bl j => cases ry; exact ne_bool (fin_bl I q (congrArg not dec_bl))
    | str j => obtain ⟨t', rfl⟩ := ry; exact PySem.EqMixed.ne_bool_str (fin_bl I q (by simp))
    | _ => exact absurd (show false = true from hs) Bool.false_ne_true
  | int i =>
    obtain ⟨t, rfl⟩ := rx
    cases y with
    | non => cases ry; exact PySem.EqNone.ne_int_none (fin_bl I q (by simp))
    | int j => obtain ⟨t', rfl⟩ := ry; exact ne_int (fin_bl I q (congrArg not dec_int))
    | str j => obtain ⟨t', rfl⟩ := ry; exact PySem.EqMixed.ne_int_str (fin_bl I q (by simp))
    | _ => exact absurd (show false = true from hs) Bool.false_ne_true
  | str i =>
    obtain ⟨t, rfl⟩ := rx
    cases y with
    | non => cases ry; exact PySem.EqNone.ne_str_none (fin_bl I q (by simp))
    | bl j => cases ry; exact PySem.EqMixed.ne_str_bool (fin_bl I q (by simp))
    | int j => obtain ⟨t', rfl⟩ := ry; exact PySem.EqMixed.ne_str_int (fin_bl I q (by simp))
    | str j => obtain ⟨t', rfl⟩ := ry; exact ne_str (fin_bl I q (congrArg not dec_str))
    | _ => exact absurd (show false = true from hs) Bool.false_ne_true
  | byt i =>
    obtain ⟨t, rfl⟩ := rx
    cases y with
    | byt j => obtain ⟨t', rfl⟩ := ry; exact PySem.W.ne_bytes (fin_bl I q (congrArg not dec_byt))
    | _ => exact absurd (show false = true from hs) Bool.false_ne_true
  | _ => cases y <;> exact absurd (show false = true from hs) Bool.false_ne_true
theorem op_lt : OpR X (compareOp .Lt) (rI0 fun i j => .bl (decide (i < j))) := opB0 fun _ _ _ _ _ _ _ q => lt_int q
theorem op_le : OpR X (compareOp .LtE) (rI0 fun i j => .bl (decide (i ≤ j))) := opB0 fun _ _ _ _ _ _ _ q => le_int q
theorem op_gt : OpR X (compareOp .Gt) (rI0 fun i j => .bl (decide (j < i))) := opB0 fun _ _ _ _ _ _ _ q => gt_int q
/-- two rules for one operation: by cases -/
theorem OpR.or {f : Value → Value → Sem Value} {r r' : R2} (h : OpR X f r) (h' : OpR X f r') : OpR X f (fun x y H Q => r x y H Q ∨ r' x y H Q) := by
  intro pins s σ H x y v u Q I rx ry q
  rcases q with q | q
  · exact h pins s σ H x y v u Q I rx ry q
  · exact h' pins s σ H x y v u Q I rx ry q
theorem nomark (b : Expr) {op : CmpOp} (h : op ≠ .In := by decide) (h2 : op ≠ .NotIn := by decide) : behindInMarks op b = false := by
  have e1 : (op == CmpOp.In) = false := by cases op <;> first | rfl | exact absurd rfl h
  have e2 : (op == CmpOp.NotIn) = false := by cases op <;> first | rfl | exact absurd rfl h2
  cases b <;> simp [behindInMarks, e1, e2]
/-- a comparison as a value; hm: nomark b, or (for in, not in) by with_unfolding_all rfl -/
theorem pe_cmpR {op : CmpOp} {r : R2} (ho : OpR X (compareOp op) r) (ha : PE X a ta) (hb : PE X b tb) (hm : behindInMarks op b = false) : PE X (.Compare a [op] [b] pos) (tOp r ta tb) := by
  intro pins s σ H Q I h
  exact wpAny_Compare1 (binT ha hb I h fun v u s2 x y H2 I2 rx ry q => ho pins s2 σ H2 x y v u Q I2 rx ry q) hm
/-- a reading of a value as a test -/
def tTest (t : TE) : TT := fun σ H Q => t σ H fun x H' => ∃ k, x = .bl k ∧ Q k H'
theorem pt_cmpR {op : CmpOp} {r : R2} (ho : OpR X (compareOp op) r) (ha : PE X a ta) (hb : PE X b tb) (hm : behindInMarks op b = false) : PT X (.Compare a [op] [b] pos) (tTest (tOp r ta tb)) := by
  intro pins s σ H Q I h
  refine wpAny_isTrue_Compare1 (thn (ha pins s σ H _ I h) fun v s1 ⟨x, H1, I1, r1, q1⟩ => thn (hb pins s1 σ H1 _ I1 q1) fun u s2 ⟨y, H2, I2, r2, q2⟩ =>
    thn (ho pins s2 σ H2 x y v u _ I2 r1 r2 q2) fun c s3 ⟨z, H3, I3, r3, k, e, q3⟩ => ?_) hm
  subst e
  cases r3
  exact wpAny_truthy_bool ⟨H3, I3, q3⟩
/-- a op1 b op2 c -/
def tChain (r r' : R2) (ta tb tc : TE) : TE := fun σ H Q => ta σ H fun x H1 => tb σ H1 fun y H2 => r x y H2 fun z H3 => ∃ k, z = .bl k ∧
  (if k = true then tc σ H3 fun w' H4 => r' y w' H4 Q else Q (.bl false) H3)
theorem pt_chain {op op' : CmpOp} {r r' : R2} (ho : OpR X (compareOp op) r) (ho' : OpR X (compareOp op') r') (ha : PE X a ta) (hb : PE X b tb) (hc : PE X c tc)
    (hm : lastMarks [op, op'] [b, c] = false := by with_unfolding_all rfl) : PT X (.Compare a [op, op'] [b, c] pos) (tTest (tChain r r' ta tb tc)) := by
  intro pins s σ H Q I h
  refine isTrue_chain (thn (ha pins s σ H _ I h) fun v s1 ⟨x, H1, I1, r1, q1⟩ => test_link (thn (hb pins s1 σ H1 _ I1 q1) fun u s2 ⟨y, H2, I2, r2, q2⟩ =>
    thn (ho pins s2 σ H2 x y v u _ I2 r1 r2 q2) fun d s3 ⟨z, H3, I3, r3, k, e, q3⟩ => ?_)) hm
  subst e
  cases r3
  refine wpAny_truthy_bool ?_
  cases k with
  | false =>
    obtain ⟨k', e', q'⟩ := q3
    cases e'
    exact ite_ff ⟨H3, I3, q'⟩
  | true =>
    refine ite_tt (test_last (thn (hc pins s3 σ H3 _ I3 q3) fun w' s4 ⟨z', H4, I4, r4, q4⟩ => thn (ho' pins s4 σ H4 y z' u w' _ I4 r2 r4 q4) fun d' s5 ⟨z2, H5, I5, r5, k2, e2, q5⟩ => ?_))
    subst e2
    cases r5
    exact wpAny_truthy_bool ⟨H5, I5, q5⟩
/-- a value's truth by the abstract heap -/
def TruV (K : PySem.W.Frag) (x : V) (H : Hp) (k : Bool) : Prop :=
  match x with
  | .non => k = false
  | .bl b => k = b
  | .int i => k = (i != 0)
  | .str y => y.length ≤ sizeLine ∧ k = ((y.length : Int) != 0)
  | .byt y => y.size ≤ sizeLine ∧ k = ((y.size : Int) != 0)
  | .ref p => (∃ xs, SqL K H p xs ∧ k = !xs.isEmpty) ∨ (∃ xs, SqT K H p xs ∧ k = !xs.isEmpty) ∨ ∃ kvs, H p = some (.dK kvs) ∧ k = !kvs.isEmpty
  | _ => False
theorem isEmpty_kv {κ : Type} {kvs : List (κ × V)} {vs : List (κ × Value)} (r : KV kvs vs) : (!vs.isEmpty) = !kvs.isEmpty := by
  cases r <;> rfl
theorem isEmpty_of {xs : List V} {its : List Value} (r : Vals xs its) : (!its.toArray.isEmpty) = !xs.isEmpty := by
  cases r <;> simp
theorem line63 : (sizeLine : Nat) < 2 ^ 63 := by rw [sizeLine_eq]; decide
theorem tru_ok : TruR X (fun x H Q => ∃ k, TruV X.K x H k ∧ Q k H) := by
  intro pins s σ H x v Q I rx h
  obtain ⟨k, e, q⟩ := h
  have hl := line63
  have hs : sizeLine = 16777216 := sizeLine_eq
  cases x with
  | non =>
    cases rx
    have e' : k = false := e
    subst e'
    exact truthy_none ⟨H, I, q⟩
  | bl b =>
    cases rx
    have e' : k = b := e
    subst e'
    exact wpAny_truthy_bool ⟨H, I, q⟩
  | int i =>
    obtain ⟨t, rfl⟩ := rx
    have e' : k = (i != 0) := e
    subst e'
    exact PySem.P.truthy_int ⟨H, I, q⟩
  | str y =>
    obtain ⟨t, rfl⟩ := rx
    obtain ⟨hy, e'⟩ : y.length ≤ sizeLine ∧ k = ((y.length : Int) != 0) := e
    subst e'
    exact PySem.P.truthy_str (by omega) ⟨H, I.tok _, q⟩
  | byt y =>
    obtain ⟨t, rfl⟩ := rx
    obtain ⟨hy, e'⟩ : y.size ≤ sizeLine ∧ k = ((y.size : Int) != 0) := e
    subst e'
    exact PySem.W.truthy_bytes (by omega) ⟨H, I.tok _, q⟩
  | ref p =>
    cases rx
    have e' : (∃ xs, SqL X.K H p xs ∧ k = !xs.isEmpty) ∨ (∃ xs, SqT X.K H p xs ∧ k = !xs.isEmpty) ∨ ∃ kvs, H p = some (.dK kvs) ∧ k = !kvs.isEmpty := e
    rcases e' with ⟨xs, hx, e'⟩ | ⟨xs, hx, e'⟩ | ⟨kvs, hx, e'⟩
    · subst e'
      obtain ⟨its, r, pl, hz⟩ := I.list hx
      have hlen := r.length
      exact wpAny_truthy_list pl.isList (by simp only [List.size_toArray]; omega) ⟨H, I.tok _, by rw [isEmpty_of r]; exact q⟩
    · subst e'
      obtain ⟨its, r, pl, hz⟩ := I.tuple hx
      have hlen := r.length
      exact truthy_tuple pl (by simp only [List.size_toArray]; omega) ⟨H, I.tok _, by rw [isEmpty_of r]; exact q⟩
    · subst e'
      obtain ⟨hz, hS, vs, r, m⟩ : kvs.length ≤ sizeLine ∧ (p == sysModules) = false ∧ ∃ vs, KV kvs vs ∧ s.heap.DictOf (mixKind X.prog X.w) p vs := I.hok p _ hx
      have hlen : kvs.length = vs.length := Paired.length r
      exact wpAny_truthy_dict hS m (by omega) ⟨H, I.tok _, by rw [isEmpty_kv r]; exact q⟩
  | _ => exact (show False from e).elim
/-- any expression whose test is its value's truth (a name, a call, a subscript, a field ..: he by fun _ => rfl) -/
theorem pt_truth (ha : PE X a ta) (he : ∀ whole, isTrue a X.env whole = (do let v ← whole; standAt a.pos; holding [v] (truthy v))) :
    PT X a (fun σ H Q => ta σ H fun x H' => ∃ k, TruV X.K x H' k ∧ Q k H') := by
  intro pins s σ H Q I h
  exact isTrue_plain (thn (ha pins s σ H _ I h) fun v s1 ⟨x, H1, I1, r1, q1⟩ => tru_ok pins s1 σ H1 x v Q I1 r1 q1) (he _)
theorem vals1 {x : V} {us : List Value} (r : Vals [x] us) : ∃ u, us = [u] ∧ RelV x u := by
  cases r with
  | cons r1 r2 => cases r2; exact ⟨_, rfl, r1⟩
theorem vals2 {x y : V} {us : List Value} (r : Vals [x, y] us) : ∃ u w', us = [u, w'] ∧ RelV x u ∧ RelV y w' := by
  cases r with
  | cons r1 r2 =>
    cases r2 with
    | cons r3 r4 => cases r4; exact ⟨_, _, rfl, r1, r3⟩
theorem call_max2 (hc : X.calm = true) : CallR X (.builtin "max") (fun xs H Q => ∃ i j, xs = [.int i, .int j] ∧ Q (.int (if j > i then j else i)) H) := by
  intro pins s σ H xs us Q I r h
  obtain ⟨i, j, rfl, q⟩ := h
  obtain ⟨u, w', rfl, ⟨t, rfl⟩, ⟨t', rfl⟩⟩ := vals2 r
  refine max_two_ints (I.ok.hd hc) fun h' tk k => ⟨_, H, I.kept k, ?_, q⟩
  by_cases hj : j > i
  · rw [if_pos hj, if_pos hj]; exact ⟨_, rfl⟩
  · rw [if_neg hj, if_neg hj]; exact ⟨_, rfl⟩
end
end L2
namespace L2
open PySem PySem.Spec PyProof.Rows
structure ObjM (h : Heap) (x dx C : Addr) (mA : Str → Option Value) : Prop where
  obj : h.get? x = some (PySem.W.instObj C dx)
  ns : h.Ns1 dx mA
  ne : dx ≠ x
theorem lookIn_ns {h : Heap} {dx : Addr} {mA : Str → Option Value} (n : h.Ns1 dx mA) : ∃ od, h.get? dx = some od ∧ ∀ name, PySem.W.lookIn name od = some (mA name) := by
  obtain ⟨o, es, ep, ho, hd, hk, _, hm⟩ := n
  refine ⟨o, ho, fun name => ?_⟩
  have e := hm name
  unfold nsFind findBy at e
  rw [← Array.find?_toList] at e
  unfold PySem.W.lookIn
  rw [hd]
  dsimp only
  split
  · rename_i y q
    rw [q] at e
    exact congrArg some e
  · rename_i q
    rw [q] at e
    have a : es.toList.any (·.refKey) = false := by
      rw [List.any_eq_false]
      intro y hy
      obtain ⟨z, t, hkey⟩ := hk y (Array.mem_toList_iff.mp hy)
      simp [DictEntry.refKey, hkey]
    have a' : ¬ es.toList.any (·.refKey) = true := by rw [a]; exact Bool.false_ne_true
    rw [if_neg a']
    exact congrArg some e
theorem ObjM.look {h : Heap} {x dx C : Addr} {mA : Str → Option Value} (I : ObjM h x dx C mA) : ∃ od, PySem.W.InstAt h x (PySem.W.instObj C dx) C (some od) ∧ ∀ name, PySem.W.lookIn name od = some (mA name) :=
  let ⟨od, ho, hl⟩ := lookIn_ns I.ns
  ⟨od, ⟨I.obj, rfl, rfl, ho⟩, hl⟩
section
variable {prog : Program} {w : World} {A : Around} {E : Value → Shared → Prop} {s : Shared} {K : PySem.W.Frag} {x dx C f : Addr} {mA : Str → Option Value} {name : Str} {v : Value}
theorem get_map {expr : Bool} {Q : Value → Shared → Prop} (X : K.In s.heap) (I : ObjM s.heap x dx C mA) (hg : PySem.W.plainGet K C name = true) (hh : PySem.W.hasDictIn K C = true)
    (ha : PySem.W.findIn K (.ref C) name = some none) (hv : mA name = some v) (hv' : PySem.W.handedIn v = true) (h : Q v { s with toks := s.toks + 1 }) :
    wpAny (model prog w) A (getAttr (.ref x) name expr) Q E s := by
  obtain ⟨od, J, hl⟩ := I.look
  exact PySem.W.get_value X J (PySem.W.plainGet_of hg).1 (PySem.W.findObj_own hh ha rfl (by rw [hl, hv])) hv' h
theorem get_meth {pl : Sem Bool} {Q : Value × List Value → Shared → Prop} (X : K.In s.heap) (I : ObjM s.heap x dx C mA) (hg : PySem.W.plainGet K C name = true)
    (hf : PySem.W.findIn K (.ref C) name = some (some (.ref f))) (ht : PySem.W.isFn K (.ref f) = true) (hv : mA name = none) (h : Q (.ref f, [.ref x]) s) :
    wpAny (model prog w) A (getMethod (.ref x) name pl) Q E s := by
  obtain ⟨od, J, hl⟩ := I.look
  exact PySem.W.method_fn X J (PySem.W.plainGet_of hg).1 (PySem.W.plainGet_of hg).2 hf (beq_iff_eq.mp ht) (by show (PySem.W.lookIn name od).map (·.isSome) = some false; rw [hl, hv]; rfl) h
theorem set_map {ns : List Str} {Q : Unit → Shared → Prop} (X : K.In s.heap) (I : ObjM s.heap x dx C mA)
    (hs : PySem.W.findIn K (.ref C) "__setattr__" = some (some (.builtin "object.__setattr__"))) (hp : PySem.W.plainOver K C = true) (ht : PySem.W.takerIn K C name = some none) (hh : PySem.W.hasDictIn K C = true)
    (hw : PySem.Within mA ns) (hsz : ns.length ≤ sizeLine)
    (h : ∀ h', ObjM h' x dx C (fun y => if y = name then some v else mA y) → Heap.SameBut dx s.heap h' → Q () { s with heap := h', toks := s.toks + 2 }) :
    wpAny (model prog w) A (setAttr (.ref x) name v) Q E s := by
  obtain ⟨od, J, hl⟩ := I.look
  refine PySem.W.set_plain X J hs (PySem.W.osa_open (s := { s with toks := s.toks + 1 }) (r := none) X J hp ht fun b => ?_)
  obtain ⟨cd, hc, hd'⟩ := PySem.W.any_some hh
  have hx : s.heap.get? x = some ⟨.ref C, some dx, .plain, #[]⟩ := I.obj
  refine wpAny_bind (wpAny_pure (wpAny_bind (wpAny_bind (wpAny_loadPart hx (wpAny_bind (PySem.W.Looks.here (s := { s with toks := s.toks + 1 }) (PySem.W.looks_clsIn X hc) ?_))))))
  rw [hd']
  refine wpAny_pure (a := some dx) (wpAny_bind (wpAny_pure (wpAny_bind ?_)))
  refine wpAny_nsSet1 (s := { s with toks := s.toks + 1 }) I.ns fun h' hn2 hs2 => ?_
  obtain ⟨oD, esD, epD, hoD, hdD, hcD⟩ := hn2.count (PySem.Within.cons name v hw)
  refine wpAny_bind (wpAny_lookBehind hoD (by rw [hdD]; exact pastItsLine_dict (Nat.le_trans hcD (by rw [List.length_cons]; omega))) ?_)
  exact wpAny_pure (h _ ⟨(hs2.2 _ (Ne.symm I.ne)).trans I.obj, hn2, I.ne⟩ hs2)
/-- C(..): the dict at the heap's end, the instance behind it; then its __init__ -/
theorem make_map {R : Result → Shared → Prop} {vs : List Value} {kw : List (Str × Value)} (X : K.In s.heap) (hm : PySem.W.makesIn K C = true)
    (hi : PySem.W.findIn K (.ref C) "__init__" = some (some (.ref f))) (hf : PySem.W.typeIn K (.ref f) = some (.type "function"))
    (h : codeAny (model prog w) (A.under (.builtin "type.__call__" ⟨.ref C :: vs, kw⟩)) (.call (.ref f) ⟨.ref (s.heap.objs.size + 1) :: vs, kw⟩) (PySem.W.InitBack (s.heap.objs.size + 1) R)
      { s with heap := (s.heap.push PySem.W.emptyDict).push (PySem.W.instObj C s.heap.objs.size) }) :
    codeAny (model prog w) A (.call (.ref C) ⟨vs, kw⟩) R s := by
  obtain ⟨hh, g, d, t, os⟩ := s
  exact PySem.W.make_core (PySem.W.makes_of X hm) (PySem.W.looks_findIn X hi) (fun self => PySem.W.bind_fn X self hf) (.inl rfl) h
end
def putF (f : Str) (v : V) : List (Str × V) → List (Str × V)
  | [] => [(f, v)]
  | (g, x) :: r => if g = f then (g, v) :: r else (g, x) :: putF f v r
theorem lookup_putF (f g : Str) (v : V) : ∀ fs : List (Str × V), (putF f v fs).lookup g = if g = f then some v else fs.lookup g
  | [] => by
    show List.lookup g [(f, v)] = _
    by_cases h : g = f
    · have hb : (g == f) = true := beq_iff_eq.mpr h
      simp only [List.lookup, hb, if_pos h]
    · have hb : (g == f) = false := beq_eq_false_iff_ne.mpr h
      simp only [List.lookup, hb, if_neg h]
  | (k, x) :: r => by
    have ih := lookup_putF f g v r
    rw [show putF f v ((k, x) :: r) = (if k = f then (k, v) :: r else (k, x) :: putF f v r) from rfl]
    by_cases hk : k = f
    · rw [if_pos hk]
      by_cases h : g = k
      · have hb : (g == k) = true := beq_iff_eq.mpr h
        simp only [List.lookup, hb, if_pos (h.trans hk)]
      · have hb : (g == k) = false := beq_eq_false_iff_ne.mpr h
        simp only [List.lookup, hb, if_neg (fun e : g = f => h (e.trans hk.symm))]
    · rw [if_neg hk]
      by_cases h : g = k
      · have hb : (g == k) = true := beq_iff_eq.mpr h
        simp only [List.lookup, hb, if_neg (fun e : g = f => hk (h.symm.trans e))]
      · have hb : (g == k) = false := beq_eq_false_iff_ne.mpr h
        simp only [List.lookup, hb]
        exact ih
theorem keys_putF (f : Str) (v : V) : ∀ fs : List (Str × V), f ∈ (putF f v fs).map (·.1) ∧ ∀ g, g ∈ fs.map (·.1) → g ∈ (putF f v fs).map (·.1)
  | [] => ⟨by simp [putF], fun g h => by simp at h⟩
  | (k, x) :: r => by
    obtain ⟨i1, i2⟩ := keys_putF f v r
    rw [show putF f v ((k, x) :: r) = (if k = f then (k, v) :: r else (k, x) :: putF f v r) from rfl]
    by_cases hk : k = f
    · rw [if_pos hk]
      subst hk
      exact ⟨by simp, fun g h => by simpa using h⟩
    · rw [if_neg hk]
      refine ⟨?_, fun g h => ?_⟩
      · rw [List.map_cons]
        exact List.mem_cons_of_mem _ i1
      · rw [List.map_cons] at h ⊢
        rcases List.mem_cons.mp h with e | e
        · exact List.mem_cons.mpr (.inl e)
        · exact List.mem_cons_of_mem _ (i2 g e)
theorem length_putF (f : Str) (v : V) : ∀ fs : List (Str × V), (putF f v fs).length ≤ fs.length + 1
  | [] => by simp [putF]
  | (k, x) :: r => by
    have ih := length_putF f v r
    rw [show putF f v ((k, x) :: r) = (if k = f then (k, v) :: r else (k, x) :: putF f v r) from rfl]
    by_cases hk : k = f
    · rw [if_pos hk, List.length_cons, List.length_cons]; omega
    · rw [if_neg hk, List.length_cons, List.length_cons]; omega
theorem RelO.some_of {v : V} {o : Option Value} (r : RelO (some v) o) : ∃ u, o = some u ∧ RelV v u := by
  cases o with
  | none => exact (show False from r).elim
  | some u => exact ⟨u, rfl, r⟩
theorem RelO.none_of {o : Option Value} (r : RelO none o) : o = none := by
  cases o with
  | none => rfl
  | some u => exact (show False from r).elim
theorem handed_of {v : V} {u : Value} (r : RelV v u) : PySem.W.handedIn u = true := by
  cases v with
  | non => cases (show u = Value.none from r); rfl
  | bl b => cases (show u = Value.bool b from r); rfl
  | int i => obtain ⟨t, e⟩ := (show ∃ t, u = Value.int i t from r); cases e; rfl
  | str x => obtain ⟨t, e⟩ := (show ∃ t, u = Value.str x t from r); cases e; rfl
  | byt b => obtain ⟨t, e⟩ := (show ∃ t, u = Value.bytes b t from r); cases e; rfl
  | flt b => obtain ⟨t, e⟩ := (show ∃ t, u = Value.float b t from r); cases e; rfl
  | ref a => cases (show u = Value.ref a from r); rfl
  | ty n => cases (show u = Value.type n from r); rfl
section
variable {P : Program} {w : World} {H H' : Hp} {h h' : Heap} {a C dx : Addr} {fs fs' : List (Str × V)}
theorem ins_get (hok : HOk P w H h) (e : H a = some (.ins C dx fs)) : ∃ mA, ObjM h a dx C mA ∧ (∀ f, RelO (fs.lookup f) (mA f)) ∧ PySem.Within mA (fs.map (·.1)) ∧ fs.length ≤ 1000 ∧ H dx = some (.own a) := by
  obtain ⟨d, z, ne, ob, mA, n, r, q⟩ := (show ObjOk P w H h a (.ins C dx fs) from hok a _ e)
  exact ⟨mA, ⟨ob, n, ne⟩, r, q, z, d⟩
end
structure Cls (K : PySem.W.Frag) (C : Addr) : Prop where
  pg : PySem.W.plainGet K C Str.empty = true
  hd : PySem.W.hasDictIn K C = true
  po : PySem.W.plainOver K C = true
  sa : PySem.W.findIn K (.ref C) "__setattr__" = some (some (.builtin "object.__setattr__"))
theorem Cls.get {K : PySem.W.Frag} {C : Addr} (c : Cls K C) (f : Str) : PySem.W.plainGet K C f = true := c.pg
/-- no class of it has the name -/
def NoAttr (K : PySem.W.Frag) (C : Addr) (f : Str) : Prop := PySem.W.findIn K (.ref C) f = some none
theorem NoAttr.taker {K : PySem.W.Frag} {C : Addr} {f : Str} (n : NoAttr K C f) : PySem.W.takerIn K C f = some none := by
  unfold PySem.W.takerIn
  rw [show PySem.W.findIn K (.ref C) f = some none from n]
  rfl
/-- a constant of the class -/
structure Con (K : PySem.W.Frag) (C : Addr) (f : Str) (v : V) (u : Value) : Prop where
  at_ : PySem.W.findIn K (.ref C) f = some (some u)
  rel : RelV v u
  get : PySem.W.specialIn K u "__get__" = some none
  cp : PySem.W.copiedNames.contains f = false
/-- a method: a plain def of the class or of one above it -/
structure Meth (K : PySem.W.Frag) (C : Addr) (m : Str) (f : Addr) : Prop where
  at_ : PySem.W.findIn K (.ref C) m = some (some (.ref f))
  fn : PySem.W.isFn K (.ref f) = true
  kp : PySem.W.keepIn K (.ref f) = true
section
variable {X : Cx} {pins : List (Addr × Obj)} {σ : St} {H : Hp} {s : Shared} {a C dx : Addr} {fs : List (Str × V)} {f : Str} {v : V} {A : Around} {E : Value → Shared → Prop}
theorem getattr_ok {b : Bool} {Q : Value → Shared → Prop} (I : Inv X pins σ H s) (e : H a = some (.ins C dx fs)) (c : Cls X.K C) (n : NoAttr X.K C f) (l : fs.lookup f = some v)
    (h : ∀ u s', Inv X pins σ H s' → RelV v u → Q u s') : wpAny (model X.prog X.w) A (getAttr (.ref a) f b) Q E s := by
  obtain ⟨mA, O, r, _, _, _⟩ := ins_get I.hok e
  obtain ⟨u, hu, ru⟩ := RelO.some_of (v := v) (o := mA f) (by rw [← l]; exact r f)
  exact get_map I.kIn O (c.get f) c.hd n hu (handed_of ru) (h u _ (I.tok _) ru)
theorem getmeth_ok {m : Str} {g : Addr} {pl : Sem Bool} {Q : Value × List Value → Shared → Prop} (I : Inv X pins σ H s) (e : H a = some (.ins C dx fs)) (c : Cls X.K C) (k : Meth X.K C m g) (l : fs.lookup m = none)
    (h : Q (.ref g, [.ref a]) s) : wpAny (model X.prog X.w) A (getMethod (.ref a) m pl) Q E s := by
  obtain ⟨mA, O, r, _, _, _⟩ := ins_get I.hok e
  have hn : mA m = none := RelO.none_of (by rw [← l]; exact r m)
  exact get_meth I.kIn O (c.get m) k.at_ k.fn hn h
theorem setattr_ok {y : V} {u : Value} {Q : Unit → Shared → Prop} (I : Inv X pins σ H s) (e : H a = some (.ins C dx fs)) (c : Cls X.K C) (n : NoAttr X.K C f) (hl : fs.length < 1000) (ry : RelV y u)
    (h : ∀ s', Inv X pins σ (upd H a (.ins C dx (putF f y fs))) s' → Q () s') : wpAny (model X.prog X.w) A (setAttr (.ref a) f u) Q E s := by
  obtain ⟨mA, O, r, wi, _, ho⟩ := ins_get I.hok e
  have hz : (fs.map (·.1)).length ≤ sizeLine := by rw [List.length_map, sizeLine_eq]; omega
  refine set_map I.kIn O c.sa c.po n.taker c.hd wi hz fun h' O' sb => h _ ?_
  have hd : ∃ o, h'.get? dx = some o := let ⟨o, _, _, e', _⟩ := O'.ns; ⟨o, e'⟩
  refine I.write (x := a) (e := dx) (by rw [e]; exact True.intro) (.inr ho) (fun b q hb z => (sb.2 b hb).trans z) hd ?_
  refine ⟨by rw [upd_ne O.ne]; exact ho, ?_, O.ne, O'.obj, _, O'.ns, fun g => ?_, fun g hg => ?_⟩
  · have := length_putF f y fs; omega
  · show RelO ((putF f y fs).lookup g) (if g = f then some u else mA g)
    rw [lookup_putF]
    by_cases q : g = f
    · rw [if_pos q, if_pos q]; exact ry
    · rw [if_neg q, if_neg q]; exact r g
  · by_cases q : g = f
    · rw [q]; exact (keys_putF f y fs).1
    · refine (keys_putF f y fs).2 g (wi g fun z => hg ?_)
      show (if g = f then some u else mA g) = none
      rw [if_neg q]; exact z
/-- a new instance, tracked, without attributes -/
theorem Inv.made (I : Inv X pins σ H s) : Inv X pins σ (upd (upd H s.heap.objs.size (.own (s.heap.objs.size + 1))) (s.heap.objs.size + 1) (.ins C s.heap.objs.size []))
    { s with heap := (s.heap.push PySem.W.emptyDict).push (PySem.W.instObj C s.heap.objs.size) } := by
  have e1 : (s.heap.push PySem.W.emptyDict).get? s.heap.objs.size = some PySem.W.emptyDict := Heap.get?_push_size s.heap rfl
  have e2 : ((s.heap.push PySem.W.emptyDict).push (PySem.W.instObj C s.heap.objs.size)).get? (s.heap.objs.size + 1) = some (PySem.W.instObj C s.heap.objs.size) := by
    have := Heap.get?_push_size (s.heap.push PySem.W.emptyDict) (o := PySem.W.instObj C s.heap.objs.size) rfl
    rwa [Heap.size_push] at this
  have e3 : (s.heap.push PySem.W.emptyDict).Ns s.heap.objs.size (fun _ => none) := ⟨PySem.W.emptyDict, #[], _, e1, rfl, (fun e he => absurd he (by simp)), fun _ => rfl⟩
  have I1 := I.laid (a := s.heap.objs.size) (o := .own (s.heap.objs.size + 1)) (h' := s.heap.push PySem.W.emptyDict) (t' := s.toks) (fun b u q => Heap.get?_push_of_some _ q) (Nat.le_refl _) ⟨_, e1⟩
  refine I1.laid (a := s.heap.objs.size + 1) (o := .ins C s.heap.objs.size []) (t' := s.toks) (fun b u q => Heap.get?_push_of_some _ q) (Nat.le_of_eq (Heap.size_push _ _)) ?_
  have ne : s.heap.objs.size ≠ s.heap.objs.size + 1 := Nat.ne_of_lt (Nat.lt_succ_self _)
  refine ⟨by rw [upd_ne ne, upd_same], Nat.zero_le _, ne, e2, fun _ => none, (Heap.Ns1.of_empty e3).at fun o q => Heap.get?_push_of_some _ q, fun _ => True.intro, fun y hy => absurd rfl hy⟩
/-- e.f where nothing but the object is asked: through attributeBase (super) and the last hold -/
theorem attr_of {prog : Program} {w : World} {env : Env} {e : Expr} {f : Str} {pos : Pos} {s : Shared} {Q : Value → Shared → Prop} (hb : attributeBase e f env (eval e env) = eval e env)
    (h : wpAny (model prog w) A (eval e env) (fun o s₁ => wpAny (model prog w) A (getAttr o f true) Q E s₁) E s) : wpAny (model prog w) A (eval (.Attribute e f pos) env) Q E s :=
  Attribute_any_ h (by rw [arm_eval_Attribute, hb])
end
/-- e.f, an attribute of the instance -/
def tFld (K : PySem.W.Frag) (ta : TE) (f : Str) : TE := fun σ H Q => ta σ H fun x H1 => ∃ a C dx fs v, x = .ref a ∧ H1 a = some (.ins C dx fs) ∧ Cls K C ∧ NoAttr K C f ∧ fs.lookup f = some v ∧ Q v H1
/-- e.f = value -/
def sFld (K : PySem.W.Frag) (ta tv : TE) (f : Str) : TS := fun D σ H => tv σ H fun y H1 => ta σ H1 fun x H2 => ∃ a C dx fs, x = .ref a ∧ H2 a = some (.ins C dx fs) ∧ Cls K C ∧ NoAttr K C f ∧ fs.length < 1000 ∧
  D.nx σ (upd H2 a (.ins C dx (putF f y fs)))
/-- an augmented operator on two values -/
def InOp (X : Cx) (op : Operator) (rd : V → V → Hp → VK → Prop) : Prop :=
  ∀ (pins : List (Addr × Obj)) (s : Shared) (σ : St) (H : Hp) (x y : V) (u v : Value) (Q : VK), Inv X pins σ H s → RelV x u → RelV y v → rd x y H Q → wpAny (model X.prog X.w) X.A (inplaceOp op u v) (EP X pins σ Q) X.xe s
/-- e.f op= value -/
def sFldAug (K : PySem.W.Frag) (ta tv : TE) (rd : V → V → Hp → VK → Prop) (f : Str) : TS := fun D σ H => ta σ H fun x H1 => ∃ a C dx fs v, x = .ref a ∧ H1 a = some (.ins C dx fs) ∧ Cls K C ∧ NoAttr K C f ∧ fs.lookup f = some v ∧
  tv σ H1 fun y H2 => rd v y H2 fun z H3 => ∃ dx' fs', H3 a = some (.ins C dx' fs') ∧ fs'.length < 1000 ∧ D.nx σ (upd H3 a (.ins C dx' (putF f z fs')))
section
variable {X : Cx} {o e value : Expr} {f : Str} {pos pos' tpos : Pos} {ta tv : TE}
theorem pe_fld (he : PE X e ta) (hb : attributeBase e f X.env (eval e X.env) = eval e X.env) : PE X (.Attribute e f pos) (tFld X.K ta f) := by
  intro pins s σ H Q I h
  refine attr_of hb (thn (he pins s σ H _ I h) fun u s1 ⟨x, H1, I1, rx, a, C, dx, fs, v, ex, ea, c, n, l, q⟩ => ?_)
  subst ex
  obtain rfl : u = Value.ref a := rx
  exact getattr_ok I1 ea c n l fun u' s2 I2 ru => ⟨v, H1, I2, ru, q⟩
theorem ps_fld (ha : PE X o ta) (hv : PE X value tv) (hs : swapsWith value (some (.Attribute o f pos')) pos.line X.env = pure false) : PS X (.Assign [.Attribute o f pos'] value pos) (sFld X.K ta tv f) := by
  intro pins s σ H D I h
  refine plainObj_wpAny_Assign_Attribute (thn (hv pins s σ H _ I h) fun u s1 ⟨y, H1, I1, ry, q⟩ => thn (ha pins s1 σ H1 _ I1 q) fun ov s2 ⟨x, H2, I2, rx, a, C, dx, fs, ex, ea, c, n, l, q2⟩ => ?_) hs
  subst ex
  obtain rfl : ov = Value.ref a := rx
  exact setattr_ok I2 ea c n l ry fun s3 I3 => ⟨σ, _, I3, q2⟩
theorem ps_fldaug {op : Operator} {rd : V → V → Hp → VK → Prop} (ha : PE X o ta) (hv : PE X value tv) (hop : InOp X op rd) : PS X (.AugAssign (.Attribute o f tpos) op value pos) (sFldAug X.K ta tv rd f) := by
  intro pins s σ H D I h
  refine wpAny_AugAssign_AttributeAny (thn (ha pins s σ H _ I h) fun ov s1 ⟨x, H1, I1, rx, a, C, dx, fs, v, ex, ea, c, n, l, q⟩ => ?_)
  subst ex
  obtain rfl : ov = Value.ref a := rx
  refine getattr_ok I1 ea c n l fun u s2 I2 ru => thn (hv pins s2 σ H1 _ I2 q) fun w3 s3 ⟨y, H2, I3, ry, q3⟩ => thn (hop pins s3 σ H2 v y u w3 _ I3 ru ry q3) fun w4 s4 ⟨z, H3, I4, rz, dx', fs', ea', l', q4⟩ => ?_
  exact setattr_ok I4 ea' c n l' rz fun s5 I5 => ⟨σ, _, I5, q4⟩
def rAdd : V → V → Hp → VK → Prop := fun x y H Q => ∃ i j, x = .int i ∧ y = .int j ∧ Q (.int (i + j)) H
def rSub : V → V → Hp → VK → Prop := fun x y H Q => ∃ i j, x = .int i ∧ y = .int j ∧ Q (.int (i - j)) H
theorem in_add : InOp X .Add rAdd := by
  rintro pins s σ H x y u v Q I rx ry ⟨i, j, rfl, rfl, q⟩
  obtain ⟨t, rfl⟩ := (show ∃ t, u = Value.int i t from rx)
  obtain ⟨t', rfl⟩ := (show ∃ t', v = Value.int j t' from ry)
  exact PyProof.Rows.iadd_int ⟨.int (i + j), H, I.tok _, ⟨_, rfl⟩, q⟩
end
section
variable {X : Cx} {pins : List (Addr × Obj)} {σ : St} {H : Hp} {s : Shared} {A : Around} {E : Value → Shared → Prop} {Q : Value → Shared → Prop} {c : Value} {b : Bool}
/-- the type of a value, as the fragment's deciders take it; for an instance its class -/
inductive TyOf (K : PySem.W.Frag) (H : Hp) : V → Value → Prop where
  | non : TyOf K H .non (.type "NoneType")
  | bl (x : Bool) : TyOf K H (.bl x) (.type "bool")
  | int (i : Int) : TyOf K H (.int i) (.type "int")
  | str (x : Str) : TyOf K H (.str x) (.type "str")
  | flt (x : UInt64) : TyOf K H (.flt x) (.type "float")
  | lst {a : Addr} {xs : List V} (e : H a = some (.lst xs)) : TyOf K H (.ref a) (.type "list")
  | frz {a : Addr} {o : Obj} {xs : List V} (e : H a = some (.frz o (.lst xs))) : TyOf K H (.ref a) (.type "list")
  | tup {a : Addr} {xs : List V} (e : H a = some (.tup xs)) : TyOf K H (.ref a) (.type "tuple")
  | dK {a : Addr} {kvs : List (Key × V)} (e : H a = some (.dK kvs)) : TyOf K H (.ref a) (.type "dict")
  | dT {a : Addr} {kvs : List (List Key × V)} (e : H a = some (.dT kvs)) : TyOf K H (.ref a) (.type "dict")
  | ins {a C dx : Addr} {fs : List (Str × V)} (e : H a = some (.ins C dx fs)) (cl : Cls K C) (ha : PySem.W.findIn K (.ref C) "__class__" = some (some (.builtin "object.__class__")))
      (hn : PySem.W.specialIn K (.builtin "object.__class__") "__get__" = some (some (.builtin "getset_descriptor.__get__"))) (htk : PySem.W.takesIn K (.builtin "object.__class__") = some true)
      (hm : PySem.W.mroIn K C (.type "object") = some true) : TyOf K H (.ref a) (.ref C)
end
end L2
namespace L2
open PySem PySem.Spec PyProof.Rows
structure Room (k : Nat) (A : Around) : Prop where
  hd : A.handled = none
  dp : A.depth + 3 * k + 5 < recursionLimit
  un : A.units + 16 * k + 200 < cLine
theorem Room.mono {j k : Nat} {A : Around} (r : Room k A) (h : j ≤ k) : Room j A := ⟨r.hd, by have := r.dp; omega, by have := r.un; omega⟩
theorem Room.deeper {k : Nat} {A : Around} (r : Room (k + 1) A) (env : Env) : Room k (A.deeper env) :=
  ⟨r.hd, by have := r.dp; show A.depth + 1 + 3 * k + 5 < _; omega, by have := r.un; show A.units + 3 + 16 * k + 200 < _; omega⟩
theorem Room.in1 {k : Nat} {A : Around} (r : Room (k + 1) A) : Room k A.in1 :=
  ⟨r.hd, by have := r.dp; show A.depth + 3 * k + 5 < _; omega, by have := r.un; show A.units + 1 + 16 * k + 200 < _; omega⟩
theorem make_depth {A : Around} {C : Addr} {us : List Value} {kw : List (Str × Value)} : (A.under (.builtin "type.__call__" ⟨.ref C :: us, kw⟩)).depth = A.depth + 1 := by
  first | rfl | simp [Around.under, Code.weight, Code.isCreation, Code.isGuard, Code.isCaller, Code.frames, Code.isFrame, guardIds]
theorem make_units {A : Around} {C : Addr} {us : List Value} {kw : List (Str × Value)} : (A.under (.builtin "type.__call__" ⟨.ref C :: us, kw⟩)).units = A.units + 1 := by
  first | rfl | simp [Around.under, Code.cUnits, Code.frames, Code.isFrame]
theorem Room.make {k : Nat} {A : Around} (r : Room (k + 1) A) (C : Addr) (us : List Value) (kw : List (Str × Value)) : Room k (A.under (.builtin "type.__call__" ⟨.ref C :: us, kw⟩)) :=
  ⟨r.hd, by have := r.dp; rw [make_depth]; omega, by have := r.un; rw [make_units]; omega⟩
theorem Room.depth {k : Nat} {A : Around} (r : Room k A) : A.depth < recursionLimit := by have := r.dp; omega
theorem Room.units {k : Nat} {A : Around} (r : Room k A) : A.units + 64 < cLine := by have := r.un; omega
def tNil : TA := fun _ H Q => Q [] H
def tCons (ta : TE) (tr : TA) : TA := fun σ H Q => ta σ H fun x H1 => tr σ H1 fun xs H2 => Q (x :: xs) H2
section
variable {X : Cx} {e : Expr} {es : List Expr} {te : TE} {t : TA} {pos : Pos}
theorem pa_nil : PA X [] tNil := fun _ _ _ _ H Q I h => Calls.spliced_nil ⟨[], H, I, .nil, h⟩
theorem pa_cons (ha : PE X e te) (hr : PA X es t) (hs : starEach (e :: es) X.env = (false, eval e X.env) :: starEach es X.env := by rfl) : PA X (e :: es) (tCons te t) := by
  intro pos pins s σ H Q I h
  rw [hs]
  show wpAny _ _ (spliced ((false, eval e X.env) :: backTo pos (starEach es X.env))) _ _ s
  refine Calls.spliced_cons (thn (ha pins s σ H _ I h) fun u s1 ⟨x, H1, I1, r1, q1⟩ => ?_)
  exact thn (hr pos pins s1 σ H1 _ I1 q1) fun us s2 ⟨xs, H2, I2, r2, q2⟩ => ⟨x :: xs, H2, I2, .cons r1 r2, q2⟩
/-- a tuple, a list of written items -/
def tTup (t : TA) : TE := fun σ H Q => t σ H fun xs H1 => xs.length ≤ sizeLine ∧ ∀ p, H1 p = none → Q (.ref p) (upd H1 p (.tup xs))
def tLst (t : TA) : TE := fun σ H Q => t σ H fun xs H1 => xs.length ≤ sizeLine ∧ ∀ p, H1 p = none → Q (.ref p) (upd H1 p (.lst xs))
theorem pe_tup {x1} (h : PA X es t) : PE X (.Tuple es x1 pos) (tTup t) := by
  intro pins s σ H Q I hq
  refine wpAny_Tuple_spliced (thn (h pos pins s σ H _ I hq) fun us s1 ⟨xs, H1, I1, r, z, q⟩ => ⟨by rw [← r.length]; exact z, ?_⟩)
  have hf : H1 s1.heap.objs.size = none := I1.hok.fresh (Nat.le_refl _)
  refine ⟨.ref s1.heap.objs.size, upd H1 s1.heap.objs.size (.tup xs), I1.laid (t' := s1.toks) (fun b u e => Heap.get?_push_of_some _ e) (Nat.le_refl _) ?_, rfl, q _ hf⟩
  exact ⟨z, us, r, ⟨_, Heap.get?_push_size _ rfl, rfl, _, rfl⟩⟩
theorem pe_lst (h : PA X es t) : PE X (.List es pos) (tLst t) := by
  intro pins s σ H Q I hq
  refine wpAny_List_spliced (thn (h pos pins s σ H _ I hq) fun us s1 ⟨xs, H1, I1, r, z, q⟩ => ⟨by rw [← r.length]; exact z, ?_⟩)
  have hf : H1 s1.heap.objs.size = none := I1.hok.fresh (Nat.le_refl _)
  refine ⟨.ref s1.heap.objs.size, upd H1 s1.heap.objs.size (.lst xs), I1.laid (t' := s1.toks) (fun b u e => Heap.get?_push_of_some _ e) (Nat.le_refl _) ?_, rfl, q _ hf⟩
  exact ⟨z, us, 0, r, Heap.get?_push_size _ rfl⟩
end
/-- a def's promise: the bound arguments in the parameters' order, the heap, the wanted end, the wanted exception -/
abbrev Sp := List V → Hp → VK → XK → Prop
/-- how an exception lies behind a call (file 08 gives it): the callers' frames, abstract heap and state ahead of the call, the wish, the exception, the state -/
abbrev CXT := List Env → Hp → Shared → XK → Value → Shared → Prop
/-- the state at a call -/
structure Env0 (P : Program) (w : World) (K : PySem.W.Frag) (mg : Str → Option Value) (base : Heap) (A : Around) (outer : List Env) (s : Shared) (H : Hp) : Prop where
  frames : A.frames = some outer
  mod : Mod K mg base
  bs : ∀ b o, base.get? b = some o → s.heap.get? b = some o ∧ H b = none
  bsz : base.objs.size ≤ s.heap.objs.size
  funs : s.heap.FunFrames base outer
  frf : ∀ b ∈ frs outer, H b = none
  hok : HOk P w H s.heap
  bare : AllBare s.gens
/-- a call's end -/
def CE (outer : List Env) (P : Program) (w : World) (H : Hp) (s : Shared) (Q : VK) (u : Value) (s' : Shared) : Prop :=
  ∃ v H', s'.os = s.os ∧ AllBare s'.gens ∧ Un (frs outer) [] H H' s.heap s'.heap ∧ HOk P w H' s'.heap ∧ RelV v u ∧ Q v H'
def CR (CX : CXT) (outer : List Env) (P : Program) (w : World) (H : Hp) (s : Shared) (Q : VK) (E : XK) (r : Result) (s' : Shared) : Prop :=
  match r with
  | .ok (.ret u) => CE outer P w H s Q u s'
  | .ok _ => False
  | .error e => CX outer H s E e s'
structure FnOk (P : Program) (w : World) (K : PySem.W.Frag) (mg : Str → Option Value) (base : Heap) (CX : CXT) (k : Nat) (f : Addr) (fd : FuncData) (ps : List Str) (sp : Sp) : Prop where
  len : ∀ vs H Q E, sp vs H Q E → vs.length = ps.length
  run : ∀ (A : Around) (outer : List Env) (s : Shared) (H : Hp) (args : Args) (us : List Value) (vs : List V) (Q : VK) (E : XK), Room k A → Env0 P w K mg base A outer s H → BindsTo s fd args (ps.zip us) → Vals vs us → sp vs H Q E →
    codeAny (model P w) A (.call (.ref f) args) (CR CX outer P w H s Q E) s
theorem FnOk.mono {P : Program} {w : World} {K : PySem.W.Frag} {mg : Str → Option Value} {base : Heap} {CX : CXT} {j k : Nat} {f : Addr} {fd : FuncData} {ps : List Str} {sp : Sp} (F : FnOk P w K mg base CX j f fd ps sp) (h : j ≤ k) :
    FnOk P w K mg base CX k f fd ps sp := ⟨F.len, fun A outer s H args us vs Q E hr => F.run A outer s H args us vs Q E (hr.mono h)⟩
/-- a weaker promise -/
theorem FnOk.imp {P : Program} {w : World} {K : PySem.W.Frag} {mg : Str → Option Value} {base : Heap} {CX : CXT} {k : Nat} {f : Addr} {fd : FuncData} {ps : List Str} {sp sp' : Sp} (F : FnOk P w K mg base CX k f fd ps sp)
    (h : ∀ vs H Q E, sp' vs H Q E → sp vs H Q E) : FnOk P w K mg base CX k f fd ps sp' :=
  ⟨fun vs H Q E q => F.len vs H Q E (h _ _ _ _ q), fun A outer s H args us vs Q E hr he hb hv hs => F.run A outer s H args us vs Q E hr he hb hv (h _ _ _ _ hs)⟩
theorem Env0.make {P : Program} {w : World} {K : PySem.W.Frag} {mg : Str → Option Value} {base : Heap} {A : Around} {outer : List Env} {s : Shared} {H : Hp} (e : Env0 P w K mg base A outer s H) (C : Addr) (us : List Value) (kw : List (Str × Value)) :
    Env0 P w K mg base (A.under (.builtin "type.__call__" ⟨.ref C :: us, kw⟩)) outer s H := ⟨by first | exact e.frames | (simpa [Around.under, Code.envs, Code.isFrame, pushEnvs] using e.frames), e.mod, e.bs, e.bsz, e.funs, e.frf, e.hok, e.bare⟩
theorem Env0.in1 {P : Program} {w : World} {K : PySem.W.Frag} {mg : Str → Option Value} {base : Heap} {A : Around} {outer : List Env} {s : Shared} {H : Hp} (e : Env0 P w K mg base A outer s H) :
    Env0 P w K mg base A.in1 outer s H := ⟨e.frames, e.mod, e.bs, e.bsz, e.funs, e.frf, e.hok, e.bare⟩
section
variable {X : Cx} {pins : List (Addr × Obj)} {σ : St} {H : Hp} {s s' : Shared}
/-- from a body: what a callee wants -/
theorem Inv.env0 (I : Inv X pins σ H s) : Env0 X.prog X.w X.K X.mg X.base X.A X.stack s H :=
  ⟨I.ok.frames, I.ok.mod, I.bs, Nat.le_trans I.ok.bsz I.sz, I.stack, I.stkFree, I.hok, I.bare⟩
/-- behind a call -/
theorem Inv.after {Q : VK} {u : Value} (I : Inv X pins σ H s) (h : CE X.stack X.prog X.w H s Q u s') : EP X pins σ Q u s' := by
  obtain ⟨v, H', os, bare, un, hok, r, q⟩ := h
  obtain ⟨hh, g, d, t, os'⟩ := s'
  obtain rfl : os' = s.os := os
  exact ⟨v, H', I.call (h' := hh) (g' := g) (d' := d) (t' := t) (ch := []) un hok bare (fun b z => absurd z (by simp)), r, q⟩
end
/-- f(..): the written arguments, then the defaults dvs; E: what is wanted of an exception -/
def tCall (sp : Sp) (dvs : List V) (E : XK) (t : TA) : TE := fun σ H Q => t σ H fun vs H1 => sp (vs ++ dvs) H1 Q E
/-- o.m(..) of an instance of the class at C -/
def tMeth (C : Addr) (m : Str) (sp : Sp) (dvs : List V) (E : XK) (ta : TE) (t : TA) : TE := fun σ H Q => ta σ H fun x H1 => ∃ a dx fs, x = .ref a ∧ H1 a = some (.ins C dx fs) ∧ fs.lookup m = none ∧
  t σ H1 fun vs H2 => sp (x :: (vs ++ dvs)) H2 Q E
/-- C(..): a new instance and its dict, then __init__ -/
def tMake (C : Addr) (sp : Sp) (dvs : List V) (E : XK) (t : TA) : TE := fun σ H Q => t σ H fun vs H1 => ∀ x dx, H1 x = none → H1 dx = none → dx ≠ x →
  sp (.ref x :: (vs ++ dvs)) (upd (upd H1 dx (.own x)) x (.ins C dx [])) (fun v H2 => v = .non ∧ Q (.ref x) H2) E
/-- how the parameters are bound: us the positional arguments, kw the keywords' values by name, ds the defaults that fill up -/
def Binds (K : PySem.W.Frag) (fd : FuncData) (ps : List Str) (ds : List Value) : Prop :=
  ∀ (s : Shared) (us : List Value), K.In s.heap → (us ++ ds).length = ps.length → BindsTo s fd ⟨us, []⟩ (ps.zip (us ++ ds))
/-- every parameter is given -/
theorem Binds.all {K : PySem.W.Frag} {fd : FuncData} {ps : List Str} (h : ∀ us : List Value, us.length = ps.length → bindArgs fd ⟨us, []⟩ = pure (ps.zip us)) : Binds K fd ps [] := fun s us _ hl => by
  rw [List.append_nil] at hl ⊢
  exact .of_eq (h us hl)
/-- an exception of a callee reaches what this body wants of exceptions -/
def Passes (CX : CXT) (X : Cx) (E : XK) : Prop := ∀ (pins : List (Addr × Obj)) (σ : St) (H : Hp) (s : Shared) (e : Value) (s' : Shared), Inv X pins σ H s → CX X.stack H s E e s' → X.xe e s'
section
variable {X : Cx} {CX : CXT} {k : Nat} {f C : Addr} {fd : FuncData} {ps : List Str} {sp : Sp} {dvs : List V} {ds : List Value} {E : XK} {x m : Str} {p pos apos : Pos} {e o : Expr} {es : List Expr} {ta : TE} {t : TA}
/-- the callee runs -/
theorem run_fn {pins : List (Addr × Obj)} {σ : St} {H : Hp} {s : Shared} {Q : VK} {us : List Value} {vs : List V} (F : FnOk X.prog X.w X.K X.mg X.base CX k f fd ps sp) (hr : Room k X.A) (hb : Binds X.K fd ps ds) (hd : Vals dvs ds) (hx : Passes CX X E)
    (I : Inv X pins σ H s) (r : Vals vs us) (h : sp (vs ++ dvs) H Q E) : wpAny (model X.prog X.w) X.A (call (.ref f) us) (EP X pins σ Q) X.xe s := by
  have r2 : Vals (vs ++ dvs) (us ++ ds) := r.append hd
  have hl : (us ++ ds).length = ps.length := by rw [← r2.length]; exact F.len _ _ _ _ h
  refine wpAny_call (codeAny_mono (F.run X.A X.stack s H ⟨us, []⟩ (us ++ ds) (vs ++ dvs) Q E hr I.env0 (hb s us I.kIn hl) r2 h) fun r s' hq => ?_)
  cases r with
  | error e => exact hx pins σ H s e s' I hq
  | ok fl =>
    cases fl with
    | ret u => exact I.after hq
    | next => exact False.elim hq
    | brk => exact False.elim hq
    | cont => exact False.elim hq
theorem pe_call (F : FnOk X.prog X.w X.K X.mg X.base CX k f fd ps sp) (hr : Room k X.A) (hg : Gl X x) (hm : X.mg x = some (.ref f)) (hk : PySem.W.keepIn X.K (.ref f) = true) (hb : Binds X.K fd ps ds) (hd : Vals dvs ds) (hx : Passes CX X E)
    (ha : PA X (e :: es) t) (hdb : (x == ("__debug__" : Str)) = false := by decide) (he : starEach (e :: es) X.env = (false, eval e X.env) :: starEach es X.env := by rfl) (hpl : (backTo pos (starEach es X.env)).any (·.1) = false := by rfl) :
    PE X (.Call (.Name x p) (e :: es) [] pos) (tCall sp dvs E t) := by
  intro pins s σ H Q I h
  refine wpAny_Call_Name_kw (ld_glob I hg hm ?_ hdb)
  refine PySem.W.callWith_K (h₀ := X.base) I.ok.mod.kin hk (thn (ha pos pins s σ H _ I h) fun us s1 ⟨vs, H1, I1, r, q⟩ => ⟨I1.kIn, ?_⟩) he hpl
  exact run_fn F hr hb hd hx I1 r q
/-- o.m(e, ..) -/
theorem pe_meth {pl : Sem Bool} (he : PE X o ta) (c : Cls X.K C) (hm : Meth X.K C m f) (F : FnOk X.prog X.w X.K X.mg X.base CX k f fd ps sp) (hr : Room k X.A) (hb : Binds X.K fd ps ds) (hd : Vals dvs ds) (hx : Passes CX X E) (ha : PA X (e :: es) t)
    (hst : starEach (e :: es) X.env = (false, eval e X.env) :: starEach es X.env := by rfl) (hpl : (backTo pos (starEach es X.env)).any (·.1) = false := by rfl)
    (ht : eval (.Call (.Attribute o m apos) (e :: es) [] pos) X.env = (do
      let ov ← eval o X.env
      standAt apos.atName
      let (f, first) ← holding [ov] (getMethod ov m pl)
      callWith pos f first (backTo pos (starEach (e :: es) X.env)) (backToKw pos (keywordEach [] X.env))) := by rfl) :
    PE X (.Call (.Attribute o m apos) (e :: es) [] pos) (tMeth C m sp dvs E ta t) := by
  intro pins s σ H Q I h
  refine PySem.W.methodCall_KW (pl := pl) (thn (he pins s σ H _ I h) fun u s1 ⟨x, H1, I1, rx, a, dx, fs, ex, ea, l, q⟩ => ?_) ht
  subst ex
  obtain rfl : u = Value.ref a := rx
  refine getmeth_ok I1 ea c hm l ?_
  refine PySem.W.callWith_K (first := [.ref a]) (h₀ := X.base) I.ok.mod.kin hm.kp (thn (ha pos pins s1 σ H1 _ I1 q) fun us s2 ⟨vs, H2, I2, r, q2⟩ => ⟨I2.kIn, ?_⟩) hst hpl
  exact run_fn (us := .ref a :: us) (vs := .ref a :: vs) F hr hb hd hx I2 (.cons rfl r) q2
/-- o.m() -/
theorem pe_meth0 {pl : Sem Bool} (he : PE X o ta) (c : Cls X.K C) (hm : Meth X.K C m f) (F : FnOk X.prog X.w X.K X.mg X.base CX k f fd ps sp) (hr : Room k X.A) (hb : Binds X.K fd ps ds) (hd : Vals dvs ds) (hx : Passes CX X E)
    (ht : eval (.Call (.Attribute o m apos) [] [] pos) X.env = (do
      let ov ← eval o X.env
      standAt apos.atName
      let (f, first) ← holding [ov] (getMethod ov m pl)
      callWith pos f first (backTo pos (starEach [] X.env)) (backToKw pos (keywordEach [] X.env))) := by rfl) :
    PE X (.Call (.Attribute o m apos) [] [] pos) (tMeth C m sp dvs E ta tNil) := by
  intro pins s σ H Q I h
  refine PySem.W.methodCall_KW (pl := pl) (thn (he pins s σ H _ I h) fun u s1 ⟨x, H1, I1, rx, a, dx, fs, ex, ea, l, q⟩ => ?_) ht
  subst ex
  obtain rfl : u = Value.ref a := rx
  refine getmeth_ok I1 ea c hm l ?_
  exact PySem.W.callWith_K0 (first := [.ref a]) I1.kIn hm.kp (run_fn (us := [.ref a]) (vs := [.ref a]) F hr hb hd hx I1 (.cons rfl .nil) q)
/-- what a class must have to be made -/
structure Mk (K : PySem.W.Frag) (C f : Addr) : Prop where
  makes : PySem.W.makesIn K C = true
  init : PySem.W.findIn K (.ref C) "__init__" = some (some (.ref f))
  fn : PySem.W.isFn K (.ref f) = true
  kp : PySem.W.keepIn K (.ref C) = true
theorem run_make {pins : List (Addr × Obj)} {σ : St} {H : Hp} {s : Shared} {Q : VK} {us : List Value} {vs : List V} (M : Mk X.K C f) (F : FnOk X.prog X.w X.K X.mg X.base CX k f fd ps sp) (hr : Room (k + 1) X.A) (hb : Binds X.K fd ps ds) (hd : Vals dvs ds)
    (hx : Passes CX X E) (I : Inv X pins σ H s) (r : Vals vs us)
    (h : ∀ x dx, H x = none → H dx = none → dx ≠ x → sp (.ref x :: (vs ++ dvs)) (upd (upd H dx (.own x)) x (.ins C dx [])) (fun v H2 => v = .non ∧ Q (.ref x) H2) E) :
    wpAny (model X.prog X.w) X.A (call (.ref C) us) (EP X pins σ Q) X.xe s := by
  have hq := h (s.heap.objs.size + 1) s.heap.objs.size (I.hok.fresh (Nat.le_succ _)) (I.hok.fresh (Nat.le_refl _)) (Nat.ne_of_lt (Nat.lt_succ_self _))
  have I2 := Inv.made (C := C) I
  have r2 : Vals (V.ref (s.heap.objs.size + 1) :: (vs ++ dvs)) (Value.ref (s.heap.objs.size + 1) :: (us ++ ds)) := .cons rfl (r.append hd)
  have hl : (Value.ref (s.heap.objs.size + 1) :: us ++ ds).length = ps.length := by
    have e := r2.length
    rw [F.len _ _ _ _ hq] at e
    exact e.symm
  refine wpAny_call (make_map (f := f) I.kIn M.makes M.init (beq_iff_eq.mp M.fn) (codeAny_mono (F.run _ X.stack _ _ ⟨Value.ref (s.heap.objs.size + 1) :: us, []⟩ (Value.ref (s.heap.objs.size + 1) :: (us ++ ds)) _ _ E (hr.make C us [])
    (I2.env0.make C us []) (hb _ (Value.ref (s.heap.objs.size + 1) :: us) I2.kIn hl) r2 hq) fun r s' hq' => ?_))
  cases r with
  | error e => exact hx pins σ _ _ e s' I2 hq'
  | ok fl =>
    cases fl with
    | ret u =>
      obtain ⟨v, H', I3, rv, ev, q3⟩ := I2.after hq'
      subst ev
      exact ⟨rv, ⟨V.ref (s.heap.objs.size + 1), H', I3, rfl, q3⟩⟩
    | next => exact False.elim hq'
    | brk => exact False.elim hq'
    | cont => exact False.elim hq'
theorem pe_make (M : Mk X.K C f) (F : FnOk X.prog X.w X.K X.mg X.base CX k f fd ps sp) (hr : Room (k + 1) X.A) (hg : Gl X x) (hm : X.mg x = some (.ref C)) (hb : Binds X.K fd ps ds) (hd : Vals dvs ds) (hx : Passes CX X E)
    (ha : PA X (e :: es) t) (hdb : (x == ("__debug__" : Str)) = false := by decide) (he : starEach (e :: es) X.env = (false, eval e X.env) :: starEach es X.env := by rfl) (hpl : (backTo pos (starEach es X.env)).any (·.1) = false := by rfl) :
    PE X (.Call (.Name x p) (e :: es) [] pos) (tMake C sp dvs E t) := by
  intro pins s σ H Q I h
  refine wpAny_Call_Name_kw (ld_glob I hg hm ?_ hdb)
  refine PySem.W.callWith_K (h₀ := X.base) I.ok.mod.kin M.kp (thn (ha pos pins s σ H _ I h) fun us s1 ⟨vs, H1, I1, r, q⟩ => ⟨I1.kIn, ?_⟩) he hpl
  exact run_make M F hr hb hd hx I1 r q
theorem pe_make0 (M : Mk X.K C f) (F : FnOk X.prog X.w X.K X.mg X.base CX k f fd ps sp) (hr : Room (k + 1) X.A) (hg : Gl X x) (hm : X.mg x = some (.ref C)) (hb : Binds X.K fd ps ds) (hd : Vals dvs ds) (hx : Passes CX X E)
    (hdb : (x == ("__debug__" : Str)) = false := by decide) : PE X (.Call (.Name x p) [] [] pos) (tMake C sp dvs E tNil) := by
  intro pins s σ H Q I h
  refine wpAny_Call_Name_kw (ld_glob I hg hm ?_ hdb)
  exact PySem.W.callWith_K0 I.kIn M.kp (run_make (us := []) M F hr hb hd hx I .nil h)
end
section
variable {X : Cx} {CX : CXT} {k : Nat} {f C : Addr} {fd : FuncData} {ps ks : List Str} {sp : Sp} {E : XK} {x m : Str} {p pos apos kpos : Pos} {e o : Expr} {es : List Expr} {kws : List Keyword} {te ta : TE} {t tk : TA} {nm : Option Str}
/-- how a call with keywords binds: g puts the positional values us and the keywords' values ws (names ks) in the parameters' order, defaults among them -/
structure KBinds (K : PySem.W.Frag) (fd : FuncData) (ps ks : List Str) (g : List Value → List Value → List Value) (gV : List V → List V → List V) : Prop where
  to : ∀ (s : Shared) (us ws : List Value), K.In s.heap → (g us ws).length = ps.length → BindsTo s fd ⟨us, ks.zip ws⟩ (ps.zip (g us ws))
  rel : ∀ {vs : List V} {us : List Value} {zs : List V} {ws : List Value}, Vals vs us → Vals zs ws → Vals (gV vs zs) (g us ws)
variable {g : List Value → List Value → List Value} {gV : List V → List V → List V}
end
/-- names: the parameters first -/
structure FnScope (N P : List Str) (sc : Scope) : Prop where
  kind : sc.kind = .function
  co : sc.isCoroutine = false
  gen : sc.isGenerator = false
  nd : N.Nodup
  pre : N.take P.length = P
  par : ∀ x ∈ P, sc.names.lookup x = some .local ∨ sc.names.lookup x = some .cell
  nofree : ∀ y ∈ sc.names, y.2 ≠ .free
theorem bindL_out {kindOf : Str → Option NameKind} {x : Str} : ∀ {binds : List (Str × Value)} {m : Str → Option Value}, (∀ v, (x, v) ∉ binds) → bindL kindOf binds m x = m x
  | [], _, _ => rfl
  | (n, v) :: r, m, h => by
    unfold bindL
    rw [bindL_out fun w hw => h w (List.mem_cons_of_mem _ hw)]
    split
    · have : x ≠ n := by rintro rfl; exact h v List.mem_cons_self
      simp [this]
    · rfl
theorem bindC_out {kindOf : Str → Option NameKind} {x : Str} : ∀ {binds : List (Str × Value)} {m : Str → Option Value}, (∀ v, (x, v) ∉ binds) → bindC kindOf binds m x = m x
  | [], _, _ => rfl
  | (n, v) :: r, m, h => by
    unfold bindC
    rw [bindC_out fun w hw => h w (List.mem_cons_of_mem _ hw)]
    split
    · rfl
    · have : x ≠ n := by rintro rfl; exact h v List.mem_cons_self
      simp [this]
theorem bindL_get {kindOf : Str → Option NameKind} {x : Str} {v : Value} : ∀ {P : List Str} {vs : List Value} {i : Nat} {m : Str → Option Value}, P.Nodup → P[i]? = some x → vs[i]? = some v → kindOf x = some .local →
    bindL kindOf (P.zip vs) m x = some v
  | [], _, _, _, _, h, _, _ => by simp at h
  | _ :: _, [], _, _, _, _, h, _ => by simp at h
  | p :: P, w :: vs, 0, m, nd, h1, h2, hk => by
    simp at h1 h2; subst h1; subst h2
    show bindL kindOf ((p, w) :: P.zip vs) m p = _
    unfold bindL
    rw [bindL_out fun v hv => (List.nodup_cons.mp nd).1 (List.of_mem_zip hv).1, if_pos hk]
    simp
  | p :: P, w :: vs, i + 1, m, nd, h1, h2, hk => by
    show bindL kindOf ((p, w) :: P.zip vs) m x = _
    unfold bindL
    exact bindL_get (i := i) (List.nodup_cons.mp nd).2 (by simpa using h1) (by simpa using h2) hk
theorem bindC_get {kindOf : Str → Option NameKind} {x : Str} {v : Value} : ∀ {P : List Str} {vs : List Value} {i : Nat} {m : Str → Option Value}, P.Nodup → P[i]? = some x → vs[i]? = some v → kindOf x ≠ some .local →
    bindC kindOf (P.zip vs) m x = some v
  | [], _, _, _, _, h, _, _ => by simp at h
  | _ :: _, [], _, _, _, _, h, _ => by simp at h
  | p :: P, w :: vs, 0, m, nd, h1, h2, hk => by
    simp at h1 h2; subst h1; subst h2
    show bindC kindOf ((p, w) :: P.zip vs) m p = _
    unfold bindC
    rw [bindC_out fun v hv => (List.nodup_cons.mp nd).1 (List.of_mem_zip hv).1, if_neg hk]
    simp
  | p :: P, w :: vs, i + 1, m, nd, h1, h2, hk => by
    show bindC kindOf ((p, w) :: P.zip vs) m x = _
    unfold bindC
    exact bindC_get (i := i) (List.nodup_cons.mp nd).2 (by simpa using h1) (by simpa using h2) hk
/-- the names' values at the entry -/
def start (N : List Str) (vs : List V) : St := vs.map some ++ List.replicate (N.length - vs.length) none
/-- the context of a def's body, at its entry; an exception leaves the frame, then lies as CX says -/
def cxOf (CX : CXT) (P : Program) (w : World) (K : PySem.W.Frag) (mg : Str → Option Value) (base : Heap) (N : List Str) (qual : Str) (scope : Scope) (f : Addr) (cd : Value) (A : Around) (outer : List Env) (s : Shared) (H : Hp) (E : XK) : Cx where
  prog := P
  w := w
  K := K
  mg := mg
  base := base
  A := A.deeper (envOfC qual scope s.heap.objs.size f cd)
  N := N
  s_0 := s
  H_0 := H
  env := envOfC qual scope s.heap.objs.size f cd
  outer := outer
  stack := envOfC qual scope s.heap.objs.size f cd :: outer
  ex := []
  calm := true
  fn := fun _ => true
  pn := []
  xe := fun e s' => wpAny (model P w) (A.deeper (envOfC qual scope s.heap.objs.size f cd)) (leaving (envOfC qual scope s.heap.objs.size f cd) e) (fun _ s'' => CX outer H s E e s'') (fun e' s'' => CX outer H s E e' s'') s'
theorem cell_has {sc : Scope} {n : Nat} {x : Str} (h : sc.names.lookup x = some .cell) : ∃ c, (cellsFrom n sc.names []).lookup x = some c := by
  have q := PySem.W.cellsFrom_some sc.names n [] (.inl h)
  exact Option.isSome_iff_exists.mp q
theorem inv_start {CX : CXT} {P : Program} {w : World} {K : PySem.W.Frag} {mg : Str → Option Value} {base : Heap} {N ps : List Str} {qual : Str} {scope : Scope} {f : Addr} {cd : Value} {A : Around} {outer : List Env} {s s1 : Shared} {H : Hp} {E : XK} {us : List Value} {vs : List V}
    (S : FnScope N ps scope) (hd : A.handled = none) (e0 : Env0 P w K mg base A outer s H) (hl : vs.length = ps.length) (r : Vals vs us)
    (x : InCallC s s.heap.objs.size (bindL (envOfC qual scope s.heap.objs.size f cd).kindOf (ps.zip us) fun _ => none) (cellsFrom (s.heap.objs.size + 1) scope.names []) (bindC (envOfC qual scope s.heap.objs.size f cd).kindOf (ps.zip us) fun _ => none) s1) :
    Inv (cxOf CX P w K mg base N qual scope f cd A outer s H E) [] (start N vs) H s1 := by
  have hpl : ps.length ≤ N.length := by have := congrArg List.length S.pre; rw [List.length_take] at this; omega
  obtain ⟨h1, tk, rfl, hk⟩ := x.done
  have noA : ∀ b : Addr, b ∉ (cxOf CX P w K mg base N qual scope f cd A outer s H E).ex := fun b z => absurd (show b ∈ ([] : List Addr) from z) (by simp)
  refine ⟨⟨e0.mod, S.kind, rfl, rfl, Nat.le_refl _, fun y z c h1 h2 => ?_, fun y hy => ?_, fun y c _ h => ?_, fun _ => hd, Around.frames_deeper e0.frames, .inr ⟨rfl, rfl⟩, fun b z => absurd z (noA b), e0.bs, e0.bsz, fun b _ _ => noA b, fun b z => absurd z (noA b), e0.funs, e0.frf⟩,
    rfl, e0.bare, Un.kept hk, ⟨_, x.toInCall.ns, fun i y v h1 h2 h3 => ?_⟩, fun y c h => ⟨_, x.cell y c h⟩, e0.hok.fresh (Nat.le_refl _), fun y c h => ?_, fun p hp => absurd (show p ∈ ([] : List (Addr × Obj)) from hp) (by simp), e0.hok.kept hk, ?_⟩
  · exact name_of_addr x.apart (PySem.mem_of_lookup h1) (PySem.mem_of_lookup h2)
  · have hy : scope.names.lookup y = some .cell ∨ scope.names.lookup y = some .free := hy
    rcases hy with hy | hy
    · exact cell_has hy
    · exact absurd rfl (S.nofree _ (PySem.mem_of_lookup hy))
  · exact Nat.le_of_lt (x.above y c (PySem.mem_of_lookup h))
  · have hi : i < vs.length := by
      unfold start at h2
      by_cases hi : i < vs.length
      · exact hi
      · rw [List.getElem?_append_right (by simpa using hi)] at h2
        rw [List.getElem?_replicate] at h2
        split at h2 <;> cases h2
    have ha : vs[i]? = some v := by
      unfold start at h2
      rw [List.getElem?_append_left (by simpa using hi), List.getElem?_map] at h2
      cases e : vs[i]? with
      | none => rw [e] at h2; cases h2
      | some a => rw [e] at h2; cases h2; rfl
    obtain ⟨u, hu, rv⟩ := r.get ha
    have hp : ps[i]? = some y := by
      rw [← S.pre, List.getElem?_take_of_lt (by omega)]; exact h1
    have ndP : ps.Nodup := by rw [← S.pre]; exact S.nd.sublist (List.take_sublist _ _)
    refine ⟨u, rv, ?_⟩
    rcases S.par y (List.mem_of_getElem? hp) with k | k
    · exact .inl ⟨k, bindL_get ndP hp hu k⟩
    · obtain ⟨c, e⟩ := cell_has (n := s.heap.objs.size + 1) k
      refine .inr ⟨.inl k, c, e, ?_⟩
      have q := x.cell y c e
      rw [bindC_get ndP hp hu (by show scope.names.lookup y ≠ _; rw [k]; decide)] at q
      exact q
  · exact e0.hok.fresh (Nat.le_of_lt (x.above y c (PySem.mem_of_lookup h)))
  · unfold start
    show _ = N.length
    rw [List.length_append, List.length_map, List.length_replicate]
    omega
/-- THE RULE: a def (or a method) of the text, by its body. The body's reading t is chosen for each entry; it is run at the parameters' values -/
theorem fn_of {CX : CXT} {P : Program} {w : World} {K : PySem.W.Frag} {mg : Str → Option Value} {base : Heap} {k : Nat} {f : Addr} {name qual : Str} {params : Arguments} {body : List Stmt} {scope : Scope} {dV kV doc pm cdv ct oc : Value} {an od : Option Addr}
    {osl : Array (Option Value)} {N ps : List Str} {sp : Sp} (lk : K.lookup f = some ⟨oc, od, .func (PySem.W.fnOf name qual params body scope dV kV doc pm an cdv ct), osl⟩) (hcd : PySem.W.codeIn K cdv qual = true) (S : FnScope N ps scope)
    (len : ∀ vs H Q E, sp vs H Q E → vs.length = ps.length)
    (hbody : ∀ (A : Around) (outer : List Env) (s : Shared) (H : Hp) (vs : List V) (Q : VK) (E : XK), Room k (A.deeper (envOfC qual scope s.heap.objs.size f cdv)) → sp vs H Q E →
      ∃ t, PSs (cxOf CX P w K mg base N qual scope f cdv A outer s H E) body t ∧ t { nx := fun _ H' => Q .non H', rt := Q } (start N vs) H) :
    FnOk P w K mg base CX (k + 1) f (PySem.W.fnOf name qual params body scope dV kV doc pm an cdv ct) ps sp := by
  refine ⟨len, fun A outer s H args us vs Q E hr e0 hb r hsp => ?_⟩
  have hl := len _ _ _ _ hsp
  have KX : K.In s.heap := e0.mod.kin.keeps fun b o e => (e0.bs b o e).1
  have lim : s.heap.NoLimit := e0.mod.nolimit.keeps fun b o e => (e0.bs b o e).1
  have hkind : ∀ y ∈ ps.zip us, scope.names.lookup y.1 = some .local ∨ (scope.names.lookup y.1 = some .cell ∧ ((cellsFrom (s.heap.objs.size + 1) scope.names []).lookup y.1).isSome = true) := fun ⟨n, v⟩ hy => by
    rcases S.par n (List.of_mem_zip hy).1 with q | q
    · exact .inl q
    · exact .inr ⟨q, PySem.W.cellsFrom_some _ _ _ (.inl q)⟩
  refine codeAny_call_function hr.depth (KX _ _ lk) rfl S.co S.gen rfl (PySem.W.codeRec_of KX hcd) (hb _ _ _ _ ?_)
  refine wpAny_newFunctionEnv_cells S.kind hkind fun env he s1 x => ?_
  subst he
  refine ⟨lim.keeps x.toInCall.keep, codeAny_func ?_⟩
  obtain ⟨t, ht, hq⟩ := hbody A outer s H vs Q E (hr.deeper _) hsp
  have I : Inv (cxOf CX P w K mg base N qual scope f cdv A outer s H E) [] (start N vs) H s1 := inv_start S hr.hd e0 hl r x
  refine wpAny_mono (ht [] s1 (start N vs) H _ I hq) (fun fl s' hs => ?_) fun e s' hs => hs
  have fin : ∀ {σ' : St} {H' : Hp} {v : V} {u : Value}, Inv (cxOf CX P w K mg base N qual scope f cdv A outer s H E) [] σ' H' s' → RelV v u → Q v H' → CE outer P w H s Q u s' :=
    fun {σ' H' v u} J rv q => ⟨v, H', J.os, J.bare, J.base, J.hok, rv, q⟩
  cases fl with
  | ret u =>
    obtain ⟨v, σ', H', J, rv, q⟩ := hs
    exact fin J rv q
  | next =>
    obtain ⟨σ', H', J, q⟩ := hs
    exact fin (v := V.non) (u := Value.none) J rfl q
  | brk =>
    obtain ⟨_, _, _, q⟩ := hs
    exact False.elim q
  | cont =>
    obtain ⟨_, _, _, q⟩ := hs
    exact False.elim q
end L2
namespace L2
open PySem PySem.Spec PyProof.Rows
section
variable {X : Cx} {x : Str} {p pos : Pos} {e : Expr} {es : List Expr} {t : TA} {id T : String} {r : List V → Hp → VK → Prop}
def tCB (r : List V → Hp → VK → Prop) (t : TA) : TE := fun σ H Q => t σ H fun vs H1 => r vs H1 Q
/-- f(e, ..), f a built-in function -/
theorem pe_callB (hc : CallR X (.builtin id) r) (hg : Gl X x) (hm : X.mg x = none) (hv : bootBuiltins x = some (.builtin id)) (ha : PA X (e :: es) t) (hn : x ≠ "__name__" := by decide) (hdb : (x == ("__debug__" : Str)) = false := by decide)
    (he : starEach (e :: es) X.env = (false, eval e X.env) :: starEach es X.env := by rfl) (hpl : (backTo pos (starEach es X.env)).any (·.1) = false := by rfl) : PE X (.Call (.Name x p) (e :: es) [] pos) (tCB r t) := by
  intro pins s σ H Q I h
  refine wpAny_Call_Name_kw (ld_blt I hg hm hv ?_ hn hdb)
  exact PyProof.Rows.callWith_builtin1 (thn (ha pos pins s σ H _ I h) fun us s1 ⟨vs, H1, I1, r1, q1⟩ => hc pins s1 σ H1 vs us Q I1 r1 q1) he hpl
/-- T(e, ..), T a built-in type -/
theorem pe_callTy (hc : CallR X (.type T) r) (hg : Gl X x) (hm : X.mg x = none) (hv : bootBuiltins x = some (.type T)) (ha : PA X (e :: es) t) (hn : x ≠ "__name__" := by decide) (hdb : (x == ("__debug__" : Str)) = false := by decide)
    (he : starEach (e :: es) X.env = (false, eval e X.env) :: starEach es X.env := by rfl) (hpl : (backTo pos (starEach es X.env)).any (·.1) = false := by rfl) : PE X (.Call (.Name x p) (e :: es) [] pos) (tCB r t) := by
  intro pins s σ H Q I h
  refine wpAny_Call_Name_kw (ld_blt I hg hm hv ?_ hn hdb)
  exact PyProof.Rows.callWith_type1 (thn (ha pos pins s σ H _ I h) fun us s1 ⟨vs, H1, I1, r1, q1⟩ => hc pins s1 σ H1 vs us Q I1 r1 q1) he hpl
end
end L2
namespace HT
open PySem PyProof.Rows
/-- t < u of tuples of ints -/
def lexLt : List Int → List Int → Bool
  | [], [] => false
  | [], _ :: _ => true
  | _ :: _, [] => false
  | x :: xs, y :: ys => if x = y then lexLt xs ys else decide (x < y)
theorem lexLt_cons (x y : Int) (xs ys : List Int) : lexLt (x :: xs) (y :: ys) = if x = y then lexLt xs ys else decide (x < y) := rfl
theorem lexLt_nil_nil : lexLt [] [] = false := rfl
theorem lexLt_nil_cons (y : Int) (ys : List Int) : lexLt [] (y :: ys) = true := rfl
theorem lexLt_cons_nil (x : Int) (xs : List Int) : lexLt (x :: xs) [] = false := rfl
theorem eqAt_int (A : Around) (s : Shared) (a : Int) (t : Tok) (c : Int) (u : Tok) : ∃ e, SeqAt.EqAt A s (.int a t) (.int c u) e ∧ (e = true ↔ a = c) :=
  ⟨(a == c), SeqAt.EqAt.int_int a t c u, by simp⟩
theorem rcLt_int (A : Around) (s : Shared) (a : Int) (t : Tok) (c : Int) (u : Tok) (prog : Program) (w : World) (E : Value → Shared → Prop) (Q : Value → Shared → Prop) (h : Q (.bool (decide (a < c))) s) :
    wpAny (model prog w) A (richCompare .Lt (.int a t) (.int c u)) Q E s :=
  (PyProof.Rows.lt_int h : wpAny (model prog w) A (compareOp .Lt (.int a t) (.int c u)) Q E s)
section
open PySem.SeqAt
open PySem.AutoSeq1 (wpAny_loadPart')
open PySem.MeetsSeq PySem.MeetsSeq2 PySem.MeetsSeq3
end
section
variable {prog : Program} {w : World} {A : Around} {E : Value → Shared → Prop} {s : Shared}
/-- a slice's bound as a place among n (d where it is left out) -/
def sIx (n d : Nat) : Option Int → Nat
  | none => d
  | some v => if v < 0 then (v + (n : Int)).toNat else min v.toNat n
theorem sIx_nat (n d k : Nat) : sIx n d (some (k : Int)) = min k n := by
  show (if (k : Int) < 0 then ((k : Int) + (n : Int)).toNat else min (k : Int).toNat n) = min k n
  rw [if_neg (by omega), Int.toNat_natCast]
end
end HT
namespace L2
open PySem PySem.Spec PyProof.Rows
abbrev TO := St → Hp → (Option Int → Hp → Prop) → Prop
/-- a slice's part (left out, or an int) -/
def PO (X : Cx) (e : Option Expr) (t : TO) : Prop :=
  ∀ (pins : List (Addr × Obj)) (s : Shared) (σ : St) (H : Hp) (Q : Option Int → Hp → Prop), Inv X pins σ H s → t σ H Q →
    wpAny (model X.prog X.w) X.A (evalPart e X.env) (fun u s' => ∃ o H', Inv X pins σ H' s' ∧ IsPart u o ∧ Q o H') X.xe s
def tNoPart : TO := fun _ H Q => Q none H
def tPart (t : TE) : TO := fun σ H Q => t σ H fun x H1 => ∃ i, x = .int i ∧ Q (some i) H1
section
variable {X : Cx} {e : Expr} {te : TE} {lo hi : Option Expr} {tl th : TO} {pos p2 : Pos}
theorem po_some (h : PE X e te) : PO X (some e) (tPart te) := by
  intro pins s σ H Q I hw
  rw [evalPart_some]
  refine thn (h pins s σ H _ I hw) fun u s1 ⟨x, H1, I1, r1, q1⟩ => ?_
  obtain ⟨i, rfl, q⟩ := q1
  obtain ⟨t, rfl⟩ := r1
  exact ⟨some i, H1, I1, .int i t, q⟩
/-- what a slice of a value is, by values: the slice object stands at sl -/
def SlR (X : Cx) (r : V → Option Int → Option Int → Hp → VK → Prop) : Prop :=
  ∀ (pins : List (Addr × Obj)) (s : Shared) (σ : St) (H : Hp) (x : V) (v vl vu : Value) (lo hi : Option Int) (sl : Addr) (Q : VK), Inv X pins σ H s → RelV x v → s.heap.IsSliceOf sl vl vu .none → IsPart vl lo → IsPart vu hi → r x lo hi H Q →
    ∃ T id, typeLookup (.type T) "__getitem__" = pure (some (.builtin id)) ∧ s.TypeIs v T ∧ wpAny (model X.prog X.w) X.A (getItem v (.ref sl)) (EP X pins σ Q) X.xe s
theorem SlR.or {r r' : V → Option Int → Option Int → Hp → VK → Prop} (h : SlR X r) (h' : SlR X r') : SlR X (fun x lo hi H Q => r x lo hi H Q ∨ r' x lo hi H Q) := by
  intro pins s σ H x v vl vu lo hi sl Q I rx hs pl pu q
  rcases q with q | q
  · exact h pins s σ H x v vl vu lo hi sl Q I rx hs pl pu q
  · exact h' pins s σ H x v vl vu lo hi sl Q I rx hs pl pu q
def tSl (r : V → Option Int → Option Int → Hp → VK → Prop) (te : TE) (tl th : TO) : TE := fun σ H Q => te σ H fun x H1 => tl σ H1 fun l H2 => th σ H2 fun u H3 => r x l u H3 Q
/-- a[lo:hi], any a -/
theorem pe_slice {r : V → Option Int → Option Int → Hp → VK → Prop} (hr : SlR X r) (he : PE X e te) (hl : PO X lo tl) (hu : PO X hi th) : PE X (.Subscript e (.Slice lo hi none p2) pos) (tSl r te tl th) := by
  intro pins s σ H Q I h
  refine Subscript_ (thn (he pins s σ H _ I h) fun v s1 ⟨x, H1, I1, r1, q1⟩ => ?_)
  refine wpAny_Slice (thn (hl pins s1 σ H1 _ I1 q1) fun vl s2 ⟨l, H2, I2, pl, q2⟩ => thn (hu pins s2 σ H2 _ I2 q2) fun vu s3 ⟨u, H3, I3, pu, q3⟩ => ?_)
  rw [evalPart_none]
  refine wpAny_pure ?_
  have I4 : Inv X pins σ H3 { s3 with heap := s3.heap.push { cls := .type "slice", data := .fields #[vl, vu, .none] } } := I3.kept (t' := s3.toks) fun b ob q => Heap.get?_push_of_some _ q
  obtain ⟨T, id, hT, ht, hg⟩ := hr pins { s3 with heap := s3.heap.push { cls := .type "slice", data := .fields #[vl, vu, .none] } } σ H3 x v vl vu l u s3.heap.objs.size Q I4 r1 (Heap.IsSliceOf.new ..) pl pu q3
  show wpAny (model X.prog X.w) X.A (subscriptTail e (.Slice lo hi none p2) v (.ref s3.heap.objs.size)) (EP X pins σ Q) X.xe { s3 with heap := s3.heap.push { cls := .type "slice", data := .fields #[vl, vu, .none] } }
  exact tail_any (ops := [.ref s3.heap.objs.size, v]) ht hT hg (by with_unfolding_all rfl)
/-- the items of xs[lo:hi] -/
def cutV (xs : List V) (lo hi : Option Int) : List V := (xs.drop (HT.sIx xs.length 0 lo)).take (HT.sIx xs.length xs.length hi - HT.sIx xs.length 0 lo)
theorem cutV_length (xs : List V) (lo hi : Option Int) : (cutV xs lo hi).length ≤ xs.length := by
  unfold cutV
  rw [List.length_take, List.length_drop]
  omega
end
end L2
namespace L2
open PySem PySem.Spec PyProof.Rows
/-- the place that an index of any sign means -/
def ixN (n : Nat) (i : Int) : Option Nat := if 0 ≤ i then (if i < n then some i.toNat else none) else if -(n : Int) ≤ i then some (i + n).toNat else none
def atI {α : Type} (xs : List α) (i : Int) : Option α := (ixN xs.length i).bind fun j => xs[j]?
theorem ixN_seq {n : Nat} {i : Int} {j : Nat} (h : ixN n i = some j) : seqIndex? i n = some j ∧ j < n ∧ -(n : Int) ≤ i ∧ i < n := by
  unfold ixN at h
  by_cases h0 : 0 ≤ i
  · rw [if_pos h0] at h
    by_cases h1 : i < n
    · rw [if_pos h1] at h
      have e : i.toNat = j := Option.some.inj h
      exact ⟨by rw [seqIndex_of h0 h1, e], by omega, by omega, h1⟩
    · rw [if_neg h1] at h; cases h
  · rw [if_neg h0] at h
    by_cases h1 : -(n : Int) ≤ i
    · rw [if_pos h1] at h
      have e : (i + n).toNat = j := Option.some.inj h
      exact ⟨by rw [seqIndex_neg (by omega) h1, e], by omega, h1, by omega⟩
    · rw [if_neg h1] at h; cases h
theorem atI_get {α : Type} {xs : List α} {i : Int} {v : α} (h : atI xs i = some v) : ∃ j, seqIndex? i xs.length = some j ∧ xs[j]? = some v ∧ j < xs.length ∧ -(xs.length : Int) ≤ i ∧ i < xs.length := by
  unfold atI at h
  cases e : ixN xs.length i with
  | none => rw [e] at h; cases h
  | some j =>
    rw [e] at h
    obtain ⟨h1, h2, h3, h4⟩ := ixN_seq e
    exact ⟨j, h1, h, h2, h3, h4⟩
theorem atI_nat {α : Type} {xs : List α} {j : Nat} {v : α} (h : xs[j]? = some v) : atI xs (j : Int) = some v := by
  have hj : j < xs.length := (List.getElem?_eq_some_iff.mp h).1
  have e : ixN xs.length (j : Int) = some j := by
    unfold ixN
    rw [if_pos (by omega), if_pos (by omega)]; simp
  unfold atI; rw [e]; exact h
/-- what stands as an index of a plain subscript -/
def PlainIx (b : Expr) : Prop := ∀ o i, subscripted b false o i = operate [o, i] (getItem o i)
/-- a subscript by values -/
def IxR (X : Cx) (r : R2) : Prop :=
  ∀ (value slice : Expr) (pins : List (Addr × Obj)) (s : Shared) (σ : St) (H : Hp) (x y : V) (v u : Value) (Q : VK), Inv X pins σ H s → RelV x v → RelV y u → r x y H Q →
    subscripted slice false v u = operate [v, u] (getItem v u) → wpAny (model X.prog X.w) X.A (subscriptTail value slice v u) (EP X pins σ Q) X.xe s
/-- a call of a builtin's method by values: the receiver, the arguments -/
def MtR (X : Cx) (id : String) (r : V → List V → Hp → VK → Prop) : Prop :=
  ∀ (pins : List (Addr × Obj)) (s : Shared) (σ : St) (H : Hp) (x : V) (xs : List V) (v : Value) (us : List Value) (Q : VK), Inv X pins σ H s → RelV x v → Vals xs us → r x xs H Q →
    wpAny (model X.prog X.w) X.A (call (.builtin id) (v :: us)) (EP X pins σ Q) X.xe s
section
variable {X : Cx} {a b : Expr} {ta tb : TE} {pos : Pos}
theorem IxR.or {r r' : R2} (h : IxR X r) (h' : IxR X r') : IxR X (fun x y H Q => r x y H Q ∨ r' x y H Q) := by
  intro value slice pins s σ H x y v u Q I rx ry q hs
  rcases q with q | q
  · exact h value slice pins s σ H x y v u Q I rx ry q hs
  · exact h' value slice pins s σ H x y v u Q I rx ry q hs
theorem MtR.or {id : String} {r r' : V → List V → Hp → VK → Prop} (h : MtR X id r) (h' : MtR X id r') : MtR X id (fun x xs H Q => r x xs H Q ∨ r' x xs H Q) := by
  intro pins s σ H x xs v us Q I rx rs q
  rcases q with q | q
  · exact h pins s σ H x xs v us Q I rx rs q
  · exact h' pins s σ H x xs v us Q I rx rs q
/-- a[b] -/
theorem pe_ix {r : R2} (hr : IxR X r) (ha : PE X a ta) (hb : PE X b tb) (hs : PlainIx b) : PE X (.Subscript a b pos) (tOp r ta tb) := by
  intro pins s σ H Q I h
  exact Subscript_ (binT ha hb I h fun v u s2 x y H2 I2 rx ry q => hr a b pins s2 σ H2 x y v u Q I2 rx ry q (hs _ _))
def rIxL (K : PySem.W.Frag) : R2 := fun x y H Q => ∃ p xs i v, x = .ref p ∧ y = .int i ∧ SqL K H p xs ∧ atI xs i = some v ∧ Q v H
def rIxT (K : PySem.W.Frag) : R2 := fun x y H Q => ∃ p xs i v, x = .ref p ∧ y = .int i ∧ SqT K H p xs ∧ atI xs i = some v ∧ Q v H
theorem ix_list : IxR X (rIxL X.K) := by
  intro value slice pins s σ H x y v u Q I rx ry h hs
  obtain ⟨p, xs, i, z, rfl, rfl, hq, he, q⟩ := h
  cases rx
  obtain ⟨t, rfl⟩ := ry
  obtain ⟨its, r, pl, hz⟩ := I.list hq
  obtain ⟨j, h1, h2, h3, h4, h5⟩ := atI_get he
  obtain ⟨w, ew, rw'⟩ := r.get h2
  have hl := r.length
  have hn := line63
  have fin : EP X pins σ Q w s := ⟨z, H, I, rw', q⟩
  by_cases h0 : 0 ≤ i
  · have hj : i.toNat = j := by
      rw [seqIndex_of h0 h5] at h1
      exact Option.some.inj h1
    exact item_listR pl.isList h0 (by omega) (by rw [hj]; simpa using ew) fin hs
  · have hj : (i + (its.toArray.size : Int)).toNat = j := by
      rw [seqIndex_neg (by omega) h4] at h1
      rw [List.size_toArray, ← hl]
      exact Option.some.inj h1
    exact subscriptTail_builtinR (x := w) pl.isList.typeIs slot_list_getitem.lookup
      (wpAny_getItem_list_neg (Q := fun r s' => r = w ∧ EP X pins σ Q r s') pl.isList (by omega) (by rw [List.size_toArray] <;> omega) (by omega) (by rw [hj]; simpa using ew) ⟨rfl, fin⟩) hs
theorem ix_tup : IxR X (rIxT X.K) := by
  intro value slice pins s σ H x y v u Q I rx ry h hs
  obtain ⟨p, xs, i, z, rfl, rfl, hq, he, q⟩ := h
  cases rx
  obtain ⟨t, rfl⟩ := ry
  obtain ⟨its, r, pl, hz⟩ := I.tuple hq
  obtain ⟨j, h1, h2, h3, h4, h5⟩ := atI_get he
  obtain ⟨w, ew, rw'⟩ := r.get h2
  have hl := r.length
  have hn := line63
  have fin : EP X pins σ Q w s := ⟨z, H, I, rw', q⟩
  exact subscriptTail_builtinR (x := w) pl.typeIs slot_tuple_getitem.lookup
    (getItem_tuple (j := j) (Q := fun r s' => r = w ∧ EP X pins σ Q r s') pl (by omega) (by omega) (by rw [List.size_toArray, ← hl]; exact h1) (by simpa using ew) ⟨rfl, fin⟩) hs
theorem Inv.lst {pins : List (Addr × Obj)} {σ : St} {H : Hp} {s : Shared} {p : Addr} {xs : List V} (I : Inv X pins σ H s) (h : H p = some (.lst xs)) :
    ∃ (its : List Value) (n : Nat), Vals xs its ∧ s.heap.get? p = some { cls := .type "list", data := .seq its.toArray n } ∧ xs.length ≤ sizeLine := by
  obtain ⟨z, its, n, r, e⟩ := I.hok p _ h
  exact ⟨its, n, r, e, z⟩
theorem slice_bounds (lo hi : Option Int) (n : Nat) : (sliceBounds lo hi none n).1 = ((HT.sIx n 0 lo : Nat) : Int) ∧ (sliceBounds lo hi none n).2.1 = ((HT.sIx n n hi : Nat) : Int) ∧ (sliceBounds lo hi none n).2.2 = 1 := by
  refine ⟨?_, ?_, rfl⟩
  · cases lo with
    | none => simp [sliceBounds, HT.sIx]
    | some i =>
      simp only [sliceBounds, HT.sIx, Option.getD_none, show (1 : Int) > 0 by decide, if_true]
      by_cases h : i < 0
      · simp only [h, if_true] <;> omega
      · simp only [h, if_false] <;> omega
  · cases hi with
    | none => simp [sliceBounds, HT.sIx]
    | some i =>
      simp only [sliceBounds, HT.sIx, Option.getD_none, show (1 : Int) > 0 by decide, if_true]
      by_cases h : i < 0
      · simp only [h, if_true] <;> omega
      · simp only [h, if_false] <;> omega
theorem slicePick_cut (its : List Value) (lo hi : Option Int) : slicePick its.toArray lo hi none = ((its.drop (HT.sIx its.length 0 lo)).take (HT.sIx its.length its.length hi - HT.sIx its.length 0 lo)).toArray := by
  obtain ⟨h1, h2, h3⟩ := slice_bounds lo hi its.toArray.size
  unfold slicePick
  rw [h1, h2, h3]
  simp only [sliceRange_one, pick_run, List.size_toArray] <;> rfl
/-- xs[lo:hi] of a list: a new list -/
def rSlL (K : PySem.W.Frag) : V → Option Int → Option Int → Hp → VK → Prop := fun x lo hi H Q => ∃ a xs, x = .ref a ∧ SqL K H a xs ∧ ∀ p, H p = none → Q (.ref p) (upd H p (.lst (cutV xs lo hi)))
theorem sl_list : SlR X (rSlL X.K) := by
  intro pins s σ H x v vl vu lo hi sl Q I rx hs pl pu h
  obtain ⟨a, xs, rfl, hx, q⟩ := h
  cases rx
  obtain ⟨its, r, ht, hz⟩ := I.list hx
  have hlen := r.length
  refine ⟨"list", _, slot_list_getitem.lookup, ht.isList.typeIs, ?_⟩
  refine wpAny_getItem_list_slice ht.isList hs pl pu .none (by simp) ?_ (by rw [List.size_toArray] <;> omega)
  rw [slicePick_cut, ← hlen]
  refine ⟨.ref s.heap.objs.size, _, I.laid (t' := s.toks) (o := .lst (cutV xs lo hi)) (fun b ob q => Heap.get?_push_of_some _ q) (Nat.le_refl _) ?_, rfl, q _ (I.hok.fresh (Nat.le_refl _))⟩
  exact ⟨Nat.le_trans (cutV_length xs lo hi) hz, _, 0, (r.drop (HT.sIx xs.length 0 lo)).take (HT.sIx xs.length xs.length hi - HT.sIx xs.length 0 lo), Heap.get?_push_size _ rfl⟩
def flatV : V → Bool
  | .non => true
  | .bl _ => true
  | .int _ => true
  | .str _ => true
  | _ => false
/-- == of flat values -/
def eqV : V → V → Bool
  | .non, .non => true
  | .bl a, .bl b => a == b
  | .bl a, .int b => (if a then 1 else 0) == b
  | .int a, .bl b => a == (if b then 1 else 0)
  | .int a, .int b => a == b
  | .str a, .str b => a == b
  | _, _ => false
theorem eqAt_V {A : Around} {s : Shared} {y x : V} {u v : Value} (ry : RelV y u) (rx : RelV x v) (fy : flatV y = true) (fx : flatV x = true) : SeqAt.EqAt A s u v (eqV y x) := by
  cases y with
  | non =>
    cases ry
    cases x with
    | non => cases rx; exact SeqAt.EqAt.same _
    | bl b => cases rx; exact SeqAt.EqAt.none_bool b
    | int b => obtain ⟨t, rfl⟩ := rx; exact SeqAt.EqAt.none_int b t
    | str b => obtain ⟨t, rfl⟩ := rx; exact SeqAt.EqAt.none_str b t
    | _ => exact absurd (show false = true from fx) Bool.false_ne_true
  | bl a =>
    cases ry
    cases x with
    | non => cases rx; exact SeqAt.EqAt.bool_none a
    | bl b => cases rx; exact SeqAt.EqAt.bool_bool a b
    | int b => obtain ⟨t, rfl⟩ := rx; exact SeqAt.EqAt.bool_int a b t
    | str b => obtain ⟨t, rfl⟩ := rx; exact SeqAt.EqAt.bool_str a b t
    | _ => exact absurd (show false = true from fx) Bool.false_ne_true
  | int a =>
    obtain ⟨t', rfl⟩ := ry
    cases x with
    | non => cases rx; exact SeqAt.EqAt.int_none a t'
    | bl b => cases rx; exact SeqAt.EqAt.int_bool a t' b
    | int b => obtain ⟨t, rfl⟩ := rx; exact SeqAt.EqAt.int_int a t' b t
    | str b => obtain ⟨t, rfl⟩ := rx; exact SeqAt.EqAt.int_str a t' b t
    | _ => exact absurd (show false = true from fx) Bool.false_ne_true
  | str a =>
    obtain ⟨t', rfl⟩ := ry
    cases x with
    | non => cases rx; exact SeqAt.EqAt.str_none a t'
    | bl b => cases rx; exact SeqAt.EqAt.str_bool a t' b
    | int b => obtain ⟨t, rfl⟩ := rx; exact SeqAt.EqAt.str_int a t' b t
    | str b => obtain ⟨t, rfl⟩ := rx; exact SeqAt.EqAt.str_str a t' b t
    | _ => exact absurd (show false = true from fx) Bool.false_ne_true
  | _ => exact absurd (show false = true from fy) Bool.false_ne_true
/-- the items' answers, read off the values (a value's own answer does not lean on its token) -/
def eqU (x : V) (u : Value) : Bool := match u with
  | .none => eqV .non x
  | .bool b => eqV (.bl b) x
  | .int i _ => eqV (.int i) x
  | .str z _ => eqV (.str z) x
  | _ => false
theorem eqU_of {x y : V} {u : Value} (r : RelV y u) (f : flatV y = true) : eqU x u = eqV y x := by
  cases y with
  | non => cases r; rfl
  | bl b => cases r; rfl
  | int i => obtain ⟨t, rfl⟩ := r; rfl
  | str z => obtain ⟨t, rfl⟩ := r; rfl
  | _ => exact absurd (show false = true from f) Bool.false_ne_true
theorem any_eqU {x : V} : ∀ {xs : List V} {us : List Value}, Vals xs us → xs.all flatV = true → us.any (eqU x) = xs.any fun y => eqV y x
  | _, _, .nil, _ => rfl
  | y :: xs, u :: us, .cons r t, f => by
    rw [List.all_cons, Bool.and_eq_true] at f
    rw [List.any_cons, List.any_cons, eqU_of r f.1, any_eqU t f.2]
theorem mem_eqAt {A : Around} {s : Shared} {x : V} {v : Value} (rx : RelV x v) (fx : flatV x = true) : ∀ {xs : List V} {us : List Value}, Vals xs us → xs.all flatV = true → ∀ u ∈ us, SeqAt.EqAt A s u v (eqU x u)
  | _, _, .nil, _ => fun u hu => by cases hu
  | y :: xs, u :: us, .cons r t, f => fun u' hu => by
    rw [List.all_cons, Bool.and_eq_true] at f
    rcases List.mem_cons.mp hu with rfl | hu
    · rw [eqU_of r f.1]; exact eqAt_V r rx f.1 fx
    · exact mem_eqAt rx fx t f.2 u' hu
def inV (x : V) (xs : List V) : Bool := xs.any fun y => eqV y x
/-- x in a list or tuple of flat items -/
def rIn (K : PySem.W.Frag) (neg : Bool) : R2 := fun x y H Q => ∃ p xs, y = .ref p ∧ (SqL K H p xs ∨ SqT K H p xs) ∧ flatV x = true ∧ xs.all flatV = true ∧ Q (.bl (if neg then !inV x xs else inV x xs)) H
theorem op_in_seq : OpR X (compareOp .In) (rIn X.K false) := by
  intro pins s σ H x y v u Q I rx ry h
  obtain ⟨p, xs, rfl, hq, fx, fs, q⟩ := h
  cases ry
  rcases hq with hq | hq
  · obtain ⟨its, r, pl, hz⟩ := I.list hq
    refine SeqAt.in_listAt (eqU x) pl.isList (fun w hw => mem_eqAt rx fx r fs w (by simpa using hw)) ⟨.bl _, H, I, rfl, ?_⟩
    rw [show its.toArray.any (eqU x) = its.any (eqU x) by simp, any_eqU r fs]
    exact q
  · obtain ⟨its, r, pl, hz⟩ := I.tuple hq
    refine SeqAt.in_tupleAt (eqU x) pl (fun w hw => mem_eqAt rx fx r fs w (by simpa using hw)) ⟨.bl _, H, I, rfl, ?_⟩
    rw [show its.toArray.any (eqU x) = its.any (eqU x) by simp, any_eqU r fs]
    exact q
theorem op_notIn_seq : OpR X (compareOp .NotIn) (rIn X.K true) := by
  intro pins s σ H x y v u Q I rx ry h
  obtain ⟨p, xs, rfl, hq, fx, fs, q⟩ := h
  cases ry
  rcases hq with hq | hq
  · obtain ⟨its, r, pl, hz⟩ := I.list hq
    refine SeqAt.notIn_listAt (eqU x) pl.isList (fun w hw => mem_eqAt rx fx r fs w (by simpa using hw)) ⟨.bl _, H, I, rfl, ?_⟩
    rw [show its.toArray.any (eqU x) = its.any (eqU x) by simp, any_eqU r fs]
    exact q
  · obtain ⟨its, r, pl, hz⟩ := I.tuple hq
    refine SeqAt.notIn_tupleAt (eqU x) pl (fun w hw => mem_eqAt rx fx r fs w (by simpa using hw)) ⟨.bl _, H, I, rfl, ?_⟩
    rw [show its.toArray.any (eqU x) = its.any (eqU x) by simp, any_eqU r fs]
    exact q
theorem call_len_seq : CallR X (.builtin "len") (fun xs H Q => ∃ p ys, xs = [.ref p] ∧ (SqL X.K H p ys ∨ SqT X.K H p ys) ∧ Q (.int ys.length) H) := by
  intro pins s σ H xs us Q I r h
  obtain ⟨p, ys, rfl, hq, q⟩ := h
  obtain ⟨u, rfl, rx⟩ := vals1 r
  cases rx
  have hn := line63
  rcases hq with hq | hq
  · obtain ⟨its, r', pl, hz⟩ := I.list hq
    have hlen := r'.length
    exact Calls.call_len_list pl.isList (by simp only [List.size_toArray] <;> omega) ⟨.int ys.length, H, I.tok _, ⟨s.toks + 1, by rw [List.size_toArray, hlen]⟩, q⟩
  · obtain ⟨its, r', pl, hz⟩ := I.tuple hq
    have hlen := r'.length
    exact len_tuple pl (by simp only [List.size_toArray] <;> omega) ⟨.int ys.length, H, I.tok _, ⟨s.toks + 1, by rw [List.size_toArray, hlen]⟩, q⟩
theorem CallR.or {f : Value} {r r' : List V → Hp → VK → Prop} (h : CallR X f r) (h' : CallR X f r') : CallR X f (fun xs H Q => r xs H Q ∨ r' xs H Q) := by
  intro pins s σ H xs us Q I rs q
  rcases q with q | q
  · exact h pins s σ H xs us Q I rs q
  · exact h' pins s σ H xs us Q I rs q
theorem call_list_of : CallR X (.type "list") (fun xs H Q => ∃ p ys, xs = [.ref p] ∧ (SqL X.K H p ys ∨ SqT X.K H p ys) ∧ ∀ l, H l = none → Q (.ref l) (upd H l (.lst ys))) := by
  intro pins s σ H xs us Q I r h
  obtain ⟨p, ys, rfl, hq, q⟩ := h
  obtain ⟨u, rfl, rx⟩ := vals1 r
  cases rx
  have fin : ∀ (its : List Value), Vals ys its → ys.length ≤ sizeLine → ∀ (h' : Heap) (c' : Nat), (∀ b o', s.heap.get? b = some o' → h'.get? b = some o') →
      h'.get? s.heap.objs.size = some { cls := .type "list", dict := none, data := .seq its.toArray c', slots := #[] } → EP X pins σ Q (.ref s.heap.objs.size) { s with heap := h' } := fun its r' hz h' c' kp e =>
    ⟨.ref s.heap.objs.size, _, I.laid (t' := s.toks) kp (Nat.le_refl _) (show ObjOk X.prog X.w _ h' _ (.lst ys) from ⟨hz, its, c', r', e⟩), rfl, q _ (I.hok.fresh (Nat.le_refl _))⟩
  rcases hq with hq | hq
  · obtain ⟨its, r', pl, hz⟩ := I.list hq
    have hlen := r'.length
    obtain ⟨o, ho, hc, n, hd⟩ := pl.isList
    exact call_list_seq p (.inl rfl) ho hc hd (fun h' c' kp e => fin its r' hz h' c' kp e) (by simp only [List.size_toArray] <;> omega)
  · obtain ⟨its, r', pl, hz⟩ := I.tuple hq
    have hlen := r'.length
    obtain ⟨o, ho, hc, n, hd⟩ := pl
    exact call_list_seq p (.inr rfl) ho hc hd (fun h' c' kp e => fin its r' hz h' c' kp e) (by simp only [List.size_toArray] <;> omega)
/-- the value is of that builtin type -/
def tyV (K : PySem.W.Frag) (T : String) (x : V) (H : Hp) : Prop := match x with
  | .str _ => T = "str"
  | .int _ => T = "int"
  | .ref p => (T = "list" ∧ ∃ xs, SqL K H p xs) ∨ (T = "tuple" ∧ ∃ o, K.lookup p = some o ∧ o.cls = .type "tuple" ∧ o.dict = none) ∨
      (T = "dict" ∧ ((∃ kvs, H p = some (.dK kvs)) ∨ ∃ kvs, H p = some (.dT kvs))) ∨ (T = "set" ∧ ∃ S n, H p = some (.set S n))
  | _ => False
theorem tyV_is {pins : List (Addr × Obj)} {σ : St} {H : Hp} {s : Shared} {T : String} {x : V} {v : Value} (I : Inv X pins σ H s) (r : RelV x v) (ty : tyV X.K T x H) :
    s.TypeIs v T ∧ ∀ a, v = .ref a → ∃ ob, s.heap.get? a = some ob ∧ ob.dict = none := by
  cases x with
  | str z =>
    obtain ⟨t, rfl⟩ := r
    cases (show T = "str" from ty)
    exact ⟨typeIs_str s z t, fun _ e => nomatch e⟩
  | int i =>
    obtain ⟨t, rfl⟩ := r
    cases (show T = "int" from ty)
    exact ⟨typeIs_int s i t, fun _ e => nomatch e⟩
  | ref p =>
    cases r
    rcases ty with ⟨rfl, xs, hq⟩ | ⟨rfl, o, hk, hc, hd⟩ | ⟨rfl, hk⟩ | ⟨rfl, S, n, hk⟩
    · obtain ⟨its, _, pl, _⟩ := I.list hq
      refine ⟨pl.isList.typeIs, fun a e => ?_⟩
      cases e
      obtain ⟨o, n, e, c, hd, _⟩ := pl
      exact ⟨o, e, hd⟩
    · refine ⟨⟨o, I.kIn p o hk, hc⟩, fun a e => ?_⟩
      cases e
      exact ⟨o, I.kIn _ o hk, hd⟩
    · have z : ∃ o, s.heap.get? p = some o ∧ o.ExactDict := by
        rcases hk with ⟨kvs, hk⟩ | ⟨kvs, hk⟩
        · obtain ⟨_, _, _, _, o, _, _, e, ex, _⟩ := I.hok p _ hk
          exact ⟨o, e, ex⟩
        · obtain ⟨_, _, _, _, o, _, _, e, ex, _⟩ := I.hok p _ hk
          exact ⟨o, e, ex⟩
      obtain ⟨o, e, ex⟩ := z
      refine ⟨⟨o, e, ex.1⟩, fun a e2 => ?_⟩
      cases e2
      exact ⟨o, e, ex.2.1⟩
    · obtain ⟨o, _, _, _, e, ex, _⟩ := I.hok p _ hk
      refine ⟨⟨o, e, ex.1⟩, fun a e2 => ?_⟩
      cases e2
      exact ⟨o, e, ex.2.1⟩
  | _ => exact False.elim ty
def tBM0 (K : PySem.W.Frag) (T : String) (r : V → List V → Hp → VK → Prop) (to : TE) : TE := fun σ H Q => to σ H fun x H1 => tyV K T x H1 ∧ r x [] H1 Q
def tBM (K : PySem.W.Frag) (T : String) (r : V → List V → Hp → VK → Prop) (to : TE) (t : TA) : TE := fun σ H Q => to σ H fun x H1 => tyV K T x H1 ∧ t σ H1 fun xs H2 => r x xs H2 Q
variable {o e : Expr} {es : List Expr} {to : TE} {t : TA} {name : Str} {apos cpos : Pos} {T id : String} {r : V → List V → Hp → VK → Prop}
theorem pe_bm (pa : PlainAttrs T) (slot : Slot T name id) (hty : typeOf (.builtin id) = pure (.type "method_descriptor")) (hm : MtR X id r) (ho : PE X o to) (ha : PA X (e :: es) t)
    (hbase : attributeBase o name X.env (eval o X.env) = eval o X.env := by rfl)
    (hfew : ((backTo cpos (starEach (e :: es) X.env)).all (fun x => !x.1) && (backToKw cpos (keywordEach [] X.env)).all (fun x => x.1.isSome)
      && decide ((e :: es).length + ([] : List Keyword).length + (if ([] : List Keyword).isEmpty then 0 else 1) < 30)) = true := by rfl)
    (hline : (apos.endLine == cpos.line) = true := by rfl) (hs : starEach (e :: es) X.env = (false, eval e X.env) :: starEach es X.env := by rfl) (hplain : (backTo cpos (starEach es X.env)).any (·.1) = false := by rfl) :
    PE X (.Call (.Attribute o name apos) (e :: es) [] cpos) (tBM X.K T r to t) := by
  intro pins s σ H Q I h
  refine wpAny_Call_method_late hbase hfew hline rfl (thn (ho pins s σ H _ I h) fun v s1 ⟨x, H1, I1, r1, ty, q1⟩ => ?_)
  obtain ⟨h1, h2⟩ := tyV_is I1 r1 ty
  refine ⟨T, id, pa, slot, hty, h1, h2, ?_⟩
  have hA := ha cpos pins s1 σ H1 _ I1 q1
  rw [hs] at hA ⊢
  refine Calls.callWith_builtin (by show (false || (backTo cpos (starEach es X.env)).any (·.1)) = false; rw [hplain] <;> rfl) (Calls.evalArgs_plain ?_)
  exact thn hA fun us s2 ⟨vs, H2, I2, r2, q2⟩ => hm pins s2 σ H2 x vs v us Q I2 r1 r2 q2
/- xs.append(e), list.index on a module's tuple .. are MtR facts of 06m -/
end
end L2
namespace L2
open PySem PySem.Spec PyProof.Rows
def MtM (X : Cx) (id : String) (r : V → List V → Hp → VK → Prop) : Prop :=
  ∀ (pins : List (Addr × Obj)) (s : Shared) (σ : St) (H : Hp) (x : V) (xs : List V) (v : Value) (us : List Value) (Q : VK), Inv X pins σ H s → RelV x v → Vals xs us → r x xs H Q →
    wpAny (model X.prog X.w) X.A (call (.builtin id) (v :: us)) (EP X pins σ Q) X.xe s
theorem Vals.one : ∀ {x : V} {us : List Value}, Vals [x] us → ∃ u, us = [u] ∧ RelV x u
  | _, _, .cons r .nil => ⟨_, rfl, r⟩
theorem Vals.two : ∀ {x y : V} {us : List Value}, Vals [x, y] us → ∃ u v, us = [u, v] ∧ RelV x u ∧ RelV y v
  | _, _, _, .cons r (.cons q .nil) => ⟨_, _, rfl, r, q⟩
theorem Vals.zero : ∀ {us : List Value}, Vals [] us → us = []
  | _, .nil => rfl
section
variable {X : Cx} {pins : List (Addr × Obj)} {σ : St} {H : Hp} {s : Shared} {l b : Addr} {xs ys zs : List V}
theorem Inv.lset {its its' : List Value} {n : Nat} {f : Array Value → Array Value} {t' : Nat} (I : Inv X pins σ H s) (hH : H l = some (.lst xs))
    (e : s.heap.get? l = some { cls := .type "list", data := .seq its.toArray n }) (hf : f its.toArray = its'.toArray) (hv : Vals ys its') (hz : ys.length ≤ sizeLine) :
    Inv X pins σ (upd H l (.lst ys)) { s with heap := s.heap.update l (Obj.mapSeq f), toks := t' } := by
  have q := PySem.IsL.update e f
  rw [hf] at q
  refine I.write (x := l) (e := l) (by rw [hH]; exact trivial) (.inl rfl) (fun b' u hb hu => (Heap.get?_update_other s.heap (Obj.mapSeq f) (Ne.symm hb)).trans hu) ⟨_, q⟩ ?_
  exact ⟨hz, its', _, hv, q⟩
theorem Inv.lnew {its : List Value} {t' : Nat} (I : Inv X pins σ H s) (hv : Vals ys its) (hz : ys.length ≤ sizeLine) :
    Inv X pins σ (upd H s.heap.objs.size (.lst ys)) { s with heap := s.heap.push { cls := .type "list", data := .seq its.toArray }, toks := t' } :=
  I.laid (fun _ _ q => Heap.get?_push_of_some _ q) (Nat.le_refl _) ⟨hz, its, 0, hv, Heap.get?_push_size _ rfl⟩
theorem Inv.fresh (I : Inv X pins σ H s) : H s.heap.objs.size = none := I.hok.fresh (Nat.le_refl _)
theorem Inv.lstM (I : Inv X pins σ H s) (hH : H l = some (.lst xs)) : xs.length ≤ sizeLine ∧ ∃ (its : List Value) (n : Nat), Vals xs its ∧ xs.length = its.length ∧ s.heap.get? l = some { cls := .type "list", data := .seq its.toArray n } := by
  obtain ⟨z, its, n, r, e⟩ := I.hok l _ hH
  exact ⟨z, its, n, r, r.length, e⟩
theorem notLongL {n : Nat} (h : n ≤ sizeLine) : Builtin.List.listTooLong n = false := by
  unfold Builtin.List.listTooLong
  exact decide_eq_false (by omega)
end
section
variable {X : Cx}
def rAppend : V → List V → Hp → VK → Prop := fun x vs H Q => ∃ l xs y, x = .ref l ∧ vs = [y] ∧ H l = some (.lst xs) ∧ xs.length < sizeLine ∧ Q .non (upd H l (.lst (xs ++ [y])))
theorem mt_append : MtM X "list.append" rAppend := by
  intro pins s σ H x vs v us Q I rx rv h
  obtain ⟨l, xs, y, rfl, rfl, hH, hz, q⟩ := h
  cases rx
  obtain ⟨u, rfl, ru⟩ := rv.one
  obtain ⟨z, its, n, r, hl, e⟩ := I.lstM hH
  refine call_meets F.slot_list_append ⟨_, e, rfl⟩ F.entry_list_append (F.args_list_append_2 _ _) (PySem.list_append l its.toArray n u (by rw [List.size_toArray]; omega)) ⟨e, ?_⟩
  refine ⟨.non, _, I.lset (its' := its ++ [u]) hH e (by simp) (r.append (.cons ru .nil)) ?_, rfl, q⟩
  rw [List.length_append, List.length_singleton]
  omega
def rExtend : V → List V → Hp → VK → Prop := fun x vs H Q => ∃ l b xs zs, x = .ref l ∧ vs = [.ref b] ∧ H l = some (.lst xs) ∧ H b = some (.lst zs) ∧ xs.length + zs.length ≤ sizeLine ∧ Q .non (upd H l (.lst (xs ++ zs)))
theorem mt_extend : MtM X "list.extend" rExtend := by
  intro pins s σ H x vs v us Q I rx rv h
  obtain ⟨l, b, xs, zs, rfl, rfl, hH, hB, hz, q⟩ := h
  cases rx
  obtain ⟨u, rfl, ru⟩ := rv.one
  cases ru
  obtain ⟨z, its, n, r, hl, e⟩ := I.lstM hH
  obtain ⟨z2, its2, n2, r2, hl2, e2⟩ := I.lstM hB
  have hsz : its.toArray.size + its2.toArray.size ≤ sizeLine := by rw [List.size_toArray, List.size_toArray]; omega
  have hlong : ¬ (!its.toArray.isEmpty && Builtin.List.listTooLong (its.toArray.size + its2.toArray.size)) = true := by
    rw [notLongL hsz, Bool.and_false]
    exact Bool.false_ne_true
  refine call_meets F.slot_list_extend ⟨_, e, rfl⟩ F.entry_list_extend (F.args_list_extend_2 _ _)
    (AutoSeq1.list_extend_list_list_0 l its.toArray n b its2.toArray n2 hlong (by rw [List.size_toArray]; omega) (by omega)) ⟨e, e2, ?_⟩
  refine ⟨.non, _, I.lset (its' := its ++ its2) hH e (by simp) (r.append r2) ?_, rfl, q⟩
  rw [List.length_append]
  omega
def rCat : R2 := fun x y H Q => ∃ l b xs zs, x = .ref l ∧ y = .ref b ∧ H l = some (.lst xs) ∧ H b = some (.lst zs) ∧ xs.length + zs.length ≤ sizeLine ∧ ∀ p, H p = none → Q (.ref p) (upd H p (.lst (xs ++ zs)))
theorem op_cat : OpR X (binaryOp .Add) rCat := by
  intro pins s σ H x y v u Q I rx ry h
  obtain ⟨l, b, xs, zs, rfl, rfl, hH, hB, hz, q⟩ := h
  cases rx
  cases ry
  obtain ⟨z, its, n, r, hl, e⟩ := I.lstM hH
  obtain ⟨z2, its2, n2, r2, hl2, e2⟩ := I.lstM hB
  refine PySem.P.add_list e e2 ?_ (by rw [List.size_toArray, List.size_toArray]; omega)
  have ea : its.toArray ++ its2.toArray = (its ++ its2).toArray := by simp
  rw [ea]
  exact ⟨.ref _, _, I.lnew (t' := s.toks) (r.append r2) (by rw [List.length_append]; omega), rfl, q _ I.fresh⟩
end
section
variable {prog : Program} {w : World} {A : Around} {E : Value → Shared → Prop} {s : Shared}
end
section
variable {X : Cx}
end
end L2
namespace L2
open PySem PySem.Spec PyProof.Rows
theorem Vals.ints : ∀ {ns : List Int} {us : List Value}, Vals (ns.map V.int) us → IntsAre us ns
  | [], us, h => by
    rw [List.map_nil] at h
    cases h
    exact IntsAre.nil
  | n :: ns, us, h => by
    rw [List.map_cons] at h
    cases h with
    | cons r t =>
      obtain ⟨k, rfl⟩ := r
      exact IntsAre.cons n k (Vals.ints t)
theorem Vals.bls : ∀ {bs : List Bool} {us : List Value}, Vals (bs.map V.bl) us → us = bs.map Value.bool
  | [], us, h => by
    rw [List.map_nil] at h
    cases h
    rfl
  | b :: bs, us, h => by
    rw [List.map_cons] at h
    cases h with
    | cons r t =>
      cases r
      rw [Vals.bls t, List.map_cons]
theorem Vals.ref1 {a : Addr} {us : List Value} (r : Vals [V.ref a] us) : us = [Value.ref a] := by
  cases r with
  | cons r t =>
    cases t
    cases r
    rfl
section
variable {prog : Program} {w : World} {A : Around} {E : Value → Shared → Prop} {s : Shared} {l : Addr} {its : List Value} {ns : List Int} {Q : Value → Shared → Prop}
theorem max_raw (hh : A.handled = none) (hl : s.heap.IsList l its.toArray) (hi : IntsAre its ns) (hne : 0 < ns.length)
    (h : ∀ h' tk M t', (∀ b o, s.heap.get? b = some o → h'.get? b = some o) → M ∈ ns → (∀ a, a ∈ ns → a ≤ M) → Q (.int M t') { s with heap := h', toks := tk }) : wpAny (model prog w) A (call (.builtin "max") [.ref l]) Q E s := by
  obtain ⟨xs, e⟩ := hi.allInts.items
  have hn : numsOf (intItems xs).toList = ns := by rw [← e]; exact hi.numsOf
  rw [nums_intItems] at hn
  subst hn
  rw [e] at hl
  have hsz : 0 < xs.size := by simpa using hne
  refine PySem.max_intList hh hl hsz fun v h' tk hv hk => ?_
  obtain ⟨t, rfl⟩ := intItems_at hv
  obtain ⟨h1, h2⟩ := argBest_gt (numAt xs) (xs.size - 1)
  refine h h' tk _ t hk ?_ fun a ha => ?_
  · rw [numAt_eq]; exact PySem.getD_mem (by rw [List.length_map, Array.length_toList]; omega)
  · obtain ⟨j, hj, rfl⟩ := mem_getD ha
    rw [List.length_map, Array.length_toList] at hj
    rw [← numAt_eq]; exact h2 j (by omega)
theorem min_raw (hh : A.handled = none) (hl : s.heap.IsList l its.toArray) (hi : IntsAre its ns) (hne : 0 < ns.length)
    (h : ∀ h' tk M t', (∀ b o, s.heap.get? b = some o → h'.get? b = some o) → M ∈ ns → (∀ a, a ∈ ns → M ≤ a) → Q (.int M t') { s with heap := h', toks := tk }) : wpAny (model prog w) A (call (.builtin "min") [.ref l]) Q E s := by
  obtain ⟨xs, e⟩ := hi.allInts.items
  have hn : numsOf (intItems xs).toList = ns := by rw [← e]; exact hi.numsOf
  rw [nums_intItems] at hn
  subst hn
  rw [e] at hl
  have hsz : 0 < xs.size := by simpa using hne
  refine PySem.min_intList hh hl hsz fun v h' tk hv hk => ?_
  obtain ⟨t, rfl⟩ := intItems_at hv
  obtain ⟨h1, h2⟩ := argBest_lt (numAt xs) (xs.size - 1)
  refine h h' tk _ t hk ?_ fun a ha => ?_
  · rw [numAt_eq]; exact PySem.getD_mem (by rw [List.length_map, Array.length_toList]; omega)
  · obtain ⟨j, hj, rfl⟩ := mem_getD ha
    rw [List.length_map, Array.length_toList] at hj
    rw [← numAt_eq]; exact h2 j (by omega)
end
section
variable {X : Cx}
/-- max(xs), min(xs) of a list of ints -/
def rMax (K : PySem.W.Frag) : List V → Hp → VK → Prop := fun vs H Q => ∃ (a : Addr) (ns : List Int), vs = [V.ref a] ∧ SqL K H a (ns.map V.int) ∧ 0 < ns.length ∧ ∀ m, m ∈ ns → (∀ y, y ∈ ns → y ≤ m) → Q (.int m) H
def rMin (K : PySem.W.Frag) : List V → Hp → VK → Prop := fun vs H Q => ∃ (a : Addr) (ns : List Int), vs = [V.ref a] ∧ SqL K H a (ns.map V.int) ∧ 0 < ns.length ∧ ∀ m, m ∈ ns → (∀ y, y ∈ ns → m ≤ y) → Q (.int m) H
theorem cr_max (hc : X.calm = true) : CallR X (.builtin "max") (rMax X.K) := by
  intro pins s σ H vs us Q I r h
  obtain ⟨a, ns, rfl, hs, hne, q⟩ := h
  obtain ⟨its, rv, hl, _⟩ := I.list hs
  rw [Vals.ref1 r]
  exact max_raw (I.ok.hd hc) hl.isList rv.ints hne fun h' tk m t' hk h1 h2 => ⟨.int _, H, I.kept hk, ⟨_, rfl⟩, q m h1 h2⟩
theorem cr_min (hc : X.calm = true) : CallR X (.builtin "min") (rMin X.K) := by
  intro pins s σ H vs us Q I r h
  obtain ⟨a, ns, rfl, hs, hne, q⟩ := h
  obtain ⟨its, rv, hl, _⟩ := I.list hs
  rw [Vals.ref1 r]
  exact min_raw (I.ok.hd hc) hl.isList rv.ints hne fun h' tk m t' hk h1 h2 => ⟨.int _, H, I.kept hk, ⟨_, rfl⟩, q m h1 h2⟩
end
section
variable {X : Cx}
end
section
variable {X : Cx}
end
theorem iter_any {prog : Program} {w : World} {A : Around} {E : Value → Shared → Prop} {s : Shared} {l : Addr} {items : Array Value} {Q : Value → Shared → Prop} (hl : s.heap.IsList l items)
    (h : ∀ s₂ : Shared, s₂ = { s with heap := s.heap.push { cls := .type "list_iterator", data := .fields #[.ref l, .int 0 0] } } →
      (s₂.heap.IsListIter s.heap.objs.size l 0 ∧ s₂.heap.IsList l items) → l ≠ s.heap.objs.size → Q (.ref s.heap.objs.size) s₂) : wpAny (model prog w) A (pyIter (.ref l)) Q E s := by
  have hlt : l < s.heap.objs.size := by obtain ⟨_, e, _⟩ := hl; exact Heap.lt_size e
  exact wpAny_pyIter_list hl (h _ rfl ⟨⟨_, Heap.get?_push_size _ rfl, rfl, rfl⟩, hl.push _⟩ (Nat.ne_of_lt hlt))
theorem truth_bools {prog : Program} {w : World} {A : Around} {bs : List Bool} {its : List Value} (e : its = bs.map Value.bool) :
    TruthOf prog w A (fun i v => its.toArray[i]? = some v) (fun i => bs.getD i false) := fun i v s Q E hv hq => by
  have hv' : its[i]? = some v := by simpa using hv
  rw [e, List.getElem?_map] at hv'
  obtain ⟨b, hb, rfl⟩ := Option.map_eq_some_iff.mp hv'
  have hg : bs.getD i false = b := by rw [List.getD_eq_getElem?_getD, hb] <;> rfl
  have hq' : Q (bs.getD i false) s := hq
  rw [hg] at hq'
  exact wpAny_truthy_bool hq'
theorem all_range : ∀ bs : List Bool, (List.range bs.length).all (fun i => bs.getD i false) = bs.all id
  | [] => rfl
  | b :: bs => by
    rw [List.length_cons, List.range_succ_eq_map, List.all_cons, List.all_map, List.all_cons, ← all_range bs]
    all_goals rfl
section
variable {X : Cx}
def rAll (K : PySem.W.Frag) : List V → Hp → VK → Prop := fun vs H Q => ∃ (a : Addr) (bs : List Bool), vs = [V.ref a] ∧ SqL K H a (bs.map V.bl) ∧ Q (.bl (bs.all id)) H
theorem cr_all (hc : X.calm = true) : CallR X (.builtin "all") (rAll X.K) := by
  intro pins s σ H vs us Q I r h
  obtain ⟨a, bs, rfl, hs, q⟩ := h
  obtain ⟨its, rv, hl, _⟩ := I.list hs
  rw [Vals.ref1 r]
  have hb := rv.bls
  refine call_all_walk (iter_any hl.isList fun s₂ e2 st hne => ?_)
  subst e2
  refine ⟨_, _, _, _, _, _, _, rfl, Walks.list (A := X.A.in1) (I.ok.hd hc) _ a hne its.toArray, st, truth_bools hb, fun h' tk hk => ?_⟩
  refine ⟨.bl _, H, I.kept fun b o eo => hk b o (fun hmem => ?_) (Heap.get?_push_of_some _ eo), ?_, q⟩
  · rcases List.mem_cons.mp hmem with e1 | hmem
    · exact absurd (e1 ▸ Heap.lt_size eo) (Nat.lt_irrefl _)
    · cases hmem
  · show Value.bool _ = Value.bool _
    rw [← all_range, hb, List.size_toArray, List.length_map]
end
mutual
inductive Dp (K : PySem.W.Frag) (H : Hp) : V → PyData → Prop
  | non : Dp K H .non .none
  | bl (b : Bool) : Dp K H (.bl b) (.bool b)
  | int (i : Int) : Dp K H (.int i) (.int i)
  | str (x : Str) : Dp K H (.str x) (.str x)
  | lst {a : Addr} {xs : List V} {ds : List PyData} : SqL K H a xs → DpAll K H xs ds → Dp K H (.ref a) (.list ds)
  | tup {a : Addr} {xs : List V} {ds : List PyData} : SqT K H a xs → DpAll K H xs ds → Dp K H (.ref a) (.tuple ds)
inductive DpAll (K : PySem.W.Frag) (H : Hp) : List V → List PyData → Prop
  | nil : DpAll K H [] []
  | cons {v : V} {vs : List V} {d : PyData} {ds : List PyData} : Dp K H v d → DpAll K H vs ds → DpAll K H (v :: vs) (d :: ds)
end
section
variable {X : Cx} {pins : List (Addr × Obj)} {σ : St} {H : Hp} {s : Shared}
mutual
theorem Dp.reads (I : Inv X pins σ H s) : ∀ (d : PyData) (v : V) (u : Value), Dp X.K H v d → RelV v u → ∃ as, Reads s.heap u d as
  | .none, _, _, h, r => by
    cases h
    cases r
    exact ⟨_, Reads.none⟩
  | .bool b, _, _, h, r => by
    cases h
    cases r
    exact ⟨_, Reads.bool b⟩
  | .int i, _, _, h, r => by
    cases h
    obtain ⟨t, rfl⟩ := r
    exact ⟨_, Reads.int i t⟩
  | .str x, _, _, h, r => by
    cases h
    obtain ⟨t, rfl⟩ := r
    exact ⟨_, Reads.str x t⟩
  | .list ds, _, _, h, r => by
    cases h with
    | lst hs ha =>
      cases r
      obtain ⟨its, rv, ⟨o, n, ho, hc, _, hd⟩, _⟩ := I.list hs
      obtain ⟨as, hr⟩ := Dp.readsAll I ds _ its ha rv
      exact ⟨_, Reads.list ho hc hd hr⟩
  | .tuple ds, _, _, h, r => by
    cases h with
    | tup hs ha =>
      cases r
      obtain ⟨its, rv, ⟨o, ho, hc, n, hd⟩, _⟩ := I.tuple hs
      obtain ⟨as, hr⟩ := Dp.readsAll I ds _ its ha rv
      exact ⟨_, Reads.tuple ho hc hd hr⟩
  | .dict _, _, _, h, _ => by cases h
theorem Dp.readsAll (I : Inv X pins σ H s) : ∀ (ds : List PyData) (vs : List V) (us : List Value), DpAll X.K H vs ds → Vals vs us → ∃ as, ReadsAll s.heap us ds as
  | [], _, _, h, r => by
    cases h
    cases r
    exact ⟨_, ReadsAll.nil⟩
  | d :: ds, _, _, h, r => by
    cases h with
    | cons h1 h2 =>
      cases r with
      | cons r1 r2 =>
        obtain ⟨as, q1⟩ := Dp.reads I d _ _ h1 r1
        obtain ⟨bs, q2⟩ := Dp.readsAll I ds _ _ h2 r2
        exact ⟨_, ReadsAll.cons q1 q2⟩
end
end
section
variable {X : Cx}
end
end L2
namespace L2
open PySem PySem.Spec PyProof.Rows
abbrev CellAt (h : Heap) (c : Addr) (v : Option Value) : Prop := h.IsCell c v
def relS (scope sc : Scope) : Scope :=
  { scope with names := scope.names.map fun (n, k) => if (k == .free && sc.kind == .function && sc.names.lookup n == some .cell) then (n, .cell) else (n, k) }
def cloFrom (cells : List (Str × Addr)) : List (Str × NameKind) → List (Str × Addr) → List (Str × Addr)
  | [], acc => acc
  | (n, k) :: r, acc => if k == .free then cloFrom cells r ((n, (cells.lookup n).getD 0) :: acc) else cloFrom cells r acc
theorem closure_loop (env : Env) (f : Str × NameKind → List (Str × Addr) → Sem (ForInStep (List (Str × Addr))))
    (hf : ∀ n k c, f (n, k) c = if k == .free then (do let a ← cellOf env n; pure (.yield ((n, a) :: c))) else pure (.yield c)) :
    ∀ (names : List (Str × NameKind)) (acc : List (Str × Addr)), (∀ y ∈ names, y.2 = .free → ∃ c, env.cells.lookup y.1 = some c) → forIn names acc f = pure (cloFrom env.cells names acc)
  | [], acc, _ => by rw [List.forIn_nil]; rfl
  | (n, k) :: r, acc, h => by
    rw [List.forIn_cons, hf]
    have ih := fun acc => closure_loop env f hf r acc fun y hy => h y (List.mem_cons_of_mem _ hy)
    unfold cloFrom
    by_cases hk : (k == NameKind.free) = true
    · rw [if_pos hk, if_pos hk]
      obtain ⟨c, hc⟩ := h (n, k) List.mem_cons_self (by simpa using hk)
      have e : cellOf env n = pure c := by unfold cellOf; rw [hc]
      rw [e]
      have e2 : (env.cells.lookup n).getD 0 = c := by rw [hc]; rfl
      rw [e2]
      exact ih _
    · rw [if_neg hk, if_neg hk]
      exact ih _
theorem closure_ok {scope : Scope} {env : Env} (h : ∀ y ∈ scope.names, y.2 = .free → ∃ c, env.cells.lookup y.1 = some c) : closureFor scope env = pure (cloFrom env.cells scope.names []) := by
  simp only [closureFor]
  rw [closure_loop env _ (fun n k c => rfl) scope.names [] h]
  rfl
theorem mem_lookup {α : Type} : ∀ {l : List (Str × α)} {n : Str} {c : α}, (n, c) ∈ l → ∃ c', l.lookup n = some c'
  | (k, v) :: r, n, c, h => by
    rw [List.lookup_cons]
    cases hb : n == k with
    | true => exact ⟨_, rfl⟩
    | false =>
      rcases List.mem_cons.mp h with e | h
      · cases e; simp at hb
      · exact mem_lookup h
theorem cloFrom_mem {cells : List (Str × Addr)} : ∀ {names : List (Str × NameKind)} {acc : List (Str × Addr)} {n : Str} {c : Addr}, (n, c) ∈ cloFrom cells names acc → (n, c) ∈ acc ∨ ((n, .free) ∈ names ∧ c = (cells.lookup n).getD 0)
  | [], _, _, _, h => .inl h
  | (m, k) :: r, acc, n, c, h => by
    unfold cloFrom at h
    split at h
    · rename_i hk
      have hk : k = .free := by simpa using hk
      rcases cloFrom_mem h with h | ⟨h1, h2⟩
      · rcases List.mem_cons.mp h with e | h
        · cases e; exact .inr ⟨hk ▸ List.mem_cons_self, rfl⟩
        · exact .inl h
      · exact .inr ⟨List.mem_cons_of_mem _ h1, h2⟩
    · rcases cloFrom_mem h with h | ⟨h1, h2⟩
      · exact .inl h
      · exact .inr ⟨List.mem_cons_of_mem _ h1, h2⟩
theorem cloFrom_acc {cells : List (Str × Addr)} : ∀ {names : List (Str × NameKind)} {acc : List (Str × Addr)} {p : Str × Addr}, p ∈ acc → p ∈ cloFrom cells names acc
  | [], _, _, h => h
  | (m, k) :: r, acc, p, h => by
    unfold cloFrom
    split
    · exact cloFrom_acc (List.mem_cons_of_mem _ h)
    · exact cloFrom_acc h
theorem cloFrom_has {cells : List (Str × Addr)} : ∀ {names : List (Str × NameKind)} {acc : List (Str × Addr)} {n : Str}, (n, .free) ∈ names → (n, (cells.lookup n).getD 0) ∈ cloFrom cells names acc
  | (m, k) :: r, acc, n, h => by
    unfold cloFrom
    rcases List.mem_cons.mp h with e | h
    · cases e
      exact cloFrom_acc List.mem_cons_self
    · split
      · exact cloFrom_has h
      · exact cloFrom_has h
theorem cells_mem : ∀ {names : List (Str × NameKind)} {h : Heap} {acc : List (Str × Addr)} {x : Str} {c : Addr}, (x, c) ∈ cellsFrom h.objs.size names acc →
    (x, c) ∈ acc ∨ ((x, .cell) ∈ names ∧ h.objs.size ≤ c ∧ CellAt (pushCells h names) c none)
  | [], _, _, _, _, h => .inl h
  | (n, k) :: r, h, acc, x, c, hm => by
    unfold cellsFrom at hm
    unfold pushCells
    split at hm
    · rename_i hk
      rw [if_pos hk]
      have hk : k = .cell := by simpa using hk
      rw [← Heap.size_push h { cls := .type "cell", data := .cell none }] at hm
      rcases cells_mem hm with hm | ⟨h1, h2, h3⟩
      · rcases List.mem_cons.mp hm with e | hm
        · cases e
          exact .inr ⟨hk ▸ List.mem_cons_self, Nat.le_refl _, _, pushCells_keeps r _ _ _ (Heap.get?_push_size _ rfl), rfl⟩
        · exact .inl hm
      · rw [Heap.size_push] at h2
        exact .inr ⟨List.mem_cons_of_mem _ h1, Nat.le_of_succ_le h2, h3⟩
    · rename_i hk
      rw [if_neg hk]
      rcases cells_mem hm with hm | ⟨h1, h2, h3⟩
      · exact .inl hm
      · exact .inr ⟨List.mem_cons_of_mem _ h1, h2, h3⟩
theorem cells_acc : ∀ {names : List (Str × NameKind)} {n : Nat} {acc : List (Str × Addr)} {p : Str × Addr}, p ∈ acc → p ∈ cellsFrom n names acc
  | [], _, _, _, h => h
  | (m, k) :: r, n, acc, p, h => by
    unfold cellsFrom
    split
    · exact cells_acc (List.mem_cons_of_mem _ h)
    · exact cells_acc h
theorem cells_has : ∀ {names : List (Str × NameKind)} {n : Nat} {acc : List (Str × Addr)} {x : Str}, (x, .cell) ∈ names → ∃ c, (x, c) ∈ cellsFrom n names acc
  | (m, k) :: r, n, acc, x, h => by
    unfold cellsFrom
    rcases List.mem_cons.mp h with e | h
    · cases e
      exact ⟨n, cells_acc List.mem_cons_self⟩
    · split
      · exact cells_has h
      · exact cells_has h
theorem cells_inj : ∀ {names : List (Str × NameKind)} {h : Heap} {acc : List (Str × Addr)} {x y : Str} {c : Addr}, (∀ p ∈ acc, p.2 < h.objs.size) → (∀ x y c, (x, c) ∈ acc → (y, c) ∈ acc → x = y) →
    (x, c) ∈ cellsFrom h.objs.size names acc → (y, c) ∈ cellsFrom h.objs.size names acc → x = y
  | [], _, _, _, _, _, _, hi, h1, h2 => hi _ _ _ h1 h2
  | (n, k) :: r, h, acc, x, y, c, hl, hi, h1, h2 => by
    unfold cellsFrom at h1 h2
    split at h1
    · rename_i hk
      rw [if_pos hk] at h2
      rw [← Heap.size_push h { cls := .type "cell", data := .cell none }] at h1 h2
      refine cells_inj (h := h.push _) (fun p hp => ?_) (fun x y c a b => ?_) h1 h2
      · rw [Heap.size_push]
        rcases List.mem_cons.mp hp with rfl | hp
        · exact Nat.lt_succ_self _
        · exact Nat.lt_succ_of_lt (hl p hp)
      · rcases List.mem_cons.mp a with e | a <;> rcases List.mem_cons.mp b with e' | b
        · cases e; cases e'; rfl
        · cases e; exact absurd (hl _ b) (Nat.lt_irrefl _)
        · cases e'; exact absurd (hl _ a) (Nat.lt_irrefl _)
        · exact hi _ _ _ a b
    · rename_i hk
      rw [if_neg hk] at h2
      exact cells_inj hl hi h1 h2
theorem newEnv_comp {M : Model} {A : Around} {E : Value → Shared → Prop} {s : Shared} {scope : Scope} {globals : Addr} {closure : List (Str × Addr)} {qual : Str} {func : Option Addr} {code : Value} {around : Env} {builtins : Addr} {Q : Env → Shared → Prop}
    (h : Q (newEnv scope s.heap.objs.size globals (cellsFrom (s.heap.objs.size + 1) scope.names closure) qual func code (some around) builtins)
      { s with heap := pushCells (s.heap.push { cls := .type "dict", data := .dict #[] }) scope.names }) :
    wpAny M A (newFunctionEnv scope globals closure [] qual func code (some around) builtins) Q E s := by
  simp only [newFunctionEnv, Option.isSome_some, if_true]
  refine wpAny_bind (wpAny_alloc ?_)
  refine wpAny_bind (wpAny_layCells _ (fun n k c => rfl) scope.names closure _ _ ?_)
  rw [show ({ s with heap := s.heap.push { cls := .type "dict", data := .dict #[] } } : Shared).heap.objs.size = s.heap.objs.size + 1 from Heap.size_push ..]
  rw [List.forIn_nil]
  exact wpAny_bind (wpAny_pure (wpAny_pure h))
/-- every name of the written scope, in the scope that runs -/
theorem lookup_relS {sc : Scope} : ∀ {names : List (Str × NameKind)} {x : Str} {k : NameKind},
    (names.map fun (n, k) => if (k == NameKind.free && sc.kind == .function && sc.names.lookup n == some .cell) then (n, NameKind.cell) else (n, k)).lookup x = some k →
    ∃ k', names.lookup x = some k' ∧ (k = k' ∨ (k' = .free ∧ k = .cell))
  | [], _, _, h => by simp at h
  | (n, k₀) :: r, x, k, h => by
    have ih := @lookup_relS sc r x k
    have h' : List.lookup x ((if (k₀ == NameKind.free && sc.kind == .function && sc.names.lookup n == some .cell) = true then (n, NameKind.cell) else (n, k₀)) :: (r.map _)) = some k := h
    cases hx : x == n with
    | true =>
      simp only [List.lookup_cons, hx]
      by_cases hc : (k₀ == NameKind.free && sc.kind == .function && sc.names.lookup n == some .cell) = true
      · rw [if_pos hc] at h'
        simp only [List.lookup_cons, hx] at h'
        cases h'
        simp only [Bool.and_eq_true, beq_iff_eq] at hc
        exact ⟨k₀, rfl, .inr ⟨hc.1.1, rfl⟩⟩
      · rw [if_neg hc] at h'
        simp only [List.lookup_cons, hx] at h'
        cases h'
        exact ⟨_, rfl, .inl rfl⟩
    | false =>
      simp only [List.lookup_cons, hx]
      by_cases hc : (k₀ == NameKind.free && sc.kind == .function && sc.names.lookup n == some .cell) = true
      · rw [if_pos hc] at h'
        simp only [List.lookup_cons, hx] at h'
        exact ih h'
      · rw [if_neg hc] at h'
        simp only [List.lookup_cons, hx] at h'
        exact ih h'
/-- the names of a comprehension's block: its own (with their places in N), or captured -/
structure BlkOk (N : List Str) (sc scope : Scope) (own : List (Str × Nat)) : Prop where
  kind : scope.kind = .function
  uniq : ∀ y ∈ scope.names, scope.names.lookup y.1 = some y.2
  ix : ∀ p ∈ own, N[p.2]? = some p.1
  free : ∀ y ∈ scope.names, y.2 = .free → sc.names.lookup y.1 = some .cell ∨ sc.names.lookup y.1 = some .free
  own : ∀ y ∈ scope.names, y.2 = .local ∨ y.2 = .cell → y.1 ∈ own.map (·.1) ∨ y.1 ∉ N
/-- the slots of the block's own names forgotten -/
def wipe (σ : St) : List Nat → St
  | [] => σ
  | v :: vs => (wipe σ vs).set v none
theorem wipe_length (σ : St) : ∀ vs : List Nat, (wipe σ vs).length = σ.length
  | [] => rfl
  | v :: vs => by unfold wipe; rw [List.length_set, wipe_length σ vs]
theorem wipe_some {σ : St} {i : Nat} {x : V} : ∀ {vs : List Nat}, (wipe σ vs)[i]? = some (some x) → σ[i]? = some (some x) ∧ i ∉ vs
  | [], h => ⟨h, by simp⟩
  | v :: vs, h => by
    unfold wipe at h
    by_cases hi : v = i
    · subst hi
      by_cases hv : v < (wipe σ vs).length
      · rw [List.getElem?_set_self hv] at h; cases h
      · rw [List.getElem?_eq_none (by simpa using hv)] at h; cases h
    · rw [List.getElem?_set_ne hi] at h
      obtain ⟨h1, h2⟩ := wipe_some h
      exact ⟨h1, by simp only [List.mem_cons, not_or]; exact ⟨fun e => hi e.symm, h2⟩⟩
/-- the context of a block that starts at s, its iterator's objects at fp -/
abbrev Cx.blk (X : Cx) (s : Shared) (H : Hp) (scope : Scope) (cenv : Env) (fp : List Addr) : Cx := { X with s_0 := s, H_0 := H, env := cenv, outer := X.stack, ex := fp, fn := fun x => scope.names.lookup x == some .cell, pn := [], xe := fun _ _ => False }
section
variable {X : Cx} {pins : List (Addr × Obj)} {σ : St} {H : Hp} {s : Shared}
theorem block_start {scope : Scope} {own : List (Str × Nat)} {fp : List Addr} (I : Inv X pins σ H s) (ok : BlkOk X.N X.env.scope scope own) (hN : X.N.Nodup) (hfp : ∀ b ∈ fp, FpOk X pins H b ∧ b < s.heap.objs.size) :
    Inv (X.blk s H scope (compEnvC scope (cellsFrom (s.heap.objs.size + 1) scope.names (cloFrom X.env.cells scope.names [])) s.heap.objs.size X.env) fp) [] (wipe σ (own.map (·.2))) H { s with heap := pushCells (s.heap.push { cls := .type "dict", data := .dict #[] }) scope.names } := by
  have hfree : ∀ y ∈ scope.names, y.2 = .free → ∃ c, X.env.cells.lookup y.1 = some c := fun y hy e => by
    rcases ok.free y hy e with k | k
    · exact I.ok.has _ (.inl k)
    · exact I.ok.has _ (.inr k)
  generalize hcenv : compEnvC scope (cellsFrom (s.heap.objs.size + 1) scope.names (cloFrom X.env.cells scope.names [])) s.heap.objs.size X.env = cenv
  have kp : ∀ b o, s.heap.get? b = some o → (pushCells (s.heap.push { cls := .type "dict", data := .dict #[] }) scope.names).get? b = some o := fun b o e => pushCells_keeps _ _ _ _ (Heap.get?_push_of_some _ e)
  have hL : cenv.locals = s.heap.objs.size := by rw [← hcenv]; rfl
  have hcl : cenv.cells = cellsFrom (s.heap.objs.size + 1) scope.names (cloFrom X.env.cells scope.names []) := by rw [← hcenv]; rfl
  have hsc : cenv.scope = relS scope X.env.scope := by rw [← hcenv]; rfl
  rw [← Heap.size_push s.heap { cls := .type "dict", data := .dict #[] }] at hcl
  have cm : ∀ {y c}, (y, c) ∈ cloFrom X.env.cells scope.names [] → X.env.cells.lookup y = some c ∧ c < s.heap.objs.size := fun {y c} hm => by
    rcases cloFrom_mem hm with hm | ⟨h1, rfl⟩
    · cases hm
    · obtain ⟨c, hc⟩ := hfree _ h1 rfl
      rw [hc]
      obtain ⟨w, z⟩ := I.cell _ _ hc
      exact ⟨rfl, z.lt⟩
  have mem : ∀ {y c}, cenv.cells.lookup y = some c → (X.env.cells.lookup y = some c ∧ c < s.heap.objs.size) ∨ (s.heap.objs.size + 1 ≤ c ∧ CellAt (pushCells (s.heap.push { cls := .type "dict", data := .dict #[] }) scope.names) c none) := fun {y c} e => by
    rw [hcl] at e
    rcases cells_mem (PySem.mem_of_lookup e) with hm | ⟨_, h2, h3⟩
    · exact .inl (cm hm)
    · rw [Heap.size_push] at h2; exact .inr ⟨h2, h3⟩
  have look : ∀ {y}, scope.names.lookup y = some .free → ∃ c, cenv.cells.lookup y = some c ∧ X.env.cells.lookup y = some c := fun {y} hl => by
    have hy : (y, NameKind.free) ∈ scope.names := PySem.mem_of_lookup hl
    obtain ⟨c', e'⟩ := mem_lookup (cells_acc (names := scope.names) (n := (s.heap.push { cls := .type "dict", data := .dict #[] }).objs.size) (cloFrom_has (cells := X.env.cells) (acc := []) hy))
    rw [← hcl] at e'
    refine ⟨c', e', ?_⟩
    rw [hcl] at e'
    rcases cells_mem (PySem.mem_of_lookup e') with hm | ⟨h1, _, _⟩
    · exact (cm hm).1
    · have := ok.uniq _ h1
      rw [hl] at this; cases this
  have okB : (X.blk s H scope cenv fp).Ok := by
    refine ⟨I.ok.mod, by show cenv.scope.kind = _; rw [hsc]; exact ok.kind, by show cenv.globals = _; rw [← hcenv]; exact I.ok.glob, by show cenv.builtins = _; rw [← hcenv]; exact I.ok.blt, by show s.heap.objs.size ≤ cenv.locals; rw [hL]; exact Nat.le_refl _,
      fun y z c e1 e2 => ?_, fun y hy => ?_, fun y c z e => ?_, I.ok.hd, I.ok.frames, .inl rfl, fun b hb => ⟨?_, fun y c e z => ?_⟩, I.bs, Nat.le_trans I.ok.bsz I.sz, fun b o e hb => ?_, fun b hb z => ?_, I.stack, I.stkFree⟩
    · have e1 : cenv.cells.lookup y = some c := e1
      have e2 : cenv.cells.lookup z = some c := e2
      rw [hcl] at e1 e2
      refine cells_inj (fun p hp => ?_) (fun y z c a b => I.ok.inj y z c (cm a).1 (cm b).1) (PySem.mem_of_lookup e1) (PySem.mem_of_lookup e2)
      rw [Heap.size_push]
      exact Nat.lt_succ_of_lt (cm (y := p.1) (c := p.2) hp).2
    · show ∃ c, cenv.cells.lookup y = some c
      have key : ∀ k, cenv.kindOf y = some k → (k = .cell ∨ k = .free) → ∃ c, cenv.cells.lookup y = some c := fun k hk hk' => by
        unfold Env.kindOf at hk
        rw [hsc] at hk
        obtain ⟨k', e, r⟩ := lookup_relS hk
        have : k' = .cell ∨ k' = .free := by
          rcases r with rfl | ⟨rfl, _⟩
          · exact hk'
          · exact .inr rfl
        rcases this with rfl | rfl
        · obtain ⟨c, hm⟩ := cells_has (n := (s.heap.push { cls := .type "dict", data := .dict #[] }).objs.size) (acc := cloFrom X.env.cells scope.names []) (PySem.mem_of_lookup e)
          obtain ⟨c', e'⟩ := mem_lookup hm
          exact ⟨c', by rw [hcl]; exact e'⟩
        · obtain ⟨c, h1, _⟩ := look e
          exact ⟨c, h1⟩
      rcases hy with hy | hy
      · exact key _ hy (.inl rfl)
      · exact key _ hy (.inr rfl)
    · have z : (scope.names.lookup y == some NameKind.cell) = true := z
      have z : scope.names.lookup y = some .cell := by simpa using z
      have e : cenv.cells.lookup y = some c := e
      rw [hcl] at e
      rcases cells_mem (PySem.mem_of_lookup e) with hm | ⟨_, h2, _⟩
      · rcases cloFrom_mem hm with hm | ⟨h1, _⟩
        · cases hm
        · have q := ok.uniq _ h1
          rw [z] at q; cases q
      · rw [Heap.size_push] at h2
        exact Nat.le_of_succ_le h2
    · show b ≠ cenv.locals
      rw [hL]; exact Nat.ne_of_lt (hfp b hb).2
    · have e : cenv.cells.lookup y = some c := e
      rcases mem e with ⟨h1, _⟩ | ⟨h1, _⟩
      · exact (hfp b hb).1.2.2.2.2.1 y c h1 z
      · have h2 : s.heap.objs.size + 1 ≤ b := by rw [← z]; exact h1
        exact absurd (Nat.lt_of_lt_of_le (hfp b hb).2 (Nat.le_of_succ_le h2)) (Nat.lt_irrefl _)
    · rcases (hfp b hb).1.2.2.2.1 with z | z
      · exact I.ok.noex b o e z
      · exact absurd (Nat.lt_of_lt_of_le (Heap.lt_size e) (Nat.le_trans I.ok.bsz z)) (Nat.lt_irrefl _)
    · rcases List.mem_cons.mp (I.stkSub b z) with z | z
      · exact (hfp b hb).1.2.1 z
      · exact (hfp b hb).1.2.2.1 z
  refine ⟨okB, rfl, I.bare, Un.kept kp, ⟨fun _ => none, ?_, fun i y av e1 e2 e3 => ?_⟩, fun y c e => ?_, ?_, fun y c e => ?_, fun p hp => ?_, I.hok.kept kp, by rw [wipe_length]; exact I.len⟩
  · show Heap.Ns _ cenv.locals _
    rw [hL]
    exact Heap.Ns.keeps (Heap.Ns.new ..) fun b o e => pushCells_keeps _ _ _ _ e
  · obtain ⟨e2, hne⟩ := wipe_some e2
    have hfr : scope.names.lookup y = some .free ∧ (cenv.kindOf y = some .cell ∨ cenv.kindOf y = some .free) := by
      have key : ∀ k, cenv.scope.names.lookup y = some k → k = .local ∨ k = .cell ∨ k = .free → scope.names.lookup y = some .free ∧ (cenv.kindOf y = some .cell ∨ cenv.kindOf y = some .free) := fun k hk hk' => by
        have hk0 := hk
        rw [hsc] at hk
        obtain ⟨k', e, r⟩ := lookup_relS hk
        have no : ¬ (k' = .local ∨ k' = .cell) := fun hh => by
          rcases ok.own _ (PySem.mem_of_lookup e) hh with e' | e'
          · obtain ⟨p, hp, hpy⟩ := List.mem_map.mp e'
            have e3 := ok.ix p hp
            have : p.1 = y := hpy
            rw [this] at e3
            exact hne (List.mem_map.mpr ⟨p, hp, nodup_ix hN e3 e1⟩)
          · exact e' (List.mem_of_getElem? e1)
        rcases r with rfl | ⟨rfl, rfl⟩
        · rcases hk' with rfl | rfl | rfl
          · exact absurd (.inl rfl) no
          · exact absurd (.inr rfl) no
          · exact ⟨e, .inr hk0⟩
        · exact ⟨e, .inl hk0⟩
      have e3 : Vis cenv.scope y := e3
      rcases e3 with e3 | e3 | e3
      · exact key _ e3 (.inl rfl)
      · exact key _ e3 (.inr (.inl rfl))
      · exact key _ e3 (.inr (.inr rfl))
    obtain ⟨m, hn, hl⟩ := I.loc
    have hvis : Vis X.env.scope y := (ok.free _ (PySem.mem_of_lookup hfr.1) rfl).elim (fun k => .inr (.inl k)) (fun k => .inr (.inr k))
    obtain ⟨w, r, q⟩ := hl i y av e1 e2 hvis
    refine ⟨w, r, .inr ⟨hfr.2, ?_⟩⟩
    obtain ⟨c, h1, h2⟩ := look hfr.1
    rcases q with ⟨k, _⟩ | ⟨_, c', e', z⟩
    · have k : X.env.scope.names.lookup y = some .local := k
      rcases ok.free _ (PySem.mem_of_lookup hfr.1) rfl with k' | k' <;> rw [show X.env.scope.names.lookup y = _ from k'] at k <;> cases k
    · rw [h2] at e'; cases e'
      exact ⟨c, h1, z.keeps kp⟩
  · have e : cenv.cells.lookup y = some c := e
    rcases mem e with ⟨h1, _⟩ | ⟨_, z⟩
    · obtain ⟨w, z⟩ := I.cell y c h1
      exact ⟨w, z.keeps kp⟩
    · exact ⟨_, z⟩
  · show H cenv.locals = none
    rw [hL]; exact I.hok.fresh (Nat.le_refl _)
  · have e : cenv.cells.lookup y = some c := e
    rcases mem e with ⟨h1, _⟩ | ⟨h1, _⟩
    · exact I.freeC y c h1
    · exact I.hok.fresh (Nat.le_of_succ_le h1)
  · exact absurd (show p ∈ ([] : List (Addr × Obj)) ++ [] from hp) (by simp)
/-- an item appended to a tracked list -/
theorem app_ok {E : Value → Shared → Prop} {D : Addr} {xs : List V} {y : V} {v : Value} {Q : Value → Shared → Prop} (I : Inv X pins σ H s) (hD : H D = some (.lst xs)) (hz : xs.length < sizeLine) (r : RelV y v)
    (h : ∀ s', Inv X pins σ (upd H D (.lst (xs ++ [y]))) s' → Q .none s') : wpAny (model X.prog X.w) X.A (call (.builtin "list.append") [.ref D, v]) Q E s := by
  obtain ⟨hz', its, n, ri, e⟩ := I.hok D _ hD
  have hl := ri.length
  refine append_at (hsz := by rw [List.size_toArray]; omega) e fun h' sb ho' => ?_
  refine h { s with heap := h' } (I.write (t' := s.toks) (by rw [hD]; trivial) (.inl rfl) (fun b u hb q => (sb.2 b hb).trans q) ⟨_, ho'⟩ ⟨by rw [List.length_append]; exact hz, its ++ [v], n + 1, ri.append (.cons r .nil), ?_⟩)
  rw [ho']
  simp
/-- a clause's tests -/
def PTs (X : Cx) (ifs : List Expr) (t : TT) : Prop :=
  ∀ (pins : List (Addr × Obj)) (s : Shared) (σ : St) (H : Hp) (Q : Bool → Hp → Prop), Inv X pins σ H s → t σ H Q →
    wpAny (model X.prog X.w) X.A (forIn ifs true fun c r => if r = true then do let ok ← isTrue c X.env (eval c X.env); pure (ForInStep.yield ok) else pure (ForInStep.yield r)) (TP X pins σ Q) X.xe s
def tYes : TT := fun _ H Q => Q true H
theorem pts_nil : PTs X [] tYes := fun _ _ _ H _ I h => wpAny_tests_nil ⟨H, I, h⟩
theorem pts_one {c : Expr} {t : TT} (h : PT X c t) : PTs X [c] t := fun pins s σ H Q I hw => wpAny_tests_one (h pins s σ H Q I hw)
end
theorem thnF {α : Type} {t : Sem α} {Q Q' : α → Shared → Prop} {M : Model} {A : Around} {E : Value → Shared → Prop} {s : Shared} (h : wpAny M A t Q (fun _ _ => False) s) (hQ : ∀ a s, Q a s → Q' a s) : wpAny M A t Q' E s := wpAny_mono h hQ fun _ _ z => False.elim z
/-- the loop of a list comprehension's block, the target of any form (codeAny_compLoop_tests asks a target that no tuple goes to; statement and proof follow it, PyProof/CompMap.lean:41-61, with the step letOwnedTupleGo kept) -/
theorem compLoop_any {prog : Program} {w : World} {A : Around} {R : Result → Shared → Prop} {s : Shared} {elt target iter : Expr} {ifs : List Expr} {scope : Scope} {pos : Pos} {it acc : Value} {env : Env} (I : Nat → Shared → Prop)
    (turn : ∀ n s, I n s → wpAny (model prog w) A (pyNext it) (fun r s₁ => match r with
      | none => R (.ok .next) s₁
      | some v => wpAny (model prog w) A (letOwnedTupleGo target it v) (fun _ s₁' => wpAny (model prog w) A (assign target env v) (fun _ s₂ =>
          wpAny (model prog w) A (forIn ifs true fun c r => if r = true then do let ok ← isTrue c env (eval c env); pure (ForInStep.yield ok) else pure (ForInStep.yield r)) (fun ok s₃ =>
            if ok = true then wpAny (model prog w) A (eval elt env) (fun x s₄ =>
              wpAny (model prog w) A (call (.builtin "list.append") [acc, x]) (fun _ s₅ => ∃ m, m < n ∧ I m s₅) (notedBy (model prog w) A env fun e s' => R (.error e) s') s₄) (notedBy (model prog w) A env fun e s' => R (.error e) s') s₃
            else ∃ m, m < n ∧ I m s₃) (notedBy (model prog w) A env fun e s' => R (.error e) s') s₂) (notedBy (model prog w) A env fun e s' => R (.error e) s') s₁') (notedBy (model prog w) A env fun e s' => R (.error e) s') s₁) (notedBy (model prog w) A env fun e s' => R (.error e) s') s)
    (n : Nat) (h : I n s) :
    codeAny (model prog w) A (.compLoop (.ListComp elt [⟨target, iter, ifs, 0⟩] scope pos) 0 it acc env) R s := by
  refine codeAny_loop rfl I (fun n s hI => ?_) n h
  show wpAny _ A ((compTurn (.ListComp elt [⟨target, iter, ifs, 0⟩] scope pos) 0 it acc env).onRaise (fun x => do noteFrame x env; theTreesLotGoes x)) _ _ s
  refine wpAny_noted ?_
  rw [compTurn_list]
  refine wpAny_bind (wpAny_standAt (wpAny_bind (wpAny_mono (turn n s hI) (fun r s₁ h₁ => ?_) fun _ _ h' => h')))
  cases r with
  | none => exact wpAny_pure h₁
  | some v =>
    refine wpAny_bind (wpAny_mono h₁ (fun _ s₁' h₁' => ?_) fun _ _ h' => h')
    refine wpAny_bind (wpAny_mono h₁' (fun _ s₂ h₂ => wpAny_bind (wpAny_mono h₂ (fun ok s₃ h₃ => ?_) fun _ _ h' => h')) fun _ _ h' => h')
    cases ok with
    | false => exact wpAny_pure ⟨rfl, h₃⟩
    | true =>
      exact wpAny_bind (wpAny_bind (wpAny_mono h₃ (fun x s₄ h₄ => wpAny_bind (wpAny_mono h₄ (fun _ s₅ h₅ => wpAny_pure (wpAny_pure ⟨rfl, h₅⟩)) fun _ _ h' => h')) fun _ _ h' => h'))
section
variable {X : Cx}
/-- [elt for target in iter if ..]: D the new list; W by the turn and a measure, Nx what a turn is to reach -/
def tLc (wi : TI) (g : TG) (tt : TT) (te : TE) (vs : List Nat) : TE := fun σ H Q => wi σ H fun J H1 => ∀ D, H1 D = none → ∃ W : Nat → Nat → Hp → Prop, (∃ m, W 0 m (upd H1 D (.lst []))) ∧ ∀ i m H, W i m H →
  (J.stop i H ∧ Q (.ref D) H) ∨ (J.go i H ∧ ∃ Nx : Hp → Prop, (∀ H', Nx H' → ∃ m', m' < m ∧ W (i + 1) m' H') ∧ ∀ x H', J.yld i H x H' → g x (wipe σ vs) H' fun σ2 H2 => wipe σ2 vs = wipe σ vs ∧ tt σ2 H2 fun b H3 =>
    if b = true then te σ2 H3 fun y H4 => ∃ acc, H4 D = some (.lst acc) ∧ acc.length < sizeLine ∧ Nx (upd H4 D (.lst (acc ++ [y]))) else Nx H3)
theorem lc_core {pins : List (Addr × Obj)} {s : Shared} {σ : St} {H : Hp} {Q : VK} {elt tg iter : Expr} {ifs : List Expr} {scope : Scope} {own : List (Str × Nat)} {pos pos' : Pos} {wi : TI} {g : TG} {tt : TT} {te : TE} {use : Option (Value → Sem Unit)} {Qf : Value → Shared → Prop}
    (hc : X.calm = true) (hN : X.N.Nodup) (I : Inv X pins σ H s) (hi : PI X tg iter wi) (ok : BlkOk X.N X.env.scope scope own)
    (hg : ∀ (s : Shared) (H : Hp) (C : Addr) (cl : List (Str × Addr)) (fp : List Addr), PG (X.blk s H scope (compEnvC scope cl C X.env) fp) tg g) (ht : ∀ (s : Shared) (H : Hp) (C : Addr) (cl : List (Str × Addr)) (fp : List Addr), PTs (X.blk s H scope (compEnvC scope cl C X.env) fp) ifs tt)
    (he : ∀ (s : Shared) (H : Hp) (C : Addr) (cl : List (Str × Addr)) (fp : List Addr), PE (X.blk s H scope (compEnvC scope cl C X.env) fp) elt te) (hs : ∀ x, foldedSetIterable iter X.env x = pure x)
    (h : tLc wi g tt te (own.map (·.2)) σ H Q)
    (hRR : ∀ D C s' m H', Inv X pins σ H' s' → Q (.ref D) H' → s'.heap.Ns C m → FpOk X pins H' C → compPost (model X.prog X.w) X.A X.xe use Qf (.ref D) C (.ok .next) s') :
    wpAny (model X.prog X.w) X.A (comprehension (.ListComp elt [⟨tg, iter, ifs, 0⟩] scope pos) scope X.env pos' (newList []) false (eval iter X.env) use) Qf X.xe s := by
  have hfree : ∀ y ∈ scope.names, y.2 = .free → ∃ c, X.env.cells.lookup y.1 = some c := fun y hy e => by
    rcases ok.free y hy e with k | k
    · exact I.ok.has _ (.inl k)
    · exact I.ok.has _ (.inr k)
  refine wpAny_comprehension_free (use := use) rfl hs (closure_ok hfree) ok.kind (fun y hy e => by rw [ok.uniq y hy, e])
    (thn (hi pins s σ H _ I h) fun xv s1 hx => thn hx fun itv s2 h2 => ?_)
  obtain ⟨it, fp, tn, J, H2, e, I2, T, st2, f2, q⟩ := h2
  subst e
  refine wpAny_newObj_type (newEnv_comp ?_) (by show 0 ≤ sizeLine; decide)
  generalize hD : s2.heap.objs.size = D
  have hDn : H2 D = none := I2.hok.fresh (Nat.le_of_eq hD)
  obtain ⟨W, ⟨m0, w0⟩, turn⟩ := q D hDn
  -- the new list
  generalize hs3 : ({ s2 with heap := s2.heap.push { cls := .type "list", data := .seq ([] : List Value).toArray } } : Shared) = s3
  have I3 : Inv X pins σ (upd H2 D (.lst [])) s3 := by
    rw [← hs3]
    refine I2.laid (t' := s2.toks) (fun b o e => Heap.get?_push_of_some _ e) (Nat.le_of_eq hD) ⟨Nat.zero_le _, [], 0, .nil, ?_⟩
    rw [← hD]
    exact Heap.get?_push_size _ rfl
  have h3 : s3.heap = s2.heap.push { cls := .type "list", data := .seq ([] : List Value).toArray } := by rw [← hs3]
  have sz : ∀ b ∈ fp, b < s2.heap.objs.size := fun b hb => by
    obtain ⟨o, e, _⟩ := T.obj _ _ st2 b hb
    exact Heap.lt_size e
  have f3 : ∀ b ∈ fp, FpOk X pins (upd H2 D (.lst [])) b ∧ b < s3.heap.objs.size := fun b hb => by
    have hlt := sz b hb
    refine ⟨⟨?_, (f2 b hb).2⟩, by rw [h3, Heap.size_push]; exact Nat.lt_succ_of_lt hlt⟩
    rw [upd_ne (by rw [← hD]; exact Nat.ne_of_lt hlt)]
    exact (f2 b hb).1
  have st3 : tn 0 s3.heap := T.keep _ _ _ st2 fun b _ o e => by rw [h3]; exact Heap.get?_push_of_some _ e
  have I4 := block_start I3 ok hN f3
  have pg := hg s3 (upd H2 D (.lst [])) s3.heap.objs.size (cellsFrom (s3.heap.objs.size + 1) scope.names (cloFrom X.env.cells scope.names [])) fp
  have pt := ht s3 (upd H2 D (.lst [])) s3.heap.objs.size (cellsFrom (s3.heap.objs.size + 1) scope.names (cloFrom X.env.cells scope.names [])) fp
  have pe := he s3 (upd H2 D (.lst [])) s3.heap.objs.size (cellsFrom (s3.heap.objs.size + 1) scope.names (cloFrom X.env.cells scope.names [])) fp
  show codeAny _ _ (.compStart (.ListComp elt [⟨tg, iter, ifs, 0⟩] scope pos) 0 (.ref it) (.ref D) (compEnvC scope (cellsFrom (s3.heap.objs.size + 1) scope.names (cloFrom X.env.cells scope.names [])) s3.heap.objs.size X.env)) (compPost (model X.prog X.w) X.A X.xe use Qf (.ref D) s3.heap.objs.size) { s3 with heap := pushCells (s3.heap.push { cls := .type "dict", data := .dict #[] }) scope.names }
  have nfp : ∀ b ∈ fp, (upd H2 D (.lst [])) b = none := fun b hb => (f3 b hb).1.1
  generalize hce : compEnvC scope (cellsFrom (s3.heap.objs.size + 1) scope.names (cloFrom X.env.cells scope.names [])) s3.heap.objs.size X.env = ce at I4 pg pt pe ⊢
  have cL : ce.locals = s3.heap.objs.size := by subst hce; rfl
  generalize hH3 : upd H2 D (.lst []) = H3 at I3 I4 pg pt pe w0 nfp f3
  generalize hs4 : ({ s3 with heap := pushCells (s3.heap.push { cls := .type "dict", data := .dict #[] }) scope.names } : Shared) = s4 at I4 ⊢
  have st4 : tn 0 s4.heap := T.keep _ _ _ st3 fun b _ o e => by rw [← hs4]; exact pushCells_keeps _ _ _ _ (Heap.get?_push_of_some _ e)
  have stat : ∀ {σ' : St} {H' : Hp} {s' : Shared}, Inv (X.blk s3 H3 scope ce fp) [] σ' H' s' → (∀ b ∈ fp, H' b = none) → ∀ b ∈ fp, FpOk (X.blk s3 H3 scope ce fp) [] H' b := fun {σ' H' s'} I' hn b hb =>
    ⟨hn b hb, (I'.ok.exf b hb).1, I'.ok.exfs b hb, .inl hb, fun x c e => (I'.ok.exf b hb).2 x c e, fun p hp => absurd (show p ∈ ([] : List (Addr × Obj)) ++ [] from hp) (by simp)⟩
  have loop : codeAny (model X.prog X.w) X.A (.compLoop (.ListComp elt [⟨tg, iter, ifs, 0⟩] scope pos) 0 (.ref it) (.ref D) ce) (compPost (model X.prog X.w) X.A X.xe use Qf (.ref D) s3.heap.objs.size) s4 := by
    refine compLoop_any (fun n s' => ∃ i H', Inv (X.blk s3 H3 scope ce fp) [] (wipe σ (own.map (·.2))) H' s' ∧ tn i s'.heap ∧ (∀ b ∈ fp, H' b = none) ∧ W i n H') ?_ m0 ⟨0, H3, I4, st4, nfp, w0⟩
    rintro n s5 ⟨i, H5, I5, st5, n5, w5⟩
    rcases turn i n H5 w5 with ⟨stop, qq⟩ | ⟨go, Nx, hNx, step⟩
    · have td := T.done (X.blk s3 H3 scope ce fp) rfl rfl rfl hc i [] s5 _ H5 (fun _ _ => False) I5 (stat I5 n5) st5 stop
      refine thnF td fun r s6 ⟨hr, I6⟩ => ?_
      subst hr
      -- back in the def's context
      have I7 : Inv X pins σ H5 s6 := I3.call' (ch := fp) I6.os I6.base I6.hok I6.bare fun b hb => ⟨(f3 b hb).1.2.2.2.1, (f3 b hb).1.2.1, (f3 b hb).1.2.2.2.2.1, (f3 b hb).1.2.2.2.2.2⟩
      have nC : H5 s3.heap.objs.size = none := by
        have z : H5 ce.locals = none := I6.free
        rw [cL] at z
        exact z
      obtain ⟨m, hn, _⟩ := I6.loc
      have hn : s6.heap.Ns ce.locals m := hn
      rw [cL] at hn
      exact hRR D s3.heap.objs.size s6 m H5 I7 qq hn (I3.fpOk (Nat.le_refl _) nC)
    · have ti := T.item (X.blk s3 H3 scope ce fp) rfl rfl rfl hc i [] s5 _ H5 (fun _ _ => False) I5 (stat I5 n5) st5 go
      refine thnF ti fun r s6 ⟨u, hr, h6⟩ => ?_
      subst hr
      refine thnF h6 fun _ s7 ⟨x, H7, I7, r7, y7, st7, n7⟩ => ?_
      have I7' := I7.pinned (stat I7 n7) (T.obj _ _ st7)
      refine thnF (pg _ s7 _ H7 x u _ I7' r7 (step x H7 y7)) fun _ s8 ⟨σ8, H8, I8, hw8, q8⟩ => ?_
      refine thnF (pt _ s8 σ8 H8 _ I8 q8) fun b s9 ⟨H9, I9, q9⟩ => ?_
      -- the turn's end
      have fin : ∀ {s' : Shared} {H' : Hp}, Inv (X.blk s3 H3 scope ce fp) ([] ++ pinsAt fp s7.heap) σ8 H' s' → Nx H' → ∃ m, m < n ∧ ∃ i H', Inv (X.blk s3 H3 scope ce fp) [] (wipe σ (own.map (·.2))) H' s' ∧ tn i s'.heap ∧ (∀ b ∈ fp, H' b = none) ∧ W i m H' := fun {s' H'} I' nx => by
        obtain ⟨m', hm, w'⟩ := hNx H' nx
        have pin' : ∀ b ∈ fp, ∀ o, s7.heap.get? b = some o → s'.heap.get? b = some o ∧ H' b = none := fun b hb o e =>
          let z := I'.pin (b, o) (List.mem_append_right _ (List.mem_append_right _ (mem_pinsAt hb e)))
          ⟨z.1, z.2.1⟩
        have hl : (wipe σ (own.map (·.2))).length = σ8.length := by rw [← hw8, wipe_length]
        refine ⟨m', hm, i + 1, H', (I'.unpinned (pins := [])).weak hl (fun j v e => ?_), T.keep _ _ _ st7 fun b hb o e => (pin' b hb o e).1, fun b hb => ?_, w'⟩
        · rw [← hw8] at e
          exact (wipe_some e).1
        · obtain ⟨o, e, _⟩ := T.obj _ _ st7 b hb
          exact (pin' b hb o e).2
      cases b with
      | false =>
        simp only [Bool.false_eq_true, if_false] at q9 ⊢
        exact fin I9 q9
      | true =>
        simp only [if_true] at q9 ⊢
        refine thnF (pe _ s9 σ8 H9 _ I9 q9) fun z s10 ⟨yv, H10, I10, r10, acc, hD10, hz10, nx⟩ => ?_
        exact app_ok (X := X.blk s3 H3 scope ce fp) I10 hD10 hz10 r10 fun s11 I11 => fin I11 nx
  exact codeAny_compStart_list loop (T.self X.A 0 _ _ _ st4 loop)
/-- as a value -/
theorem pe_lc {elt tg iter : Expr} {ifs : List Expr} {scope : Scope} {own : List (Str × Nat)} {pos : Pos} {wi : TI} {g : TG} {tt : TT} {te : TE} (hc : X.calm = true) (hN : X.N.Nodup) (hi : PI X tg iter wi) (ok : BlkOk X.N X.env.scope scope own)
    (hg : ∀ (s : Shared) (H : Hp) (C : Addr) (cl : List (Str × Addr)) (fp : List Addr), PG (X.blk s H scope (compEnvC scope cl C X.env) fp) tg g) (ht : ∀ (s : Shared) (H : Hp) (C : Addr) (cl : List (Str × Addr)) (fp : List Addr), PTs (X.blk s H scope (compEnvC scope cl C X.env) fp) ifs tt)
    (he : ∀ (s : Shared) (H : Hp) (C : Addr) (cl : List (Str × Addr)) (fp : List Addr), PE (X.blk s H scope (compEnvC scope cl C X.env) fp) elt te) (hs : ∀ x, foldedSetIterable iter X.env x = pure x := by intro _; rfl) :
    PE X (.ListComp elt [⟨tg, iter, ifs, 0⟩] scope pos) (tLc wi g tt te (own.map (·.2))) := by
  intro pins s σ H Q I h
  rw [eval_ListComp]
  refine lc_core hc hN I hi ok hg ht he hs h fun D C s' m H' I' q hn f => ⟨m, hn, fun h'' sb => ?_⟩
  obtain ⟨f0, f1, f2, f3, f4, f5⟩ := f
  exact ⟨.ref D, H', I'.turned (t' := s'.toks) (fun b o hb e => (sb.2 b hb).trans e) f0 f1 f3 f4 f5, rfl, q⟩
/-- name = [..] on one line, the name a local -/
theorem ps_setLc {i : Nat} {y : Str} {py : Pos} {elt tg iter : Expr} {ifs : List Expr} {scope : Scope} {own : List (Str × Nat)} {pos spos : Pos} {wi : TI} {g : TG} {tt : TT} {te : TE} (hc : X.calm = true) (hN : X.N.Nodup) (hy : X.N[i]? = some y) (hyl : X.env.scope.names.lookup y = some .local)
    (hsw : swapsWith (.ListComp elt [⟨tg, iter, ifs, 0⟩] scope pos) (some (.Name y py)) spos.line X.env = pure true) (hi : PI X tg iter wi) (ok : BlkOk X.N X.env.scope scope own)
    (hg : ∀ (s : Shared) (H : Hp) (C : Addr) (cl : List (Str × Addr)) (fp : List Addr), PG (X.blk s H scope (compEnvC scope cl C X.env) fp) tg g) (ht : ∀ (s : Shared) (H : Hp) (C : Addr) (cl : List (Str × Addr)) (fp : List Addr), PTs (X.blk s H scope (compEnvC scope cl C X.env) fp) ifs tt)
    (he : ∀ (s : Shared) (H : Hp) (C : Addr) (cl : List (Str × Addr)) (fp : List Addr), PE (X.blk s H scope (compEnvC scope cl C X.env) fp) elt te) (hs : ∀ x, foldedSetIterable iter X.env x = pure x := by intro _; rfl) :
    PS X (.Assign [.Name y py] (.ListComp elt [⟨tg, iter, ifs, 0⟩] scope pos) spos) (tAsg (tLc wi g tt te (own.map (·.2))) (gName i)) := by
  intro pins s σ H D I h
  rw [exec_Assign_Name_used _ _ _ _ hsw]
  refine wpAny_bind (wpAny_standAt (wpAny_bind ?_))
  show wpAny _ X.A (do let _ ← comprehension (.ListComp elt [⟨tg, iter, ifs, 0⟩] scope pos) scope X.env (firstIterPos [⟨tg, iter, ifs, 0⟩] pos) (newList []) false (eval iter X.env) (some (assign (.Name y py) X.env))) _ _ s
  have h : tLc wi g tt te (own.map (·.2)) σ H (fun x H1 => gName i x σ H1 D.nx) := h
  refine wpAny_bind (thn (lc_core (Qf := fun _ s' => SP X pins D .next s') hc hN I hi ok hg ht he hs h fun L C s' m H' I' q hn f => ?_) fun _ s' hq => wpAny_pure (wpAny_pure hq))
  show wpAny _ _ (assign (.Name y py) X.env (.ref L)) _ _ _
  refine wpAny_assign_Name (store_ok2 (v := V.ref L) I' hN hy (.inl hyl) rfl (fun s2 I2 ⟨a, sb, ha⟩ => ?_) (.inr hyl))
  obtain ⟨f0, f1, f2, f3, f4, f5⟩ := f
  have haC : C ≠ a := by
    rcases ha with z | z
    · rw [z]; exact f1
    · exact fun e => f4 y a z e.symm
  refine ⟨m, hn.sameBut sb haC, fun h3 sb3 => ?_⟩
  exact ⟨_, H', I2.turned (t' := s2.toks) (fun b o hb e => (sb3.2 b hb).trans e) f0 f1 f3 f4 f5, q⟩
end
/-- over a list that the block leaves as it is -/
theorem lc_list {K : PySem.W.Frag} {a : Addr} {xs : List V} {g : TG} {tt : TT} {te : TE} {vs : List Nat} {σ : St} {H1 : Hp} {D : Addr} {Qd : Hp → Prop} (Pv : Nat → Hp → Prop) (h0 : Pv 0 (upd H1 D (.lst []))) (hl : ∀ i H, i ≤ xs.length → Pv i H → SqL K H a xs)
    (hs : ∀ i x H, xs[i]? = some x → Pv i H → g x (wipe σ vs) H fun σ2 H2 => wipe σ2 vs = wipe σ vs ∧ tt σ2 H2 fun b H3 =>
      if b = true then te σ2 H3 fun y H4 => ∃ acc, H4 D = some (.lst acc) ∧ acc.length < sizeLine ∧ Pv (i + 1) (upd H4 D (.lst (acc ++ [y]))) else Pv (i + 1) H3) (hd : ∀ H, Pv xs.length H → Qd H) :
    ∃ W : Nat → Nat → Hp → Prop, (∃ m, W 0 m (upd H1 D (.lst []))) ∧ ∀ i m H, W i m H →
      ((Itl K a).stop i H ∧ Qd H) ∨ ((Itl K a).go i H ∧ ∃ Nx : Hp → Prop, (∀ H', Nx H' → ∃ m', m' < m ∧ W (i + 1) m' H') ∧ ∀ x H', (Itl K a).yld i H x H' → g x (wipe σ vs) H' fun σ2 H2 => wipe σ2 vs = wipe σ vs ∧ tt σ2 H2 fun b H3 =>
        if b = true then te σ2 H3 fun y H4 => ∃ acc, H4 D = some (.lst acc) ∧ acc.length < sizeLine ∧ Nx (upd H4 D (.lst (acc ++ [y]))) else Nx H3) := by
  refine ⟨fun i m H => m = xs.length - i ∧ i ≤ xs.length ∧ Pv i H, ⟨xs.length, by simp, Nat.zero_le _, h0⟩, ?_⟩
  rintro i m H ⟨rfl, hi, p⟩
  have q := hl i H hi p
  by_cases hlt : i < xs.length
  · refine .inr ⟨⟨xs, xs[i], q, by simp [hlt]⟩, Pv (i + 1), fun H' p' => ⟨xs.length - (i + 1), by omega, rfl, hlt, p'⟩, fun x H' y => ?_⟩
    obtain ⟨e, y⟩ := y
    subst e
    exact hs i x _ (y xs q) p
  · have e : i = xs.length := by omega
    subst e
    exact .inl ⟨⟨xs, q, Nat.le_refl _⟩, hd H p⟩
def blkC (N : List Str) (sc scope : Scope) (own : List (Str × Nat)) : Bool :=
  (match scope.kind with | .function => true | _ => false) && (scope.names.all fun y => decide (scope.names.lookup y.1 = some y.2)) && (own.all fun p => decide (N[p.2]? = some p.1)) &&
    (scope.names.all fun y => match y.2 with
      | .free => (match sc.names.lookup y.1 with | some .cell => true | some .free => true | _ => false)
      | .local => decide (y.1 ∈ own.map (·.1)) || decide (y.1 ∉ N)
      | .cell => decide (y.1 ∈ own.map (·.1)) || decide (y.1 ∉ N)
      | _ => true)
theorem blkOk_by {N : List Str} {sc scope : Scope} {own : List (Str × Nat)} (h : blkC N sc scope own = true) : BlkOk N sc scope own := by
  unfold blkC at h
  simp only [Bool.and_eq_true, List.all_eq_true, decide_eq_true_eq] at h
  obtain ⟨⟨⟨h1, h2⟩, h3⟩, h4⟩ := h
  refine ⟨?_, h2, h3, fun y hy e => ?_, fun y hy e => ?_⟩
  · split at h1
    · assumption
    · cases h1
  · have q := h4 y hy
    simp only [e] at q
    split at q <;> first | exact .inl (by assumption) | exact .inr (by assumption) | cases q
  · have q := h4 y hy
    rcases e with e | e <;> (simp only [e, Bool.or_eq_true, decide_eq_true_eq] at q; exact q)
end L2
namespace L2
open PySem PySem.Spec PyProof.Rows
section
variable {prog : Program} {w : World} {A : Around} {R : Result → Shared → Prop} {s : Shared} {elt t0 i0 t1 i1 : Expr} {ifs0 ifs1 : List Expr} {scope : Scope} {pos : Pos} {it acc : Value} {env : Env}
end
section
variable {X : Cx}
end
end L2
namespace L2
open PySem PySem.Spec PyProof.Rows
section
variable {κ : Type} [DecidableEq κ]
def valV (kvs : List (κ × V)) (k : κ) : Option V := (kvs.find? fun kv => decide (kv.1 = k)).map (·.2)
/-- in its place, or at the end -/
def putK (kvs : List (κ × V)) (k : κ) (v : V) : List (κ × V) :=
  if (kvs.any fun kv => decide (kv.1 = k)) = true then kvs.map (fun kv => if kv.1 = k then (kv.1, v) else kv) else kvs ++ [(k, v)]
def dropK (kvs : List (κ × V)) (k : κ) : List (κ × V) := kvs.filter fun kv => decide (kv.1 ≠ k)
theorem valV_pos {p : κ × V} {r : List (κ × V)} {k : κ} (e : p.1 = k) : valV (p :: r) k = some p.2 := by simp [valV, List.find?_cons, e]
theorem valV_neg {p : κ × V} {r : List (κ × V)} {k : κ} (e : ¬ p.1 = k) : valV (p :: r) k = valV r k := by simp [valV, List.find?_cons, e]
theorem valV_any (k : κ) : ∀ kvs : List (κ × V), (kvs.any fun kv => decide (kv.1 = k)) = (valV kvs k).isSome
  | [] => rfl
  | p :: r => by
    rw [List.any_cons]
    by_cases e : p.1 = k
    · simp only [valV_pos e, decide_eq_true e, Bool.true_or, Option.isSome_some]
    · rw [valV_neg e, decide_eq_false e, Bool.false_or]; exact valV_any k r
theorem length_putK (kvs : List (κ × V)) (k : κ) (v : V) : (putK kvs k v).length ≤ kvs.length + 1 := by
  unfold putK
  split
  · rw [List.length_map]; omega
  · rw [List.length_append, List.length_cons, List.length_nil]; omega
theorem RelO.isSome_eq {o : Option V} {u : Option Value} (r : RelO o u) : o.isSome = u.isSome := by
  cases o with
  | none => cases u with
    | none => rfl
    | some _ => exact (show False from r).elim
  | some _ => cases u with
    | none => exact (show False from r).elim
    | some _ => rfl
theorem RelO.getD {o : Option V} {u : Option Value} {d : V} {d' : Value} (r : RelO o u) (rd : RelV d d') : RelV (o.getD d) (u.getD d') := by
  cases o with
  | none => cases u with
    | none => exact rd
    | some _ => exact (show False from r).elim
  | some _ => cases u with
    | none => exact (show False from r).elim
    | some _ => exact r
/-- raw tables of the same keys -/
theorem KV.val {kvs : List (κ × V)} {vs : List (κ × Value)} (r : KV kvs vs) (k : κ) : RelO (valV kvs k) (valueAt vs k) := by
  unfold KV at r
  induction r with
  | nil => exact True.intro
  | @cons p q ps qs h t ih =>
    obtain ⟨h1, h2⟩ := h
    by_cases e : p.1 = k
    · have e' : q.1 = k := h1.symm.trans e
      have b : valueAt (q :: qs) k = some q.2 := by simp [valueAt, List.find?_cons, e']
      rw [valV_pos e, b]; exact h2
    · have e' : ¬ q.1 = k := fun z => e (h1.trans z)
      have b : valueAt (q :: qs) k = valueAt qs k := by simp [valueAt, List.find?_cons, e']
      rw [valV_neg e, b]; exact ih
theorem KV.any {kvs : List (κ × V)} {vs : List (κ × Value)} (r : KV kvs vs) (k : κ) : (kvs.any fun kv => decide (kv.1 = k)) = vs.any fun kv => decide (kv.1 = k) := by
  unfold KV at r
  induction r with
  | nil => rfl
  | cons h t ih => rw [List.any_cons, List.any_cons, ih, h.1]
theorem KV.repl {kvs : List (κ × V)} {vs : List (κ × Value)} (r : KV kvs vs) (k : κ) {y : V} {u : Value} (ry : RelV y u) :
    KV (kvs.map fun kv => if kv.1 = k then (kv.1, y) else kv) (vs.map fun kv => if kv.1 = k then (kv.1, u) else kv) := by
  unfold KV at r ⊢
  induction r with
  | nil => exact .nil
  | @cons p q ps qs h t ih =>
    rw [List.map_cons, List.map_cons]
    refine .cons ?_ ih
    obtain ⟨h1, h2⟩ := h
    by_cases e : p.1 = k
    · rw [if_pos e, if_pos (h1.symm.trans e)]; exact ⟨h1, ry⟩
    · rw [if_neg e, if_neg (fun z => e (h1.trans z))]; exact ⟨h1, h2⟩
theorem KV.put {kvs : List (κ × V)} {vs : List (κ × Value)} (r : KV kvs vs) (k : κ) {y : V} {u : Value} (ry : RelV y u) : KV (putK kvs k y) (stored vs k u) := by
  unfold putK stored
  rw [r.any k]
  by_cases e : (vs.any fun kv => decide (kv.1 = k)) = true
  · rw [if_pos e, if_pos e]; exact r.repl k ry
  · rw [if_neg e, if_neg e]; exact Paired.snoc r ⟨rfl, ry⟩
theorem KV.drop {kvs : List (κ × V)} {vs : List (κ × Value)} (r : KV kvs vs) (k : κ) : KV (dropK kvs k) (without vs k) := by
  unfold KV at r ⊢
  unfold dropK without
  induction r with
  | nil => exact .nil
  | @cons p q ps qs h t ih =>
    obtain ⟨h1, h2⟩ := h
    rw [List.filter_cons, List.filter_cons]
    by_cases e : p.1 = k
    · have a : ¬ decide (p.1 ≠ k) = true := by simp [e]
      have b : ¬ decide (q.1 ≠ k) = true := by simp [h1.symm.trans e]
      rw [if_neg a, if_neg b]; exact ih
    · have e' : ¬ q.1 = k := fun z => e (h1.trans z)
      have a : decide (p.1 ≠ k) = true := by simp [e]
      have b : decide (q.1 ≠ k) = true := by simp [e']
      rw [if_pos a, if_pos b]; exact .cons ⟨h1, h2⟩ ih
theorem KV.keys {kvs : List (κ × V)} {vs : List (κ × Value)} (r : KV kvs vs) : kvs.map (·.1) = vs.map (·.1) := by
  unfold KV at r
  induction r with
  | nil => rfl
  | cons h t ih => rw [List.map_cons, List.map_cons, ih, h.1]
theorem KV.length {kvs : List (κ × V)} {vs : List (κ × Value)} (r : KV kvs vs) : kvs.length = vs.length := Paired.length r
end
theorem kV_is {P : Program} {w : World} {k : Key} {u : Value} (r : RelV (kV k) u) : (mixKind P w).is k u = true := by
  cases k with
  | inl i => obtain ⟨t, e⟩ := (show ∃ t, u = Value.int i t from r); subst e; exact mixKind_int P w i t
  | inr x => obtain ⟨t, e⟩ := (show ∃ t, u = Value.str x t from r); subst e; exact mixKind_str P w x t
theorem items_are {P : Program} {w : World} : ∀ {ks : List Key} {us : List Value}, Vals (ks.map kV) us → ItemsAre (mixKind P w) ks us
  | [], _, r => by rw [List.map_nil] at r; cases r; exact .nil
  | k :: ks, _, r => by
    rw [List.map_cons] at r
    cases r with
    | cons h t => exact .cons (kV_is h) (items_are t)
/-- raw entries of a dict with tuple keys -/
abbrev KT (H : Hp) : List (List Key × V) → List (List Key × Addr × Value) → Prop := Paired fun p q => p.1 = q.1 ∧ H q.2.1 = some (.tup (p.1.map kV)) ∧ RelV p.2 q.2.2
theorem KT.val {H : Hp} {kvs : List (List Key × V)} {xs : List (List Key × Addr × Value)} (r : KT H kvs xs) (k : List Key) : RelO (valV kvs k) ((atKey xs k).map (·.2)) := by
  induction r with
  | nil => exact True.intro
  | @cons p q ps qs h t ih =>
    obtain ⟨h1, _, h2⟩ := h
    by_cases e : p.1 = k
    · have e' : q.1 = k := h1.symm.trans e
      have b : atKey (q :: qs) k = some q.2 := by simp [atKey, List.find?_cons, e']
      rw [valV_pos e, b]; exact h2
    · have e' : ¬ q.1 = k := fun z => e (h1.trans z)
      have b : atKey (q :: qs) k = atKey qs k := by simp [atKey, List.find?_cons, e']
      rw [valV_neg e, b]; exact ih
theorem KT.repl {H : Hp} {kvs : List (List Key × V)} {xs : List (List Key × Addr × Value)} (r : KT H kvs xs) (k : List Key) {y : V} {u : Value} (ry : RelV y u) :
    KT H (kvs.map fun kv => if kv.1 = k then (kv.1, y) else kv) (xs.map (putAt k u)) := by
  induction r with
  | nil => exact .nil
  | @cons p q ps qs h t ih =>
    rw [List.map_cons, List.map_cons]
    refine .cons ?_ ih
    obtain ⟨h1, h2, h3⟩ := h
    unfold putAt
    by_cases e : p.1 = k
    · rw [if_pos e, if_pos (h1.symm.trans e)]; exact ⟨h1, h2, ry⟩
    · rw [if_neg e, if_neg (fun z => e (h1.trans z))]; exact ⟨h1, h2, h3⟩
theorem KT.put {H : Hp} {kvs : List (List Key × V)} {xs : List (List Key × Addr × Value)} (r : KT H kvs xs) (k : List Key) {b : Addr} {y : V} {u : Value} (hb : H b = some (.tup (k.map kV))) (ry : RelV y u) :
    KT H (putK kvs k y) (storedH xs k b u) := by
  have e : (kvs.any fun kv => decide (kv.1 = k)) = (atKey xs k).isSome := by
    rw [valV_any, (r.val k).isSome_eq, Option.isSome_map]
  unfold putK storedH
  rw [e]
  by_cases q : (atKey xs k).isSome = true
  · rw [if_pos q, if_pos q]; exact r.repl k ry
  · rw [if_neg q, if_neg q]; exact Paired.snoc r ⟨rfl, hb, ry⟩
theorem KT.keeps {H H' : Hp} {kvs : List (List Key × V)} {xs : List (List Key × Addr × Value)} (r : KT H kvs xs) (ht : ∀ b ys, H b = some (.tup ys) → H' b = some (.tup ys)) : KT H' kvs xs :=
  Paired.mapP r fun _ _ z => ⟨z.1, ht _ _ z.2.1, z.2.2⟩
section
variable {P : Program} {w : World} {H : Hp} {h : Heap} {a : Addr}
theorem rd_of {u : HO} (ok : HOk P w H h) (e : Rd H a u) : ObjOk P w H h a u := e.ok ok
theorem dk_rd {kvs : List (Key × V)} (ok : HOk P w H h) (e : Rd H a (.dK kvs)) : kvs.length ≤ sizeLine ∧ (a == sysModules) = false ∧ ∃ vs, KV kvs vs ∧ h.DictOf (mixKind P w) a vs :=
  show ObjOk P w H h a (.dK kvs) from rd_of ok e
theorem dk_of {kvs : List (Key × V)} (ok : HOk P w H h) (e : H a = some (.dK kvs)) : kvs.length ≤ sizeLine ∧ (a == sysModules) = false ∧ ∃ vs, KV kvs vs ∧ h.DictOf (mixKind P w) a vs := dk_rd ok (.inl e)
/-- a tracked tuple of ints and texts is a key -/
theorem key_of {ks : List Key} (ok : HOk P w H h) (e : H a = some (.tup (ks.map kV))) : (tupleKind (mixKind P w)).is h ks a := by
  obtain ⟨_, its, r, o, h1, h2, n, h3⟩ := (show ObjOk P w H h a (.tup (ks.map kV)) from ok a _ e)
  exact ⟨o, its.toArray, n, h1, h2, h3, by simpa using items_are r⟩
theorem dt_rd {kvs : List (List Key × V)} (ok : HOk P w H h) (e : Rd H a (.dT kvs)) : kvs.length ≤ sizeLine ∧ (a == sysModules) = false ∧
    ∃ xs, KT H kvs xs ∧ h.DictOfH (tupleKind (mixKind P w)) a xs := by
  obtain ⟨z, y, xs, r, o, es, ep, h1, h2, h3, h4, h5⟩ := (show ObjOk P w H h a (.dT kvs) from rd_of ok e)
  refine ⟨z, y, xs, r, o, es, ep, h1, h2, h3, h4, fun x hx => ?_, h5⟩
  have all : ∀ {l : List (List Key × V)} {m : List (List Key × Addr × Value)}, KT H l m → ∀ x ∈ m, (tupleKind (mixKind P w)).is h x.1 x.2.1 := by
    intro l m q
    induction q with
    | nil => intro x hx; exact nomatch hx
    | @cons p q ps qs hq t ih =>
      intro x hx
      rcases List.mem_cons.mp hx with e | hx
      · subst e
        exact key_of ok (by rw [← hq.1]; exact hq.2.1)
      · exact ih x hx
  exact all r x hx
end
/-- what the dict at a holds at the key y -/
def DGet (H : Hp) (a : Addr) (y : V) (r : Option V) : Prop :=
  (∃ kvs k, Rd H a (.dK kvs) ∧ y = kV k ∧ r = valV kvs k) ∨ ∃ kvs k b, Rd H a (.dT kvs) ∧ y = .ref b ∧ H b = some (.tup (k.map kV)) ∧ r = valV kvs k
/-- the heap behind a[y] = v -/
def DPut (H : Hp) (a : Addr) (y v : V) (H' : Hp) : Prop :=
  (∃ kvs k, H a = some (.dK kvs) ∧ y = kV k ∧ kvs.length < sizeLine ∧ H' = upd H a (.dK (putK kvs k v))) ∨
  ∃ kvs k b, H a = some (.dT kvs) ∧ y = .ref b ∧ H b = some (.tup (k.map kV)) ∧ kvs.length < sizeLine ∧ H' = upd H a (.dT (putK kvs k v))
theorem DGet.k {H : Hp} {a : Addr} {kvs : List (Key × V)} {k : Key} (e : H a = some (.dK kvs)) : DGet H a (kV k) (valV kvs k) := .inl ⟨kvs, k, .inl e, rfl, rfl⟩
theorem DGet.t {H : Hp} {a b : Addr} {kvs : List (List Key × V)} {k : List Key} (e : H a = some (.dT kvs)) (eb : H b = some (.tup (k.map kV))) : DGet H a (.ref b) (valV kvs k) := .inr ⟨kvs, k, b, .inl e, rfl, eb, rfl⟩
theorem DPut.k {H : Hp} {a : Addr} {kvs : List (Key × V)} {k : Key} {v : V} (e : H a = some (.dK kvs)) (hl : kvs.length < sizeLine) : DPut H a (kV k) v (upd H a (.dK (putK kvs k v))) := .inl ⟨kvs, k, e, rfl, hl, rfl⟩
theorem DPut.t {H : Hp} {a b : Addr} {kvs : List (List Key × V)} {k : List Key} {v : V} (e : H a = some (.dT kvs)) (eb : H b = some (.tup (k.map kV))) (hl : kvs.length < sizeLine) :
    DPut H a (.ref b) v (upd H a (.dT (putK kvs k v))) := .inr ⟨kvs, k, b, e, rfl, eb, hl, rfl⟩
section
variable {X : Cx} {pins : List (Addr × Obj)} {σ : St} {H : Hp} {s : Shared} {a : Addr} {y v : V} {u r : Value} {o : Option V} {A : Around} {E : Value → Shared → Prop}
theorem Inv.big (I : Inv X pins σ H s) : sysModules < s.heap.objs.size := by
  have h : mainGlobals < s.heap.objs.size := (I.mod.glob.keeps I.bk).lt
  exact Nat.lt_trans (by decide) h
/-- d[y], there -/
theorem d_getItem {Q : Value → Shared → Prop} (hu : A.units + 1 < cLine) (I : Inv X pins σ H s) (g : DGet H a y (some v)) (ry : RelV y u) (h : ∀ w' s', Inv X pins σ H s' → RelV v w' → Q w' s') :
    wpAny (model X.prog X.w) A (getItem (.ref a) u) Q E s := by
  rcases g with ⟨kvs, k, e, ey, l⟩ | ⟨kvs, k, b, e, ey, eb, l⟩
  · subst ey
    obtain ⟨z, hd, vs, rel, dd⟩ := dk_rd I.hok e
    obtain ⟨w', hw, rw'⟩ := RelO.some_of (v := v) (o := valueAt vs k) (by rw [l]; exact rel.val k)
    exact wpAny_getItem_of (kV_is ry) dd.mapOf hw (h w' _ (I.tok _) rw')
  · subst ey
    cases (show u = Value.ref b from ry)
    obtain ⟨z, hd, xs, rel, dd⟩ := dt_rd I.hok e
    obtain ⟨w', hw, rw'⟩ := RelO.some_of (v := v) (o := (atKey xs k).map (·.2)) (by rw [l]; exact rel.val k)
    obtain ⟨p, hp, hp2⟩ := Option.map_eq_some_iff.mp hw
    refine wpAny_getItem_heap (tupleKind_room_in1 hu) (key_of I.hok eb) dd hp ?_
    rw [hp2]
    exact h w' _ (I.tok _) rw'
/-- a dict's object is replaced -/
theorem d_write {h' : Heap} {t' : Nat} {ob : HO} (I : Inv X pins σ H s) (mu : Mut (H a)) (hs : Heap.SameBut a s.heap h') (he : ∃ q, h'.get? a = some q) (new : ObjOk X.prog X.w (upd H a ob) h' a ob) :
    Inv X pins σ (upd H a ob) { s with heap := h', toks := t' } :=
  I.write (x := a) (e := a) mu (.inl rfl) (fun b q hb z => (hs.2 b hb).trans z) he new
theorem dk_new {P : Program} {w : World} {H' : Hp} {h' : Heap} {kvs : List (Key × V)} {vs : List (Key × Value)} (z : kvs.length ≤ sizeLine) (hd : (a == sysModules) = false) (rel : KV kvs vs) (dd : h'.DictOf (mixKind P w) a vs) :
    ObjOk P w H' h' a (.dK kvs) := ⟨z, hd, vs, rel, dd⟩
end
section
variable {X : Cx} {pins : List (Addr × Obj)} {σ : St} {H : Hp} {s : Shared} {a : Addr} {kvs : List (Key × V)} {k : Key} {u : Value} {A : Around} {E : Value → Shared → Prop}
end
/-- the element of a subscription, not a slice -/
def NoSl (i : Expr) : Prop := ∀ ov iv, subscripted i false ov iv = operate [ov, iv] (getItem ov iv)
theorem subD_of {prog : Program} {w : World} {A : Around} {E : Value → Shared → Prop} {s : Shared} {env : Env} {value slice : Expr} {pos : Pos} {T id : String} {Q : Value → Shared → Prop}
    (hl : typeLookup (.type T) "__getitem__" = pure (some (.builtin id))) (hs : NoSl slice)
    (h : wpAny (model prog w) A (eval value env) (fun o s₁ => wpAny (model prog w) A (eval slice env) (fun i s₂ => s₂.TypeIs o T ∧ wpAny (model prog w) A (getItem o i) Q E s₂) E s₁) E s) :
    wpAny (model prog w) A (eval (.Subscript value slice pos) env) Q E s := by
  refine Subscript_ (wpAny_mono h (fun o s₁ h₁ => wpAny_mono h₁ (fun i s₂ h₂ => ?_) fun _ _ x => x) fun _ _ x => x)
  obtain ⟨hT, h₂⟩ := h₂
  unfold subscriptTail
  refine wpAny_bind ?_
  rw [getitemInPython_of_ne hT.not_modules]
  refine wpAny_bind (wpAny_specialOf hT hl ?_)
  have fin : wpAny (model prog w) A (subscripted slice false o i) (fun r s₃ => wpAny (model prog w) A (letTemporaryGo value o r >>= fun _ => pure r) Q E s₃) E s₂ := by
    rw [hs o i]
    exact wpAny_operating (wpAny_mono h₂ (fun r s₃ h₃ => wpAny_bind (wpAny_letTemporaryGo (wpAny_pure h₃))) fun _ _ x => x)
  first
    | exact wpAny_pure (wpAny_bind fin)
    | exact wpAny_bind (wpAny_pure (wpAny_bind fin))
    | exact wpAny_bind fin
theorem dict_typeIs {X : Cx} {pins : List (Addr × Obj)} {σ : St} {H : Hp} {s : Shared} {a : Addr} {y : V} {o : Option V} (I : Inv X pins σ H s) (g : DGet H a y o) : s.TypeIs (.ref a) "dict" := by
  rcases g with ⟨kvs, k, e, _, _⟩ | ⟨kvs, k, b, e, _, _, _⟩
  · obtain ⟨_, _, vs, _, dd⟩ := dk_rd I.hok e
    exact dd.typeIs
  · obtain ⟨_, _, xs, _, dd⟩ := dt_rd I.hok e
    exact dd.typeIs
/-- d[y] -/
def tDGet (td ty : TE) : TE := fun σ H Q => td σ H fun x H1 => ty σ H1 fun y H2 => ∃ a v, x = .ref a ∧ DGet H2 a y (some v) ∧ Q v H2
section
variable {X : Cx} {o i e value : Expr} {pos pos' tpos : Pos} {td ty tv : TE}
theorem pe_dget (hu : X.A.units + 1 < cLine) (ho : PE X o td) (hi : PE X i ty) (hs : NoSl i) : PE X (.Subscript o i pos) (tDGet td ty) := by
  intro pins s σ H Q I h
  refine subD_of PySem.F.slot_dict_getitem.lookup hs (thn (ho pins s σ H _ I h) fun u s1 ⟨x, H1, I1, rx, q1⟩ => thn (hi pins s1 σ H1 _ I1 q1) fun iv s2 ⟨y, H2, I2, ry, a, v, ex, g, q2⟩ => ?_)
  subst ex
  obtain rfl : u = Value.ref a := rx
  exact ⟨dict_typeIs I2 g, d_getItem hu I2 g ry fun w' s3 I3 rw' => ⟨v, H2, I3, rw', q2⟩⟩
end
theorem dk_empty {P : Program} {w : World} {H : Hp} (h : Heap) (hb : sysModules < h.objs.size) : ObjOk P w H (h.push { cls := .type "dict", data := .dict #[] }) h.objs.size (.dK []) :=
  ⟨Nat.zero_le _, beq_eq_false_iff_ne.mpr (Ne.symm (Nat.ne_of_lt hb)), [], .nil, Heap.DictOf.new h⟩
section
variable {X : Cx} {pos : Pos}
end
/-- the pairs of a display, from the left -/
def tPairs : List (TE × TE) → St → Hp → (List (V × V) → Hp → Prop) → Prop
  | [], _, H, Q => Q [] H
  | (tk, tv) :: r, σ, H, Q => tk σ H fun x H1 => tv σ H1 fun y H2 => tPairs r σ H2 fun ps H3 => Q ((x, y) :: ps) H3
abbrev VV : List (V × V) → List (Value × Value) → Prop := Paired fun p q => RelV p.1 q.1 ∧ RelV p.2 q.2
def PPs (X : Cx) (pos : Pos) (keys : List (Option Expr)) (values : List Expr) (trs : List (TE × TE)) : Prop :=
  ∀ (pins : List (Addr × Obj)) (s : Shared) (σ : St) (H : Hp) (Q : List (V × V) → Hp → Prop), Inv X pins σ H s → tPairs trs σ H Q →
    wpAny (model X.prog X.w) X.A (evalPairs (pairTrees keys values X.env pos)) (fun vs s' => ∃ ps H', Inv X pins σ H' s' ∧ VV ps vs ∧ Q ps H') X.xe s
theorem pps_nil {X : Cx} {pos : Pos} : PPs X pos [] [] [] := fun pins s σ H Q I h => pairTrees_nil_walk ⟨[], H, I, .nil, h⟩
theorem pps_cons {X : Cx} {pos : Pos} {k v : Expr} {ks : List (Option Expr)} {vs : List Expr} {tk tv : TE} {trs : List (TE × TE)} (hk : PE X k tk) (hv : PE X v tv) (hr : PPs X pos ks vs trs) :
    PPs X pos (some k :: ks) (v :: vs) ((tk, tv) :: trs) := fun pins s σ H Q I h =>
  pairTrees_cons_walk (thn (hk pins s σ H _ I h) fun u s1 ⟨x, H1, I1, rx, q1⟩ => thn (hv pins s1 σ H1 _ I1 q1) fun w2 s2 ⟨y, H2, I2, ry, q2⟩ =>
    thn (hr pins s2 σ H2 _ I2 q2) fun ws s3 ⟨ps, H3, I3, rel, q3⟩ => ⟨(x, y) :: ps, H3, I3, .cons ⟨rx, ry⟩ rel, q3⟩)
def mergeK (kvs more : List (Key × V)) : List (Key × V) := more.foldl (fun acc kv => putK acc kv.1 kv.2) kvs
theorem KV.merge : ∀ {more : List (Key × V)} {rs : List (Key × Value)} {kvs : List (Key × V)} {vs : List (Key × Value)}, KV more rs → KV kvs vs → KV (mergeK kvs more) (merged vs rs) := by
  intro more rs kvs vs r
  unfold KV at r
  induction r generalizing kvs vs with
  | nil => intro q; exact q
  | @cons p q ps qs h t ih =>
    intro r0
    have e : KV (putK kvs p.1 p.2) (stored vs q.1 q.2) := by
      have := r0.put p.1 h.2
      rw [← h.1]; exact this
    exact ih e
theorem length_mergeK : ∀ (more kvs : List (Key × V)), (mergeK kvs more).length ≤ kvs.length + more.length
  | [], kvs => by show kvs.length ≤ kvs.length + 0; omega
  | p :: r, kvs => by
    have h1 := length_mergeK r (putK kvs p.1 p.2)
    have h2 := length_putK kvs p.1 p.2
    show (mergeK (putK kvs p.1 p.2) r).length ≤ _
    rw [List.length_cons]; omega
theorem carries_of {P : Program} {w : World} : ∀ {kvs : List (Key × V)} {ws : List (Value × Value)}, VV (kvs.map fun kv => (kV kv.1, kv.2)) ws → ∃ rs, Carries (mixKind P w) ws rs ∧ KV kvs rs
  | [], _, r => by rw [List.map_nil] at r; cases r; exact ⟨[], True.intro, .nil⟩
  | p :: kvs, _, r => by
    rw [List.map_cons] at r
    cases r with
    | @cons a b as bs h t =>
      obtain ⟨rs, c, q⟩ := carries_of (P := P) (w := w) t
      obtain ⟨b1, b2⟩ := b
      exact ⟨(p.1, b2) :: rs, ⟨kV_is h.1, rfl, c⟩, .cons ⟨rfl, h.2⟩ q⟩
/-- {k: v, ..} with keys ints and texts; the new dict stands empty while the pairs are made -/
def tDisp (trs : List (TE × TE)) : TE := fun σ H Q => ∀ p, H p = none → tPairs trs σ (upd H p (.dK [])) fun ps H2 => H2 p = some (.dK []) ∧ ∃ kvs : List (Key × V), ps = kvs.map (fun kv => (kV kv.1, kv.2)) ∧ kvs.length ≤ 15 ∧ Q (.ref p) (upd H2 p (.dK (mergeK [] kvs)))
theorem pe_disp {X : Cx} {pos : Pos} {keys : List (Option Expr)} {values : List Expr} {trs : List (TE × TE)} (h : PPs X pos keys values trs) (hall : keys.all (·.isSome) = true) (hl : keys.length = values.length) (h0 : keys ≠ [])
    (h15 : keys.length ≤ 15) : PE X (.Dict keys values pos) (tDisp trs) := by
  intro pins s σ H Q I q
  have hn := I.hok.fresh (Nat.le_refl s.heap.objs.size)
  have I1 := I.laid (a := s.heap.objs.size) (o := .dK []) (h' := s.heap.push { cls := .type "dict", data := .dict #[] }) (t' := s.toks) (fun _ _ q => Heap.get?_push_of_some _ q) (Nat.le_refl _) (dk_empty s.heap I.big)
  refine wpAny_Dict_walk (knd := mixKind X.prog X.w) hall hl h0 h15 (thn (h pins _ σ _ _ I1 (q _ hn)) fun ws s2 ⟨ps, H2, I2, rel, e, kvs, ep, lk, q2⟩ => ?_)
  subst ep
  obtain ⟨rs, c, rk⟩ := carries_of (P := X.prog) (w := X.w) rel
  obtain ⟨z, hd, vs0, r0, dd⟩ := dk_of I2.hok e
  cases r0
  refine ⟨rs, c, dd, fun h' dd' hs => ⟨.ref s.heap.objs.size, _, ?_, rfl, q2⟩⟩
  have hz : (mergeK [] kvs).length ≤ sizeLine := by
    have h1 := length_mergeK kvs []
    rw [List.length_nil] at h1
    rw [sizeLine_eq]; omega
  have he : ∃ q, h'.get? s.heap.objs.size = some q := let ⟨q, _, _, hq, _⟩ := dd'; ⟨q, hq⟩
  exact d_write I2 (by rw [e]; exact True.intro) hs he (dk_new hz hd (rk.merge .nil) dd')
/-- a method call o.m(e) of a built-in, with one argument: what must be seen of the text -/
structure M1 (X : Cx) (o : Expr) (m : Str) (apos : Pos) (e : Expr) (cpos : Pos) : Prop where
  base : attributeBase o m X.env (eval o X.env) = eval o X.env
  few : ((backTo cpos (starEach [e] X.env)).all (fun x => !x.1) && (backToKw cpos (keywordEach [] X.env)).all (fun x => x.1.isSome)
    && decide (([e] : List Expr).length + ([] : List Keyword).length + (if ([] : List Keyword).isEmpty then 0 else 1) < 30)) = true
  line : (apos.endLine == cpos.line) = true
  trees : backTo cpos (starEach [e] X.env) = [(false, eval e X.env)]
structure M2 (X : Cx) (o : Expr) (m : Str) (apos : Pos) (e f : Expr) (cpos : Pos) : Prop where
  base : attributeBase o m X.env (eval o X.env) = eval o X.env
  few : ((backTo cpos (starEach [e, f] X.env)).all (fun x => !x.1) && (backToKw cpos (keywordEach [] X.env)).all (fun x => x.1.isSome)
    && decide (([e, f] : List Expr).length + ([] : List Keyword).length + (if ([] : List Keyword).isEmpty then 0 else 1) < 30)) = true
  line : (apos.endLine == cpos.line) = true
  trees : backTo cpos (starEach [e, f] X.env) = [(false, eval e X.env), (false, eval f X.env)]
section
variable {X : Cx} {pins : List (Addr × Obj)} {σ : St} {H : Hp} {s : Shared} {a : Addr} {y d : V} {u r : Value} {o : Option V} {A : Around} {E : Value → Shared → Prop}
end
section
variable {X : Cx} {o e f : Expr} {apos cpos : Pos} {td ty tx : TE}
end
section
variable {X : Cx} {pins : List (Addr × Obj)} {σ : St} {H : Hp} {s : Shared} {a : Addr} {kvs : List (Key × V)} {A : Around} {E : Value → Shared → Prop}
end
section
variable {X : Cx} {pins : List (Addr × Obj)} {σ : St} {H : Hp} {s : Shared} {a : Addr} {y : V} {u : Value} {A : Around} {E : Value → Shared → Prop}
end
end L2
namespace L2
open PySem PySem.Spec PyProof.Rows
section
variable {prog : Program} {w : World} {A : Around} {E : Value → Shared → Prop}
end
section
variable {X : Cx}
end
end L2
namespace L2
open PySem PySem.Spec PyProof.Rows
section
variable {X : Cx} {pins : List (Addr × Obj)} {σ : St} {H : Hp} {s : Shared} {h' : Heap}
/-- .. and one new object is laid -/
theorem Inv.turnedNew {t' : Nat} {ch : List Addr} {T : Addr} {ob : HO} (I : Inv X pins σ H s) (k : ∀ b o, b ∉ ch → s.heap.get? b = some o → h'.get? b = some o) (hf : ∀ b ∈ ch, FpOk X pins H b) (hT : s.heap.objs.size ≤ T)
    (new : ObjOk X.prog X.w (upd H T ob) h' T ob) : Inv X pins σ (upd H T ob) { s with heap := h', toks := t' } := by
  have hn : H T = none := I.hok.fresh hT
  have nit : ∀ b u, H b = some u → b ∉ ch := fun b u e z => by
    have q := (hf b z).1
    rw [q] at e; cases e
  refine I.step (g' := s.gens) (d' := s.drawn) (ch := ch) (fun b hb => ⟨(hf b hb).2.2.2.1, (hf b hb).2.1, (hf b hb).2.2.2.2.1, (hf b hb).2.2.2.2.2⟩) (fun b o _ _ hc e _ => k b o hc e) (fun b o _ _ hc e _ => ⟨o.slots, k b o hc e⟩)
    (fun b o _ e n => ?_) (fun b o hc e => ⟨o, k b o hc e⟩) (fun b xs e => ?_) (fun b o u e => ?_) (fun b ps e => ⟨#[], ?_⟩) (fun m hm => ?_) (fun b u e => ?_) I.bare
  · rw [upd_ne (Nat.ne_of_lt (Nat.lt_of_lt_of_le (Heap.lt_size e) hT))]; exact n
  · rw [upd_ne (ne_of_none e hn)]; exact e
  · rw [upd_ne (ne_of_none e hn)]; exact e
  · rw [upd_ne (ne_of_none e hn), e]; simp
  · obtain ⟨o, es, ep, ho, r⟩ := hm
    exact ⟨o, es, ep, k _ o (fun z => (hf _ z).2.1 rfl) ho, r⟩
  · by_cases hb : b = T
    · subst hb
      rw [upd_same] at e
      cases e
      exact new
    · rw [upd_ne hb] at e
      refine (I.hok b u e).stay (fun c v hc q => k c v ?_ q) (fun c q => by rw [upd_ne (ne_of_none q hn)]; exact q) fun c xs q => by rw [upd_ne (ne_of_none q hn)]; exact q
      rcases hc with z | z
      · rw [z]; exact nit b u e
      · exact nit c _ z
end
section
variable {X : Cx}
end
/-- range(i, j, c): small bounds, n items -/
def RgC (i j c : Int) (n : Nat) : Prop := c ≠ 0 ∧ c.natAbs < 1073741824 ∧ Builtin.Range.small i j c = true ∧ Builtin.Range.rangeSize i j c = n
theorem RgC.neg {i j : Int} (ha : -(2 ^ 62) ≤ i) (ha' : i < 2 ^ 62) (hb : -(2 ^ 62) ≤ j) (hb' : j < 2 ^ 62) : RgC i j (-1) (i - j).toNat :=
  ⟨by decide, by decide, PySem.W.small_down ha ha' hb hb', PySem.W.rangeSize_downNat i j⟩
section
variable {X : Cx} {tg : Expr}
end
section
variable {X : Cx} {tg : Expr}
end
section
variable {prog : Program} {w : World} {A : Around} {E : Value → Shared → Prop} {s : Shared}
end
section
variable {X : Cx} {pins : List (Addr × Obj)} {σ : St} {H : Hp} {s : Shared} {d : Addr} {o : Obj}
end
section
variable {P : Program} {w : World} {K : PySem.W.Frag} {tg : Expr} {d : Addr} {o : Obj} {es : Array DictEntry} {ep : Nat}
end
section
variable {X : Cx} {tg e : Expr} {td : TE} {apos cpos : Pos}
end
/-- the list at a as it stands at each turn, each item in a new pair -/
def Ite (K : PySem.W.Frag) (a : Addr) : It :=
  ⟨fun i H => ∃ (xs : List V) (x : V), SqL K H a xs ∧ xs[i]? = some x, fun i H v H' => ∃ T x, v = .ref T ∧ H T = none ∧ H' = upd H T (.tup [.int (i : Nat), x]) ∧ ∀ xs, SqL K H a xs → xs[i]? = some x, fun i H => ∃ xs : List V, SqL K H a xs ∧ xs.length ≤ i⟩
theorem turn_enum {P : Program} {w : World} {K : PySem.W.Frag} {elts : List Expr} {kk : Nat} {tpos : Pos} (a e it : Addr) :
    Turn P w K (.Tuple elts kk tpos) (Ite K a) [e, it] e (fun i h => (∃ old, IsEnum h e it ((i : Nat) : Int) old) ∧ h.IsListIter it a i ∧ e ≠ it) where
  mem := by simp
  obj := fun i h st b hb => by
    obtain ⟨⟨old, he⟩, ⟨o, ho, hc, hd⟩, _⟩ := st
    have e' : b = e ∨ b = it := by simpa using hb
    rcases e' with z | z
    · rw [z]; exact ⟨_, he, fun v q => nomatch q⟩
    · rw [z]; exact ⟨o, ho, fun v q => by rw [hd] at q; cases q⟩
  keep := fun i h h' st k => let ⟨⟨old, he⟩, hi, hne⟩ := st; ⟨⟨old, k e (by simp) _ he⟩, hi.at fun o q => k it (by simp) o q, hne⟩
  item := by
    intro X hP hw hK hc i pins s σ H E I hf st hg
    subst hP hw hK
    obtain ⟨⟨old, he⟩, hit, hne⟩ := st
    obtain ⟨xs, x, hq, hx⟩ := hg
    obtain ⟨its, rv, p, hz⟩ := I.list hq
    obtain ⟨u, hu, ru⟩ := rv.get hx
    have hel : e < s.heap.objs.size := Heap.lt_size he
    have hil : it < s.heap.objs.size := by obtain ⟨_, q, _⟩ := hit; exact Heap.lt_size q
    refine wpAny_pyNext_enum_item he hit p.isList (x := u) (by simpa using hu) hne fun h' ho hit' hT hsz hk => ?_
    refine ⟨_, rfl, wpAny_letOwnedTupleGo_enum (s := { s with heap := h', toks := s.toks + 1 }) ho fun h'' he' sb => ?_⟩
    have hT2 : h''.get? s.heap.objs.size = some { cls := .type "tuple", data := .seq #[.int i s.toks, u] } := (sb.2 _ (Nat.ne_of_gt hel)).trans hT
    have new : ObjOk X.prog X.w (upd H s.heap.objs.size (.tup [.int (i : Nat), x])) h'' s.heap.objs.size (.tup [.int (i : Nat), x]) :=
      ⟨by show 2 ≤ sizeLine; decide, [.int i s.toks, u], .cons ⟨_, rfl⟩ (.cons ru .nil), ⟨_, hT2, rfl, _, rfl⟩⟩
    have I1 : Inv X pins σ (upd H s.heap.objs.size (.tup [.int (i : Nat), x])) { s with heap := h'', toks := s.toks + 1 } :=
      I.turnedNew (ch := [e, it]) (fun b ob hb q => (sb.2 b (fun z => hb (by simp [z]))).trans (hk b ob (fun z => hb (by simp [z])) (fun z => hb (by simp [z])) q)) hf (Nat.le_refl _) new
    refine ⟨.ref s.heap.objs.size, _, I1, rfl, ⟨_, x, rfl, I.hok.fresh (Nat.le_refl _), rfl, fun ys hy => by rw [I.list_inj hy hq]; exact hx⟩, ⟨⟨u, ?_⟩, hit'.at fun o q => (sb.2 it (Ne.symm hne)).trans q, hne⟩, fun b hb => ?_⟩
    · have e1 : ((i + 1 : Nat) : Int) = (i : Int) + 1 := by omega
      rw [e1]; exact he'
    · have hb' : b < s.heap.objs.size := by
        have e' : b = e ∨ b = it := by simpa using hb
        rcases e' with z | z
        · rw [z]; exact hel
        · rw [z]; exact hil
      rw [upd_ne (Nat.ne_of_lt hb')]
      exact (hf b hb).1
  done := by
    intro X hP hw hK hc i pins s σ H E I hf st hg
    subst hP hw hK
    obtain ⟨⟨old, he⟩, hit, hne⟩ := st
    obtain ⟨xs, hq, hx⟩ := hg
    obtain ⟨its, rv, p, hz⟩ := I.list hq
    obtain ⟨f0, f1, f2, f3, f4, f5⟩ := hf it (by simp)
    have hl := rv.length
    exact wpAny_pyNext_enum_end (I.ok.hd hc) he hit p.isList (by simp; omega) fun h' eb => ⟨rfl, I.turned (t' := s.toks) (fun b o hb q => eb b o hb q) f0 f1 f3 f4 f5⟩
  self := fun A i s Q E st h => let ⟨⟨_, he⟩, _⟩ := st; wpAny_pyIter_enum he h
def iEnum (K : PySem.W.Frag) (ta : TA) : TI := fun σ H R => ta σ H fun vs H1 => ∃ a xs, vs = [.ref a] ∧ SqL K H1 a xs ∧ R (Ite K a) H1
theorem pi_enum {X : Cx} {e : Expr} {ta : TA} {p pos tpos : Pos} {elts : List Expr} {kk : Nat} (hg : Gl X "enumerate") (hm : X.mg "enumerate" = none) (ha : PA X [e] ta) (hs : starEach [e] X.env = [(false, eval e X.env)] := by rfl) :
    PI X (.Tuple elts kk tpos) (.Call (.Name "enumerate" p) [e] [] pos) (iEnum X.K ta) := by
  intro pins s σ H R I h
  refine Call_ (ld_blt I hg hm boot_enumerate (PyProof.Rows.callWith_type1 (thn (ha pos pins s σ H _ I h) fun us s1 ⟨vs, H1, I1, r1, q1⟩ => ?_) hs rfl))
  obtain ⟨a, xs, ex, hq, q⟩ := q1
  subst ex
  cases r1 with
  | cons r rr =>
    cases rr
    cases r
    obtain ⟨its, rv, p', hz⟩ := I1.list hq
    refine call_enumerate_list p'.isList fun h' he hit hsz hk => wpAny_pyIter_enum he ?_
    have I2 : Inv X pins σ H1 { s1 with heap := h' } := I1.kept (t' := s1.toks) hk
    refine ⟨s1.heap.objs.size + 1, [s1.heap.objs.size + 1, s1.heap.objs.size], _, _, H1, rfl, I2, turn_enum a (s1.heap.objs.size + 1) s1.heap.objs.size, ⟨⟨.none, he⟩, hit, Nat.succ_ne_self _⟩, fun b hb => ?_, q⟩
    have e' : b = s1.heap.objs.size + 1 ∨ b = s1.heap.objs.size := by simpa using hb
    have hle : s1.heap.objs.size ≤ b := by
      rcases e' with z | z
      · rw [z]; exact Nat.le_add_right _ _
      · rw [z]; exact Nat.le_refl _
    exact I1.fpOk hle (I1.hok.fresh hle)
end L2
section 
namespace Bits
open PySem PyProof.Rows
end Bits
end 
section 
namespace TL
open PySem PySem.Builtin PySem.Builtin.Str PySem.StrLaws
abbrev tl (x : Str) : List Nat := x.cps.toList
/-- S stands at the head of l -/
def pre (S l : List Nat) : Bool := l.take S.length == S
/-- what stands before the first S, and behind it -/
def par (S : List Nat) : List Nat → List Nat → Option (List Nat × List Nat)
  | _, [] => none
  | acc, c :: r => if pre S (c :: r) = true then some (acc, (c :: r).drop S.length) else par S (acc ++ [c]) r
end TL
end 
namespace L2
open PySem PySem.Spec PyProof.Rows
section
variable {X : Cx} {pins : List (Addr × Obj)} {σ : St} {H : Hp} {s : Shared} {Q : VK}
end
section
variable {X : Cx}
end
section
variable {X : Cx} {o e : Expr} {to te : TE}
end
end L2
namespace L2
open PySem PySem.Spec PyProof.Rows
section
variable {X : Cx}
end
theorem IsPart.raw {v : Value} {o : Option Int} (p : IsPart v o) : ∃ l : Option (Int × Tok), v = partValue l ∧ l.map (·.1) = o := by
  cases p with
  | none => exact ⟨none, rfl, rfl⟩
  | int i t => exact ⟨some (i, t), rfl, rfl⟩
end L2
namespace Att
open PySem PySem.W PySem.Calls PyProof.Rows
section
variable {prog : Program} {w : World} {A : Around} {E : Value → Shared → Prop} {s : Shared} {K : Frag}
end
end Att
namespace L2
open PySem PySem.Spec PyProof.Rows
end L2
namespace L2
open PySem PySem.Spec PyProof.Rows
end L2
/- THE LAST THEOREM (shape; LID, My.* are yours):
   My.Adr: a structure of the addresses that your layer names (classes, functions); My.Txt K t: a structure (Prop) of the equations over K;
   My.txt_mk : {K} {implicit addresses ..} (e1 : nsIn K mainGlobals "law" = some (some (.ref f))) (e2 : K.lookup f = some ⟨oc, od, .func (fnOf "law" "law" params body scope dV kV doc pm an cdv ct), sl⟩) (e3 : codeIn K cdv "law" = true) .. : ∃ t, My.Txt K t
(the tactic k_is has no namespace: write k_is) -/
namespace L2
open PySem PySem.Spec PyProof.Rows
/-- the j-th statement of a class's body -/
def inClass (s : Stmt) (j : Nat) : Stmt := match s with
  | .ClassDef _ _ _ body _ _ _ _ _ _ _ => body.getD j (.Pass ⟨0, 0, 0, 0⟩)
  | _ => .Pass ⟨0, 0, 0, 0⟩
def defArgs (s : Stmt) : Arguments := match s with
  | .FunctionDef _ a _ _ _ _ _ _ _ _ => a
  | _ => { posonlyargs := [], args := [], vararg := none, kwonlyargs := [], kw_defaults := [], kwarg := none, defaults := [] }
def defBody (s : Stmt) : List Stmt := match s with
  | .FunctionDef _ _ b _ _ _ _ _ _ _ => b
  | _ => []
def defScope (s : Stmt) : Scope := match s with
  | .FunctionDef _ _ _ _ _ _ sc _ _ _ => sc
  | _ => { kind := .function, names := [], isGenerator := false, isCoroutine := false }
abbrev CX0 : CXT := fun _ _ _ _ _ _ => False
abbrev E0 : XK := fun _ _ _ => False
theorem pass0 {X : Cx} : Passes CX0 X E0 := fun _ _ _ _ _ _ _ h => h.elim
structure Fun (K : PySem.W.Frag) (x qual : Str) (st : Stmt) (f : Addr) (fd : FuncData) : Prop where
  ex : ∃ (oc : Value) (od : Option Addr) (kV doc pm : Value) (an : Option Addr) (cdv ct : Value) (osl : Array (Option Value)),
    fd = PySem.W.fnOf x qual (defArgs st) (defBody st) (defScope st) .none kV doc pm an cdv ct ∧ K.lookup f = some ⟨oc, od, .func fd, osl⟩ ∧ PySem.W.codeIn K cdv qual = true
  kp : PySem.W.keepIn K (.ref f) = true
section
variable {P : Program} {w : World} {K : PySem.W.Frag} {mg : Str → Option Value} {base : Heap}
/-- THE RULE for a def: its body as a term of rules, and the reading of that term -/
theorem Fun.ok {x qual : Str} {st : Stmt} {f : Addr} {fd : FuncData} {N ps : List Str} {k : Nat} {sp : Sp} (F : Fun K x qual st f fd) (S : FnScope N ps (defScope st)) (len : ∀ vs H Q E, sp vs H Q E → vs.length = ps.length)
    (hbody : ∀ (cdv : Value) (A : Around) (outer : List Env) (s : Shared) (H : Hp) (vs : List V) (Q : VK) (E : XK), Room k (A.deeper (envOfC qual (defScope st) s.heap.objs.size f cdv)) → sp vs H Q E →
      ∃ t, PSs (cxOf CX0 P w K mg base N qual (defScope st) f cdv A outer s H E).nox (defBody st) t ∧ t { nx := fun _ H' => Q .non H', rt := Q } (start N vs) H) : FnOk P w K mg base CX0 (k + 1) f fd ps sp := by
  obtain ⟨oc, od, kV, doc, pm, an, cdv, ct, osl, rfl, lk, hcd⟩ := F.ex
  refine fn_of lk hcd S len fun A outer s H vs Q E hr hsp => ?_
  obtain ⟨t, h, q⟩ := hbody cdv A outer s H vs Q E hr hsp
  exact ⟨t, h.nox, q⟩
/-- how its arguments bind (no defaults): h is «fun _ _ _ _ _ _ us hl => match us, hl with | [_, _], _ => rfl», one _ a parameter -/
theorem Fun.binds {x qual : Str} {st : Stmt} {f : Addr} {fd : FuncData} {ps : List Str} (F : Fun K x qual st f fd)
    (h : ∀ (kV doc pm : Value) (an : Option Addr) (cdv ct : Value) (us : List Value), us.length = ps.length → bindArgs (PySem.W.fnOf x qual (defArgs st) (defBody st) (defScope st) .none kV doc pm an cdv ct) ⟨us, []⟩ = pure (ps.zip us)) : Binds K fd ps [] := by
  obtain ⟨oc, od, kV, doc, pm, an, cdv, ct, osl, rfl, lk, hcd⟩ := F.ex
  exact .all (h kV doc pm an cdv ct)
theorem fun_mk {x qual : Str} {st : Stmt} {f : Addr} {oc : Value} {od an : Option Addr} {osl : Array (Option Value)} {kV doc pm cdv ct : Value} (l : K.lookup f = some ⟨oc, od, .func (PySem.W.fnOf x qual (defArgs st) (defBody st) (defScope st) .none kV doc pm an cdv ct), osl⟩)
    (c : PySem.W.codeIn K cdv qual = true) (k : PySem.W.keepIn K (.ref f) = true) : Fun K x qual st f (PySem.W.fnOf x qual (defArgs st) (defBody st) (defScope st) .none kV doc pm an cdv ct) := ⟨⟨oc, od, kV, doc, pm, an, cdv, ct, osl, rfl, l, c⟩, k⟩
end
theorem hu_of {A : Around} {k : Nat} (hr : Room k A) : A.units + 1 < cLine := Nat.lt_of_le_of_lt (Nat.add_le_add_left (by decide : 1 ≤ 64) _) hr.units
section
variable {X : Cx}
theorem pv (i : Nat) {x : Str} {pos : Pos} (hN : X.N[i]? = some x := by rfl) (hv : Vis X.env.scope x := by first | exact Or.inl rfl | exact Or.inr (Or.inl rfl) | exact Or.inr (Or.inr rfl)) (hd : (x == ("__debug__" : Str)) = false := by decide)
    (hcd : (x == ("__classdict__" : Str)) = false := by decide) : PE X (.Name x pos) (tVar i) := pe_var hN hv hd hcd
end
/-- all that was tracked is as it was -/
def Same (H H' : Hp) : Prop := ∀ b o, H b = some o → H' b = some o
theorem Same.refl (H : Hp) : Same H H := fun _ _ h => h
theorem Same.trans {H H1 H2 : Hp} (a : Same H H1) (b : Same H1 H2) : Same H H2 := fun c o h => b c o (a c o h)
theorem Same.free {H H' : Hp} (e : Same H H') {l : Addr} (h : H' l = Option.none) : H l = Option.none := by
  cases q : H l with
  | none => rfl
  | some o =>
    rw [e l o q] at h
    cases h
theorem Same.seq {K : PySem.W.Frag} {H H' : Hp} {a : Addr} {xs : List V} (e : Same H H') (h : SqL K H a xs) : SqL K H' a xs := by
  rcases h with (h | ⟨o, h⟩) | h
  · exact .inl (.inl (e _ _ h))
  · exact .inl (.inr ⟨o, e _ _ h⟩)
  · exact .inr h
section
variable {κ : Type} [DecidableEq κ]
end
theorem at_of {xs : List V} {z : Int} {j : Nat} {v : V} (e : z = (j : Int)) (h : xs[j]? = some v) : atI xs z = some v := by
  rw [e]
  exact atI_nat h
/-- a new instance and its __init__ leave all that was tracked as it was -/
theorem Same.made {H H1 : Hp} {x dx C : Addr} (nx : H x = Option.none) (nd : H dx = Option.none) (k : ∀ b o, (upd (upd H dx (.own x)) x (.ins C dx [])) b = some o → b ≠ x → H1 b = some o) : Same H H1 := fun b o e =>
  k b o (by rw [upd_ne (ne_of_none e nx), upd_ne (ne_of_none e nd)]; exact e) (ne_of_none e nx)
end L2
section
set_option Elab.async false
set_option linter.all false
set_option maxRecDepth 100000
set_option maxHeartbeats 2000000
namespace L2
open PySem PySem.Spec PyProof.Rows
open PySem.W (WData Codec OpenSpec Well WellAll ReadsW ReadsAllW)
mutual
/-- x stands for the datum d, lists and tuples all the way -/
inductive Dw (K : PySem.W.Frag) (H : Hp) : V → WData → Prop
  | non : Dw K H .non .none
  | bl (b : Bool) : Dw K H (.bl b) (.bool b)
  | int (i : Int) : Dw K H (.int i) (.int i)
  | str (x : Str) : Dw K H (.str x) (.str x)
  | byt (b : Array UInt8) : Dw K H (.byt b) (.bytes b.toList)
  | lst {a : Addr} {xs : List V} {ds : List WData} : SqL K H a xs → DwAll K H xs ds → Dw K H (.ref a) (.list ds)
  | tup {a : Addr} {xs : List V} {ds : List WData} : SqT K H a xs → DwAll K H xs ds → Dw K H (.ref a) (.tuple ds)
inductive DwAll (K : PySem.W.Frag) (H : Hp) : List V → List WData → Prop
  | nil : DwAll K H [] []
  | cons {v : V} {vs : List V} {d : WData} {ds : List WData} : Dw K H v d → DwAll K H vs ds → DwAll K H (v :: vs) (d :: ds)
end
theorem dw_ints {K : PySem.W.Frag} {H : Hp} : ∀ ns : List Int, DwAll K H (ns.map V.int) (ns.map WData.int)
  | [] => .nil
  | n :: r => .cons (.int n) (dw_ints r)
theorem ints_dw {K : PySem.W.Frag} {H : Hp} : ∀ (ns : List Int) (xs : List V), DwAll K H xs (ns.map WData.int) → xs = ns.map V.int
  | [], xs, h => by
    cases h
    rfl
  | n :: r, xs, h => by
    cases h with
    | cons h1 h2 =>
      cases h1
      rw [ints_dw r _ h2] <;> rfl
section
variable {P : Program} {w : World} {K : PySem.W.Frag} {H : Hp} {h : Heap} {R : PySem.W.WRecords} {cl : Str → Option Addr}
theorem sqL_at {a : Addr} {xs : List V} (hok : HOk P w H h) (KX : K.In h) (q : SqL K H a xs) : ∃ (its : List Value) (o : Obj) (n : Nat), Vals xs its ∧ h.get? a = some o ∧ o.cls = .type "list" ∧ o.data = .seq its.toArray n := by
  rcases q with q | ⟨o, its, n, e, hc, _, hd, _, hv⟩
  · obtain ⟨_, its, n, hv, e⟩ := (show ObjOk P w H h a (.lst xs) from q.ok hok)
    exact ⟨its, _, n, hv, e, rfl, rfl⟩
  · exact ⟨its.toList, o, n, hv, KX _ _ e, hc, by simp [hd]⟩
theorem sqT_at {a : Addr} {xs : List V} (hok : HOk P w H h) (KX : K.In h) (q : SqT K H a xs) : ∃ (its : List Value) (o : Obj) (n : Nat), Vals xs its ∧ h.get? a = some o ∧ o.cls = .type "tuple" ∧ o.data = .seq its.toArray n := by
  rcases q with q | ⟨o, its, n, e, hc, hd, _, hv⟩
  · obtain ⟨_, its, hv, o, e, hc, n, hd⟩ := (show ObjOk P w H h a (.tup xs) from q.ok hok)
    exact ⟨its, o, n, hv, e, hc, hd⟩
  · exact ⟨its.toList, o, n, hv, KX _ _ e, hc, by simp [hd]⟩
mutual
theorem Dw.reads (hok : HOk P w H h) (KX : K.In h) : ∀ (d : WData) (v : V) (u : Value), Dw K H v d → RelV v u → ∃ as, ReadsW R cl h u d as
  | .none, _, _, x, r => by
    cases x
    cases r
    exact ⟨_, ReadsW.none⟩
  | .bool b, _, _, x, r => by
    cases x
    cases r
    exact ⟨_, ReadsW.bool b⟩
  | .int i, _, _, x, r => by
    cases x
    obtain ⟨t, rfl⟩ := r
    exact ⟨_, ReadsW.int i t⟩
  | .str s, _, _, x, r => by
    cases x
    obtain ⟨t, rfl⟩ := r
    exact ⟨_, ReadsW.str s t⟩
  | .bytes b, _, _, x, r => by
    cases x
    obtain ⟨t, rfl⟩ := r
    exact ⟨_, ReadsW.bytes _ t⟩
  | .list ds, _, _, x, r => by
    cases x with
    | lst hs ha =>
      cases r
      obtain ⟨its, o, n, rv, ho, hc, hd⟩ := sqL_at hok KX hs
      obtain ⟨as, hr⟩ := Dw.readsAll hok KX ds _ its ha rv
      exact ⟨_, ReadsW.list ho hc hd hr⟩
  | .tuple ds, _, _, x, r => by
    cases x with
    | tup hs ha =>
      cases r
      obtain ⟨its, o, n, rv, ho, hc, hd⟩ := sqT_at hok KX hs
      obtain ⟨as, hr⟩ := Dw.readsAll hok KX ds _ its ha rv
      exact ⟨_, ReadsW.tuple ho hc hd hr⟩
  | .float _, _, _, x, _ => by cases x
  | .dict _, _, _, x, _ => by cases x
  | .bytearray _, _, _, x, _ => by cases x
  | .set _, _, _, x, _ => by cases x
  | .frozenset _, _, _, x, _ => by cases x
  | .obj _ _, _, _, x, _ => by cases x
theorem Dw.readsAll (hok : HOk P w H h) (KX : K.In h) : ∀ (ds : List WData) (vs : List V) (us : List Value), DwAll K H vs ds → Vals vs us → ∃ as, ReadsAllW R cl h us ds as
  | [], _, _, x, r => by
    cases x
    cases r
    exact ⟨_, ReadsAllW.nil⟩
  | d :: ds, _, _, x, r => by
    cases x with
    | cons h1 h2 =>
      cases r with
      | cons r1 r2 =>
        obtain ⟨as, q1⟩ := Dw.reads hok KX d _ _ h1 r1
        obtain ⟨bs, q2⟩ := Dw.readsAll hok KX ds _ _ h2 r2
        exact ⟨_, ReadsAllW.cons q1 q2⟩
end
end
mutual
/-- data that a codec tells -/
def plW : WData → Bool
  | .none => true
  | .bool _ => true
  | .int _ => true
  | .str _ => true
  | .bytes _ => true
  | .list xs => plWs xs
  | .tuple xs => plWs xs
  | _ => false
def plWs : List WData → Bool
  | [] => true
  | x :: r => plW x && plWs r
end
theorem plWs_map {α : Type} {f : α → WData} (h : ∀ a, plW (f a) = true) : ∀ l : List α, plWs (l.map f) = true
  | [] => rfl
  | x :: r => by
    show (plW (f x) && plWs (r.map f)) = true
    rw [h x, plWs_map h r] <;> rfl
theorem pl_enc : ∀ (c : Codec) (a : c.denote), plW (c.enc a) = true
  | .unit, _ => rfl
  | .bool, _ => rfl
  | .int _ _, _ => rfl
  | .nat _ _, _ => rfl
  | .u8, _ => rfl
  | .bytes _ _, _ => rfl
  | .text _ _ _ _, _ => rfl
  | .list _ _ c, a => plWs_map (fun x => pl_enc c x) a
  | .pair c d, a => by
    show (plW (c.enc a.1) && (plW (d.enc a.2) && true)) = true
    rw [pl_enc c a.1, pl_enc d a.2] <;> rfl
  | .triple c d e, a => by
    show (plW (c.enc a.1) && (plW (d.enc a.2.1) && (plW (e.enc a.2.2) && true))) = true
    rw [pl_enc c a.1, pl_enc d a.2.1, pl_enc e a.2.2] <;> rfl
  | .option c, none => rfl
  | .option c, some x => pl_enc c x
theorem pl_encAll : ∀ (cs : List Codec) (a : Codec.denoteAll cs), plWs (Codec.encAll cs a) = true
  | [], _ => rfl
  | c :: cs, a => by
    show (plW (c.enc a.1) && plWs (Codec.encAll cs a.2)) = true
    rw [pl_enc c a.1, pl_encAll cs a.2] <;> rfl
theorem weight_mem : ∀ {xs : List WData} {d : WData}, d ∈ xs → d.weight ≤ WData.weightAll xs
  | [], d, h => absurd h (by simp)
  | x :: r, d, h => by
    show d.weight ≤ x.weight + 1 + WData.weightAll r
    rcases List.mem_cons.mp h with e | m
    · rw [e]
      omega
    · have z := weight_mem m
      omega
def toV : Value → V
  | .none => .non
  | .bool b => .bl b
  | .int i _ => .int i
  | .str x _ => .str x
  | .bytes b _ => .byt b
  | .ref a => .ref a
  | _ => .non
/-- a value of the arguments, its objects among A -/
def OkU (A : List Addr) : Value → Prop
  | .none => True
  | .bool _ => True
  | .int _ _ => True
  | .str _ _ => True
  | .bytes _ _ => True
  | .ref a => a ∈ A
  | _ => False
theorem OkU.mono {A B : List Addr} (h : ∀ a ∈ A, a ∈ B) : ∀ {u : Value}, OkU A u → OkU B u := fun {u} x => by
  cases u with
  | ref a => exact h a x
  | none => trivial
  | bool b => trivial
  | int i t => trivial
  | str s t => trivial
  | bytes b t => trivial
  | _ => exact False.elim x
theorem relV_toV {A : List Addr} {u : Value} (x : OkU A u) : RelV (toV u) u := by
  cases u with
  | ref a => rfl
  | none => rfl
  | bool b => rfl
  | int i t => exact ⟨t, rfl⟩
  | str s t => exact ⟨t, rfl⟩
  | bytes b t => exact ⟨t, rfl⟩
  | _ => exact False.elim x
theorem vals_toV {A : List Addr} : ∀ {vs : List Value}, (∀ u ∈ vs, OkU A u) → Vals (vs.map toV) vs
  | [], _ => .nil
  | u :: r, h => .cons (relV_toV (h u (List.mem_cons_self ..))) (vals_toV fun x hx => h x (List.mem_cons_of_mem _ hx))
/-- an object of the arguments -/
def ArgOb (h : Heap) (A : List Addr) (a : Addr) : Prop := ∃ vs : List Value, vs.length ≤ sizeLine ∧ (∀ u ∈ vs, OkU A u) ∧
  (h.get? a = some { cls := .type "list", data := .seq vs.toArray } ∨ h.get? a = some { cls := .type "tuple", data := .seq vs.toArray })
theorem ArgOb.mono {h : Heap} {A B : List Addr} {a : Addr} (k : ∀ a ∈ A, a ∈ B) (x : ArgOb h A a) : ArgOb h B a := by
  obtain ⟨vs, h1, h2, h3⟩ := x
  exact ⟨vs, h1, fun u hu => (h2 u hu).mono k, h3⟩
theorem wellAll_len {P : Params} {h : Heap} : ∀ {vs : List Value} {ds : List WData}, WellAll P h vs ds → vs.length = ds.length
  | _, _, .nil => rfl
  | _, _, .cons _ b => by
    show _ + 1 = _ + 1
    rw [wellAll_len b]
theorem well_list {P : Params} {h : Heap} {v : Value} {ds : List WData} (x : Well P h v (.list ds)) : ∃ (a : Addr) (vs : List Value), v = .ref a ∧ h.get? a = some { cls := .type "list", data := .seq vs.toArray } ∧ WellAll P h vs ds := by
  cases x with
  | list ho hall => exact ⟨_, _, rfl, ho, hall⟩
theorem well_tuple {P : Params} {h : Heap} {v : Value} {ds : List WData} (x : Well P h v (.tuple ds)) : ∃ (a : Addr) (vs : List Value), v = .ref a ∧ h.get? a = some { cls := .type "tuple", data := .seq vs.toArray } ∧ WellAll P h vs ds := by
  cases x with
  | tuple ho hall => exact ⟨_, _, rfl, ho, hall⟩
theorem well_cons {P : Params} {h : Heap} {us : List Value} {d : WData} {ds : List WData} (x : WellAll P h us (d :: ds)) : ∃ (v : Value) (vs : List Value), us = v :: vs ∧ Well P h v d ∧ WellAll P h vs ds := by
  cases x with
  | cons a b => exact ⟨_, _, rfl, a, b⟩
theorem line_of {n : Nat} (h : n ≤ 1048576) : n ≤ sizeLine := Nat.le_trans h (by decide)
section
variable {P : Params} {h : Heap}
mutual
theorem area_one : ∀ (d : WData) (v : Value), Well P h v d → plW d = true → d.weight ≤ 1048576 → ∃ A : List Addr, OkU A v ∧ ∀ a ∈ A, ArgOb h A a
  | .none, _, x, _, _ => by
    cases x
    exact ⟨[], trivial, fun a m => absurd m (by simp)⟩
  | .bool b, _, x, _, _ => by
    cases x
    exact ⟨[], trivial, fun a m => absurd m (by simp)⟩
  | .int i, _, x, _, _ => by
    cases x
    exact ⟨[], trivial, fun a m => absurd m (by simp)⟩
  | .str s, _, x, _, _ => by
    cases x
    exact ⟨[], trivial, fun a m => absurd m (by simp)⟩
  | .bytes b, _, x, _, _ => by
    cases x
    exact ⟨[], trivial, fun a m => absurd m (by simp)⟩
  | .list ds, _, x, p, z => by
    obtain ⟨a, vs, rfl, ho, hall⟩ := well_list x
    have z2 : WData.weightAll ds ≤ 1048576 := z
    obtain ⟨A, h1, h2⟩ := area_all ds _ hall p fun d hd => Nat.le_trans (weight_mem hd) z2
    have k : ∀ b ∈ A, b ∈ a :: A := fun b hb => List.mem_cons_of_mem _ hb
    refine ⟨a :: A, List.mem_cons_self .., fun b hb => ?_⟩
    rcases List.mem_cons.mp hb with e | m
    · rw [e]
      exact ⟨vs, line_of (by rw [wellAll_len hall]; exact Nat.le_trans (PySem.W.length_le_weightAllW ds) z2), fun u hu => (h1 u hu).mono k, .inl ho⟩
    · exact (h2 b m).mono k
  | .tuple ds, _, x, p, z => by
    obtain ⟨a, vs, rfl, ho, hall⟩ := well_tuple x
    have z2 : WData.weightAll ds ≤ 1048576 := z
    obtain ⟨A, h1, h2⟩ := area_all ds _ hall p fun d hd => Nat.le_trans (weight_mem hd) z2
    have k : ∀ b ∈ A, b ∈ a :: A := fun b hb => List.mem_cons_of_mem _ hb
    refine ⟨a :: A, List.mem_cons_self .., fun b hb => ?_⟩
    rcases List.mem_cons.mp hb with e | m
    · rw [e]
      exact ⟨vs, line_of (by rw [wellAll_len hall]; exact Nat.le_trans (PySem.W.length_le_weightAllW ds) z2), fun u hu => (h1 u hu).mono k, .inr ho⟩
    · exact (h2 b m).mono k
  | .float _, _, _, p, _ => Bool.noConfusion (show false = true from p)
  | .dict _, _, _, p, _ => Bool.noConfusion (show false = true from p)
  | .bytearray _, _, _, p, _ => Bool.noConfusion (show false = true from p)
  | .set _, _, _, p, _ => Bool.noConfusion (show false = true from p)
  | .frozenset _, _, _, p, _ => Bool.noConfusion (show false = true from p)
  | .obj _ _, _, _, p, _ => Bool.noConfusion (show false = true from p)
theorem area_all : ∀ (ds : List WData) (vs : List Value), WellAll P h vs ds → plWs ds = true → (∀ d ∈ ds, d.weight ≤ 1048576) → ∃ A : List Addr, (∀ u ∈ vs, OkU A u) ∧ ∀ a ∈ A, ArgOb h A a
  | [], _, x, _, _ => by
    cases x
    exact ⟨[], fun u m => absurd m (by simp), fun a m => absurd m (by simp)⟩
  | d :: ds, _, x, p, z => by
    obtain ⟨v, vs, rfl, x1, x2⟩ := well_cons x
    have q : plW d = true ∧ plWs ds = true := Bool.and_eq_true_iff.mp p
    obtain ⟨A, a1, a2⟩ := area_one d v x1 q.1 (z d (List.mem_cons_self ..))
    obtain ⟨B, b1, b2⟩ := area_all ds vs x2 q.2 fun e he => z e (List.mem_cons_of_mem _ he)
    have kA : ∀ b ∈ A, b ∈ A ++ B := fun b hb => List.mem_append.mpr (.inl hb)
    have kB : ∀ b ∈ B, b ∈ A ++ B := fun b hb => List.mem_append.mpr (.inr hb)
    refine ⟨A ++ B, fun u hu => ?_, fun b hb => ?_⟩
    · rcases List.mem_cons.mp hu with e | m
      · rw [e]
        exact a1.mono kA
      · exact (b1 u m).mono kB
    · rcases List.mem_append.mp hb with m | m
      · exact (a2 b m).mono kA
      · exact (b2 b m).mono kB
end
end
/-- what is tracked of an argument's object -/
def hoOf (o : Obj) : Option HO := match o.data with
  | .seq vs _ => if (o.cls == Value.type "list") = true then some (.frz o (.lst (vs.toList.map toV))) else some (.frz o (.tup (vs.toList.map toV)))
  | _ => none
def argH (K : PySem.W.Frag) (h : Heap) (A : List Addr) : Hp := fun b => if b ∈ A then (if (K.lookup b).isNone = true then (h.get? b).bind hoOf else none) else none
/-- nothing is tracked but what is known to the object -/
def OnlyF (H : Hp) : Prop := ∀ b, H b = none ∨ ∃ o u, H b = some (.frz o u)
theorem hoOf_lst (vs : List Value) : hoOf { cls := .type "list", data := .seq vs.toArray } = some (.frz { cls := .type "list", data := .seq vs.toArray } (.lst (vs.map toV))) := by
  show (if (Value.type "list" == Value.type "list") = true then some (HO.frz { cls := .type "list", data := .seq vs.toArray } (.lst (vs.toArray.toList.map toV))) else some (HO.frz { cls := .type "list", data := .seq vs.toArray } (.tup (vs.toArray.toList.map toV)))) = _
  rw [if_pos (beq_self_eq_true _)]
theorem hoOf_tup (vs : List Value) : hoOf { cls := .type "tuple", data := .seq vs.toArray } = some (.frz { cls := .type "tuple", data := .seq vs.toArray } (.tup (vs.map toV))) := by
  show (if (Value.type "tuple" == Value.type "list") = true then some (HO.frz { cls := .type "tuple", data := .seq vs.toArray } (.lst (vs.toArray.toList.map toV))) else some (HO.frz { cls := .type "tuple", data := .seq vs.toArray } (.tup (vs.toArray.toList.map toV)))) = _
  rw [if_neg (by decide)]
section
variable {P : Program} {w : World} {K : PySem.W.Frag} {h : Heap} {A : List Addr}
theorem argH_at {b : Addr} {o : Obj} (hb : b ∈ A) (hk : K.lookup b = none) (e : h.get? b = some o) : argH K h A b = hoOf o := by
  unfold argH
  rw [if_pos hb, hk, if_pos (show (none : Option Obj).isNone = true from rfl), e] <;> rfl
theorem of_argH {b : Addr} {u : HO} (q : argH K h A b = some u) : b ∈ A ∧ K.lookup b = none := by
  unfold argH at q
  by_cases hb : b ∈ A
  · rw [if_pos hb] at q
    cases hk : K.lookup b with
    | none => exact ⟨hb, rfl⟩
    | some o =>
      rw [hk, if_neg (by simp)] at q
      cases q
  · rw [if_neg hb] at q
    cases q
/-- what stands tracked -/
theorem argH_is (ar : ∀ a ∈ A, ArgOb h A a) {b : Addr} {u : HO} (q : argH K h A b = some u) : K.lookup b = none ∧ ∃ vs : List Value, vs.length ≤ sizeLine ∧ (∀ u ∈ vs, OkU A u) ∧
    ((h.get? b = some { cls := .type "list", data := .seq vs.toArray } ∧ u = .frz { cls := .type "list", data := .seq vs.toArray } (.lst (vs.map toV))) ∨
     (h.get? b = some { cls := .type "tuple", data := .seq vs.toArray } ∧ u = .frz { cls := .type "tuple", data := .seq vs.toArray } (.tup (vs.map toV)))) := by
  obtain ⟨hb, hk⟩ := of_argH q
  obtain ⟨vs, h1, h2, h3⟩ := ar b hb
  refine ⟨hk, vs, h1, h2, ?_⟩
  rcases h3 with e | e
  · rw [argH_at hb hk e, hoOf_lst] at q
    exact .inl ⟨e, (Option.some.inj q).symm⟩
  · rw [argH_at hb hk e, hoOf_tup] at q
    exact .inr ⟨e, (Option.some.inj q).symm⟩
theorem argH_only (ar : ∀ a ∈ A, ArgOb h A a) : OnlyF (argH K h A) := fun b => by
  cases q : argH K h A b with
  | none => exact .inl rfl
  | some u =>
    obtain ⟨_, vs, _, _, ⟨_, e⟩ | ⟨_, e⟩⟩ := argH_is ar q
    · exact .inr ⟨_, _, by rw [e]⟩
    · exact .inr ⟨_, _, by rw [e]⟩
theorem argH_ok (ar : ∀ a ∈ A, ArgOb h A a) : HOk P w (argH K h A) h := fun b u q => by
  obtain ⟨_, vs, h1, h2, ⟨e, rfl⟩ | ⟨e, rfl⟩⟩ := argH_is ar q
  · exact ⟨e, by rw [List.length_map]; exact h1, vs, _, vals_toV h2, e⟩
  · exact ⟨e, by rw [List.length_map]; exact h1, vs, vals_toV h2, _, e, rfl, _, rfl⟩
theorem seq_inj {c c' : Value} {vs us : List Value} (e : (some { cls := c, data := .seq vs.toArray } : Option Obj) = some { cls := c', data := .seq us.toArray }) : c = c' ∧ vs = us := by
  have e1 := Option.some.inj e
  have e2 : c = c' := congrArg Obj.cls e1
  have e3 : Data.seq vs.toArray = Data.seq us.toArray := congrArg Obj.data e1
  injection e3 with e4
  refine ⟨e2, ?_⟩
  have e5 := congrArg Array.toList e4
  simpa using e5
/-- a list argument -/
theorem argL (KX : K.In h) (ar : ∀ a ∈ A, ArgOb h A a) {a : Addr} {vs : List Value} (ha : a ∈ A) (e : h.get? a = some { cls := .type "list", data := .seq vs.toArray }) : (∀ u ∈ vs, OkU A u) ∧ SqL K (argH K h A) a (vs.map toV) := by
  obtain ⟨us, h1, h2, h3⟩ := ar a ha
  have hu : us = vs := by
    rcases h3 with q | q
    · rw [e] at q
      exact (seq_inj q).2.symm
    · rw [e] at q
      exact absurd (Value.type.inj (seq_inj q).1) (by decide)
  subst hu
  refine ⟨h2, ?_⟩
  cases hk : K.lookup a with
  | none => exact .inl (.inr ⟨_, by rw [argH_at ha hk e, hoOf_lst]⟩)
  | some o =>
    have e2 := KX a o hk
    rw [e] at e2
    obtain rfl := Option.some.inj e2
    exact .inr ⟨_, us.toArray, _, hk, rfl, rfl, rfl, by rw [List.size_toArray]; exact h1, by simpa using vals_toV h2⟩
theorem argT (KX : K.In h) (ar : ∀ a ∈ A, ArgOb h A a) {a : Addr} {vs : List Value} (ha : a ∈ A) (e : h.get? a = some { cls := .type "tuple", data := .seq vs.toArray }) : (∀ u ∈ vs, OkU A u) ∧ SqT K (argH K h A) a (vs.map toV) := by
  obtain ⟨us, h1, h2, h3⟩ := ar a ha
  have hu : us = vs := by
    rcases h3 with q | q
    · rw [e] at q
      exact absurd (Value.type.inj (seq_inj q).1) (by decide)
    · rw [e] at q
      exact (seq_inj q).2.symm
  subst hu
  refine ⟨h2, ?_⟩
  cases hk : K.lookup a with
  | none => exact .inl (.inr ⟨_, by rw [argH_at ha hk e, hoOf_tup]⟩)
  | some o =>
    have e2 := KX a o hk
    rw [e] at e2
    obtain rfl := Option.some.inj e2
    exact .inr ⟨_, us.toArray, _, hk, rfl, rfl, by rw [List.size_toArray]; exact h1, by simpa using vals_toV h2⟩
mutual
theorem dw_one {Pm : Params} (KX : K.In h) (ar : ∀ a ∈ A, ArgOb h A a) : ∀ (d : WData) (v : Value), Well Pm h v d → plW d = true → OkU A v → Dw K (argH K h A) (toV v) d
  | .none, _, x, _, _ => by
    cases x
    exact .non
  | .bool b, _, x, _, _ => by
    cases x
    exact .bl b
  | .int i, _, x, _, _ => by
    cases x
    exact .int i
  | .str s, _, x, _, _ => by
    cases x
    exact .str s
  | .bytes b, _, x, _, _ => by
    cases x
    have z := Dw.byt (K := K) (H := argH K h A) b.toArray
    exact z
  | .list ds, _, x, p, hu => by
    obtain ⟨a, vs, rfl, ho, hall⟩ := well_list x
    obtain ⟨h2, hs⟩ := argL KX ar hu ho
    exact .lst hs (dw_all KX ar ds _ hall p h2)
  | .tuple ds, _, x, p, hu => by
    obtain ⟨a, vs, rfl, ho, hall⟩ := well_tuple x
    obtain ⟨h2, hs⟩ := argT KX ar hu ho
    exact .tup hs (dw_all KX ar ds _ hall p h2)
  | .float _, _, _, p, _ => Bool.noConfusion (show false = true from p)
  | .dict _, _, _, p, _ => Bool.noConfusion (show false = true from p)
  | .bytearray _, _, _, p, _ => Bool.noConfusion (show false = true from p)
  | .set _, _, _, p, _ => Bool.noConfusion (show false = true from p)
  | .frozenset _, _, _, p, _ => Bool.noConfusion (show false = true from p)
  | .obj _ _, _, _, p, _ => Bool.noConfusion (show false = true from p)
theorem dw_all {Pm : Params} (KX : K.In h) (ar : ∀ a ∈ A, ArgOb h A a) : ∀ (ds : List WData) (vs : List Value), WellAll Pm h vs ds → plWs ds = true → (∀ u ∈ vs, OkU A u) → DwAll K (argH K h A) (vs.map toV) ds
  | [], _, x, _, _ => by
    cases x
    exact .nil
  | d :: ds, _, x, p, hu => by
    obtain ⟨v, vs, rfl, x1, x2⟩ := well_cons x
    have q : plW d = true ∧ plWs ds = true := Bool.and_eq_true_iff.mp p
    exact .cons (dw_one KX ar d v x1 q.1 (hu _ (List.mem_cons_self ..))) (dw_all KX ar ds vs x2 q.2 fun u m => hu u (List.mem_cons_of_mem _ m))
end
end
theorem spec_call {P : Program} {w : World} {K : PySem.W.Frag} {mg mb : Str → Option Value} {CX : CXT} {k : Nat} {fa : Addr} {fd : FuncData} {ps : List Str} {sp : Sp} {s₁ : Shared} {vals : List Value} {ds : List WData} {R : PySem.W.WRecords} {cl : Str → Option Addr} {d0 : WData}
    (KX : K.In s₁.heap) (hns : s₁.heap.Ns mainGlobals mg) (hb : s₁.heap.Ns builtinsNs mb) (hbb : ∀ x : Str, x ≠ "__name__" → mb x = bootBuiltins x) (hlim : s₁.heap.NoLimit) (hg : s₁.gens = #[])
    (hwl : WellAll w.params s₁.heap vals ds) (hpl : plWs ds = true) (hwt : ∀ d ∈ ds, d.weight ≤ 1048576) (hr : Room k callerA)
    (F : ∀ base : Heap, K.In base → base.Ns mainGlobals mg → FnOk P w K mg base CX k fa fd ps sp) (hbind : ∀ (s : Shared) (us : List Value), us.length = ps.length → BindsTo s fd ⟨us, []⟩ (ps.zip us)) (hlen : ds.length = ps.length)
    (hsp : ∀ (H : Hp) (xs : List V), OnlyF H → DwAll K H xs ds → sp xs H (fun v H' => Dw K H' v d0) fun _ _ _ => False)
    (hCX : ∀ H e s', CX [] H s₁ (fun _ _ _ => False) e s' → False) :
    codeAny (model P w) callerA (.call (.ref fa) ⟨vals, []⟩) (fun r s' => ∃ u as, r = .ok (.ret u) ∧ ReadsW R cl s'.heap u d0 as ∧ OldK s₁.heap s'.heap ∧ s'.os = s₁.os ∧ AllBare s'.gens) s₁ := by
  obtain ⟨A, ho, ar⟩ := area_all ds vals hwl hpl hwt
  have hO : OnlyF (argH K s₁.heap A) := argH_only ar
  have hok : HOk P w (argH K s₁.heap A) s₁.heap := argH_ok ar
  have hS := dw_all KX ar ds vals hwl hpl ho
  have hV := vals_toV ho
  have hK : ∀ b u, argH K s₁.heap A b = some u → K.lookup b = none := fun b u q => (argH_is ar q).1
  have noA : ∀ {b : Addr} {o : Obj} {es : Array DictEntry} {ep : Nat}, s₁.heap.get? b = some o → o.data = .dict es ep → argH K s₁.heap A b = none := fun {b o es ep} e d => by
    cases q : argH K s₁.heap A b with
    | none => rfl
    | some u =>
      obtain ⟨_, vs, _, _, ⟨e2, _⟩ | ⟨e2, _⟩⟩ := argH_is ar q
      · rw [e2] at e
        cases e
        have d' : Data.seq vs.toArray _ = Data.dict es ep := d
        cases d'
      · rw [e2] at e
        cases e
        have d' : Data.seq vs.toArray _ = Data.dict es ep := d
        cases d'
  generalize argH K s₁.heap A = H at hO hok hS hK noA
  have base_of : ∀ {b : Addr} {o : Obj}, s₁.heap.get? b = some o → H b = none → (hidT s₁.heap H).get? b = some o := fun e n => hidT_get e n
  have nsK : ∀ {b : Addr} {m : Str → Option Value}, s₁.heap.Ns b m → (hidT s₁.heap H).Ns b m := fun {b m} ⟨o, es, ep, e, d, r⟩ => ⟨o, es, ep, base_of e (noA e d), d, r⟩
  have nK : ∀ b o, K.lookup b = some o → H b = none := fun b o e => by
    cases q : H b with
    | none => rfl
    | some u =>
      rw [hK b u q] at e
      cases e
  have hKb : K.In (hidT s₁.heap H) := fun b o e => base_of (KX b o e) (nK b o e)
  have hM : Mod K mg (hidT s₁.heap H) := ⟨hKb, nsK hns, ⟨mb, nsK hb, hbb⟩, let ⟨mc, h1, h2⟩ := hlim; ⟨mc, nsK h1, h2⟩⟩
  have e0 : Env0 P w K mg (hidT s₁.heap H) callerA [] s₁ H := ⟨rfl, hM, fun b o e => of_hidT e, Nat.le_of_eq (hidT_size _ _), trivial, fun b hb => absurd (show b ∈ ([] : List Addr) from hb) (by simp), hok, .of_eq hg⟩
  have hl : vals.length = ps.length := by rw [wellAll_len hwl]; exact hlen
  refine codeAny_mono ((F _ hKb (nsK hns)).run callerA [] s₁ H ⟨vals, []⟩ vals (vals.map toV) _ _ hr e0 (hbind s₁ vals hl) hV (hsp H _ hO hS)) fun r s' x => ?_
  cases r with
  | error e => exact (hCX H e s' x).elim
  | ok fl =>
    cases fl with
    | next => exact False.elim x
    | brk => exact False.elim x
    | cont => exact False.elim x
    | ret u =>
      obtain ⟨v, H', os, bare, un, hok', r', q⟩ := x
      have kept : ∀ b o, s₁.heap.get? b = some o → s'.heap.get? b = some o := fun b o e => by
        cases q2 : H b with
        | none => exact un.keep b o e q2 (by intro z; exact absurd (show b ∈ ([] : List Addr) from z) (by simp)) (by simp)
        | some u2 =>
          rcases hO b with z | ⟨ob, u3, z⟩
          · rw [q2] at z
            cases z
          · have z2 := un.frzs b ob _ z
            obtain ⟨e1, _⟩ := hok b _ z
            obtain ⟨e2, _⟩ := hok' b _ z2
            rw [e] at e1
            cases e1
            exact e2
      have KX' : K.In s'.heap := fun b o e => kept b o (KX b o e)
      obtain ⟨as, hrd⟩ := Dw.reads (R := R) (cl := cl) hok' KX' d0 v u q r'
      exact ⟨u, as, rfl, hrd, OldK.of_keep kept, os, bare⟩
theorem layable_weight {ds : List WData} (h : WData.layableAll ds = true) : ∀ d ∈ ds, d.weight ≤ 1048576 := fun d hd =>
  (PySem.W.layableW_iff.mp (List.all_eq_true.mp h d hd)).2.2
theorem encAll_len : ∀ (cs : List Codec) (a : Codec.denoteAll cs), (Codec.encAll cs a).length = cs.length
  | [], _ => rfl
  | c :: cs, a => by
    show (Codec.encAll cs a.2).length + 1 = cs.length + 1
    rw [encAll_len cs a.2]
/-- the goal that k_headS leaves (case hc), from the promise of the row's def: whatever the arguments that the codecs let and the row asks for, the def gives what stands for enc (f ..) -/
theorem walk_spec {r : OpenSpec} {k : Nat} {q : Program} {loose : List Str} {XP : (Str → Option Value) → Heap → Prop} {YP : World → Heap → Prop} {d : DefRec} {K : Params → PySem.W.Frag} {CX : World → CXT} {ps : List Str} {sp : World → Sp}
    (hwell : r.wellSaid = true) (hdf : d.params.defaults = []) (hlen : r.args.length = ps.length) (hr : Room k callerA)
    (hY : ∀ (w : World) (h : Heap), YP w h → (K w.params).In h)
    (F : ∀ (w : World) (mg : Str → Option Value) (fa : Addr) (h : Heap), YP w h → (K w.params).In h → h.Ns mainGlobals mg → mg d.name = some (.ref fa) →
      ∃ fd : FuncData, (∀ (s : Shared) (us : List Value), us.length = ps.length → BindsTo s fd ⟨us, []⟩ (ps.zip us)) ∧
        ∀ base : Heap, (K w.params).In base → base.Ns mainGlobals mg → FnOk r.prog w (K w.params) mg base (CX w) k fa fd ps (sp w))
    (hsp : ∀ (w : World) (H : Hp) (xs : List V) (a : Codec.denoteAll r.args), OnlyF H → Codec.withinAll r.args a = true → Codec.app r.args r.asked a = true → DwAll (K w.params) H xs (Codec.encAll r.args a) →
      sp w xs H (fun v H' => Dw (K w.params) H' v (r.ret.enc (Codec.app r.args r.f a))) fun _ _ _ => False)
    (hCX : ∀ (w : World) (H : Hp) (s : Shared) (e : Value) (s' : Shared), CX w [] H s (fun _ _ _ => False) e s' → False) :
    PySem.W.WalkOS q loose XP YP r d [] (fun f vs => PySem.call f vs) := by
  intro w s_0 s₁ mg mb G Y fa o pm cd doc dV kV ho hd hcd hD hmg hg args vals as hpre hlay hrd hwl hlo
  obtain ⟨a, e1, e2⟩ := PySem.W.os_pre_some hpre
  obtain ⟨e3, hwi⟩ := Codec.encAll_of_decAll r.args args a e1
  subst e3
  have KX := hY w _ Y
  obtain ⟨fd, hb, hF⟩ := F w mg fa _ Y KX G.T.g hmg
  refine PySem.W.enter_call (codeAny_mono (spec_call (R := []) (cl := classAt s_0.heap) (d0 := r.ret.enc (Codec.app r.args r.f a)) KX G.T.g G.T.b G.T.builtins G.T.nolimit hg hwl (pl_encAll _ _) (layable_weight hlay) hr hF hb (by rw [encAll_len]; exact hlen)
    (fun H xs hO hS => hsp w H xs a hO hwi e2 hS) fun H e s' => hCX w H s₁ e s') fun r' s' hq => ?_)
  obtain ⟨u, as', rfl, h1, h2, h3, h4⟩ := hq
  exact ⟨.inl ⟨u, _, as', rfl, fun _ => rfl, h1, (OpenSpec.post_iff hwell hwi _ _).mpr rfl, fun z => Bool.noConfusion (show false = true from z)⟩, h2, h3, h4⟩
/-- the same where the promise hangs on the written part alone -/
theorem walk_specK {r : OpenSpec} {k : Nat} {q : Program} {loose : List Str} {XP : (Str → Option Value) → Heap → Prop} {YP : World → Heap → Prop} {d : DefRec} {K : Params → PySem.W.Frag} {CX : CXT} {ps : List Str} {sp : PySem.W.Frag → Sp}
    (hwell : r.wellSaid = true) (hdf : d.params.defaults = []) (hlen : r.args.length = ps.length) (hr : Room k callerA)
    (hY : ∀ (w : World) (h : Heap), YP w h → (K w.params).In h)
    (F : ∀ (w : World) (mg : Str → Option Value) (fa : Addr) (h : Heap), YP w h → (K w.params).In h → h.Ns mainGlobals mg → mg d.name = some (.ref fa) →
      ∃ fd : FuncData, (∀ (s : Shared) (us : List Value), us.length = ps.length → BindsTo s fd ⟨us, []⟩ (ps.zip us)) ∧
        ∀ base : Heap, (K w.params).In base → base.Ns mainGlobals mg → FnOk r.prog w (K w.params) mg base CX k fa fd ps (sp (K w.params)))
    (hsp : ∀ (K : PySem.W.Frag) (H : Hp) (xs : List V) (a : Codec.denoteAll r.args), OnlyF H → Codec.withinAll r.args a = true → Codec.app r.args r.asked a = true → DwAll K H xs (Codec.encAll r.args a) →
      sp K xs H (fun v H' => Dw K H' v (r.ret.enc (Codec.app r.args r.f a))) fun _ _ _ => False)
    (hCX : ∀ (H : Hp) (s : Shared) (e : Value) (s' : Shared), CX [] H s (fun _ _ _ => False) e s' → False) :
    PySem.W.WalkOS q loose XP YP r d [] (fun f vs => PySem.call f vs) :=
  walk_spec (K := K) (CX := fun _ => CX) (sp := fun w => sp (K w.params)) hwell hdf hlen hr hY F (fun w H xs a h1 h2 h3 h4 => hsp (K w.params) H xs a h1 h2 h3 h4) fun _ H s e s' => hCX H s e s'
end L2
-- rests on (row put in by the clerk, for the bench that shows a file only what it spells): KE.SpHead KE.OsShapes
end

set_option linter.all false
namespace Snow
/-! the mirror: what each def of the program does, over plain data -/
structure WS where
  deep : Int
  clears : Int
  may : Int
  row : Int
  rest : Int
  hour : Int
  call : Int
  falls : List Int
structure NS where
  depth : Int
  depths : List Int
  plan : List Int
  worked : Int
  outs : Int
  row : Int
  rested : Int
def ci (l : List Nat) : List Int := l.map fun (n : Nat) => (n : Int)
def ofW (W : Si78.Watch) : WS := ⟨W.start, W.clears, W.deep, W.long, W.rest, W.hour, W.call, ci W.snow⟩
def NS.new (d : Int) : NS := ⟨d, [], [], 0, 0, 0, 0⟩
def NS.works (n : NS) : NS := { n with plan := n.plan ++ [1], outs := if n.row = 0 then n.outs + 1 else n.outs, worked := n.worked + 1, row := n.row + 1, rested := 0 }
def NS.rests (n : NS) : NS := { n with plan := n.plan ++ [0], row := 0, rested := n.rested + 1 }
def NS.lies (n : NS) (d : Int) : NS := { n with depth := d, depths := n.depths ++ [d] }
def tired (w : WS) (n : NS) : Int := if n.row = w.row then 1 else if n.row = 0 ∧ 0 < n.worked ∧ n.rested < w.rest then 2 else 0
def max0 (z : Int) : Int := if z > 0 then z else 0
def deepWrong (w : WS) (d : Int) : Int := if w.may < d then 3 else 0
def passH (w : WS) (n : NS) (fall works : Int) : NS × Int :=
  if works = 1 then
    (if tired w n ≠ 0 then (n, tired w n)
     else (n.works.lies (max0 (n.depth + fall - w.clears)), deepWrong w (max0 (n.depth + fall - w.clears))))
  else (n.rests.lies (n.depth + fall), deepWrong w (n.depth + fall))
def hoursH (w : WS) : Nat → NS → List Int → List Int → NS × Option (Nat × Int)
  | i, n, f :: fs, p :: ps => if (passH w n f p).2 ≠ 0 then ((passH w n f p).1, some (i, (passH w n f p).2)) else hoursH w (i + 1) (passH w n f p).1 fs ps
  | _, n, _, _ => (n, none)
def isPlan (w : WS) (l : List Int) : Bool := l.length == w.falls.length && l.all fun z => decide (z = 0 ∨ z = 1)
def costH (w : WS) (n : NS) : Int := n.worked * w.hour + n.outs * w.call
def checkH (w : WS) (l : List Int) : List Int :=
  if isPlan w l = true then
    match hoursH w 0 (NS.new w.deep) w.falls l with
    | (_, some (i, e)) => [-6, (i : Int), e]
    | (n, none) => [costH w n, n.worked, n.outs] ++ n.depths
  else [-1]
/-! the mathematics -/
structure GoodW (W : Si78.Watch) : Prop where
  long : 1 ≤ W.long ∧ W.long ≤ 10
  rest : 1 ≤ W.rest ∧ W.rest ≤ 10
  start : W.start ≤ 1000
  clears : 1 ≤ W.clears ∧ W.clears ≤ 1000
  deep : W.deep ≤ 1000
  hour : W.hour ≤ 1000
  call : W.call ≤ 1000
  snow : W.snow.length ≤ 10
  falls : ∀ n ∈ W.snow, n ≤ 100
/-- the program's night against the specification's stand; p: the hour before, k: hours worked, c: call-outs -/
structure Rel (W : Si78.Watch) (n : NS) (s : Si78.Stand) (p k c : Nat) (ds : List Nat) : Prop where
  depth : n.depth = (s.depth : Int)
  row : n.row = (s.row : Int)
  le : s.row ≤ W.long
  pz : p = 0 ↔ s.row = 0
  idle : s.row = 0 → (s.idle = none ∧ k = 0) ∨ ∃ m, s.idle = some m ∧ n.rested = (m : Int) ∧ 0 < k
  rz : 0 < s.row → n.rested = 0 ∧ 0 < k
  worked : n.worked = (k : Int)
  outs : n.outs = (c : Int)
  depths : n.depths = ci ds
theorem rel_new (W : Si78.Watch) : Rel W (NS.new W.start) W.begun 0 0 0 [] where
  depth := rfl
  row := rfl
  le := Nat.zero_le _
  pz := ⟨fun _ => rfl, fun _ => rfl⟩
  idle := fun _ => .inl ⟨rfl, rfl⟩
  rz := fun h => absurd h (Nat.lt_irrefl _)
  worked := rfl
  outs := rfl
  depths := rfl
theorem tired_eq {W : Si78.Watch} (g : GoodW W) {n : NS} {s : Si78.Stand} {p k c : Nat} {ds : List Nat} (r : Rel W n s p k c ds) : tired (ofW W) n = ((W.tired s 1 : Nat) : Int) := by
  unfold tired Si78.Watch.tired
  have h1 := r.row
  have h2 := r.le
  have h3 := g.long.1
  have e1 : (ofW W).row = (W.long : Int) := rfl
  have e2 : (ofW W).rest = (W.rest : Int) := rfl
  rw [e1, e2, if_neg (show ¬ (1 : Nat) = 0 by decide)]
  by_cases hz : 0 < s.row
  · rw [if_pos hz]
    by_cases hl : W.long ≤ s.row
    · rw [if_pos hl, if_pos (by omega)]; rfl
    · rw [if_neg hl, if_neg (by omega), if_neg (by omega)]; rfl
  · have hz' : s.row = 0 := by omega
    rw [if_neg hz, if_neg (by omega)]
    rcases r.idle hz' with ⟨e, hk⟩ | ⟨m, e, hm, hk⟩
    · rw [e]
      have := r.worked
      rw [if_neg (by omega)]; rfl
    · rw [e]
      have := r.worked
      show _ = (((if m < W.rest then 2 else 0 : Nat)) : Int)
      by_cases hr : m < W.rest
      · rw [if_pos hr, if_pos (by omega)]; rfl
      · rw [if_neg hr, if_neg (by omega)]; rfl
theorem max0_nat (a b : Nat) : max0 ((a : Int) - (b : Int)) = ((a - b : Nat) : Int) := by
  unfold max0
  by_cases h : (a : Int) - (b : Int) > 0
  · rw [if_pos h]; omega
  · rw [if_neg h]; omega
theorem tired0 (W : Si78.Watch) (s : Si78.Stand) : W.tired s 0 = 0 := by
  unfold Si78.Watch.tired; rw [if_pos rfl]
theorem ci_snoc (l : List Nat) (d : Nat) : ci (l ++ [d]) = ci l ++ [(d : Int)] := by
  unfold ci; rw [List.map_append]; rfl
/-- an hour -/
theorem rel_pass {W : Si78.Watch} (g : GoodW W) {n : NS} {s : Si78.Stand} {p k c : Nat} {ds : List Nat} (r : Rel W n s p k c ds) (f b : Nat) (hb : b < 2) (ht : W.tired s b = 0) :
    Rel W (passH (ofW W) n (f : Int) (b : Int)).1 (W.passes s b f) b (k + b) (c + (if p = 0 ∧ b ≠ 0 then 1 else 0)) (ds ++ [(W.passes s b f).depth]) ∧
    (passH (ofW W) n (f : Int) (b : Int)).2 = (if W.deep < (W.passes s b f).depth then 3 else 0) := by
  have hd := r.depth
  have hrow := r.row
  by_cases h0 : b = 0
  · subst h0
    have e : passH (ofW W) n (f : Int) ((0 : Nat) : Int) = (n.rests.lies (n.depth + f), deepWrong (ofW W) (n.depth + f)) := by
      unfold passH; rw [if_neg (by decide)]
    have es : W.passes s 0 f = ⟨s.depth + f, 0, if 0 < s.row then some 1 else s.idle.map fun k => k + 1⟩ := by
      unfold Si78.Watch.passes; rw [if_pos rfl]
    rw [e, es]
    refine ⟨⟨?_, rfl, Nat.zero_le _, ⟨fun _ => rfl, fun _ => rfl⟩, fun _ => ?_, fun h => absurd h (Nat.lt_irrefl _), ?_, ?_, ?_⟩, ?_⟩
    · show n.depth + f = ((s.depth + f : Nat) : Int); omega
    · by_cases hz : 0 < s.row
      · refine .inr ⟨1, if_pos hz, ?_, ?_⟩
        · show n.rested + 1 = ((1 : Nat) : Int)
          have := (r.rz hz).1; omega
        · exact (r.rz hz).2
      · have hz' : s.row = 0 := by omega
        rcases r.idle hz' with ⟨e1, hk⟩ | ⟨m, e1, hm, hk⟩
        · refine .inl ⟨?_, hk⟩
          show (if 0 < s.row then some 1 else s.idle.map fun k => k + 1) = none
          rw [if_neg hz, e1]; rfl
        · refine .inr ⟨m + 1, ?_, ?_, hk⟩
          · show (if 0 < s.row then some 1 else s.idle.map fun k => k + 1) = _
            rw [if_neg hz, e1]; rfl
          · show n.rested + 1 = ((m + 1 : Nat) : Int); omega
    · exact r.worked
    · show n.outs = ((c + _ : Nat) : Int)
      rw [if_neg (by omega)]; exact r.outs
    · show n.depths ++ [n.depth + f] = _
      rw [ci_snoc, r.depths, hd]; rfl
    · show deepWrong (ofW W) (n.depth + f) = _
      unfold deepWrong
      have e2 : (ofW W).may = (W.deep : Int) := rfl
      rw [e2]
      show _ = (if W.deep < s.depth + f then (3 : Int) else 0)
      by_cases h : W.deep < s.depth + f
      · rw [if_pos h, if_pos (by omega)]
      · rw [if_neg h, if_neg (by omega)]
  · have h1 : b = 1 := by omega
    subst h1
    have et : tired (ofW W) n = 0 := by rw [tired_eq g r, ht]; rfl
    have e : passH (ofW W) n (f : Int) ((1 : Nat) : Int) = (n.works.lies (max0 (n.depth + f - (ofW W).clears)), deepWrong (ofW W) (max0 (n.depth + f - (ofW W).clears))) := by
      unfold passH; rw [if_pos (by decide), if_neg (by rw [et]; decide)]
    have es : W.passes s 1 f = ⟨s.depth + f - W.clears, s.row + 1, s.idle⟩ := by
      unfold Si78.Watch.passes; rw [if_neg (by decide)]
    have em : max0 (n.depth + f - (ofW W).clears) = ((s.depth + f - W.clears : Nat) : Int) := by
      rw [hd, ← max0_nat]; rfl
    rw [e, es, em]
    have hlt : s.row + 1 ≤ W.long := by
      have hh := ht
      unfold Si78.Watch.tired at hh
      rw [if_neg (by decide)] at hh
      have h3 := g.long.1
      by_cases hz : 0 < s.row
      · rw [if_pos hz] at hh
        by_cases hl : W.long ≤ s.row
        · rw [if_pos hl] at hh; cases hh
        · omega
      · omega
    refine ⟨⟨rfl, ?_, hlt, ⟨fun h => (by cases h), fun h => (by cases h)⟩, fun h => (by cases h), fun _ => ⟨rfl, Nat.succ_pos _⟩, ?_, ?_, ?_⟩, ?_⟩
    · show n.row + 1 = ((s.row + 1 : Nat) : Int); omega
    · show n.worked + 1 = ((k + 1 : Nat) : Int); have := r.worked; omega
    · show (if n.row = 0 then n.outs + 1 else n.outs) = _
      have := r.outs
      have := r.pz
      by_cases hp : p = 0
      · have : s.row = 0 := by omega
        rw [if_pos (by omega), if_pos ⟨hp, by decide⟩]; omega
      · have : ¬ s.row = 0 := by omega
        rw [if_neg (by omega), if_neg (by omega)]; omega
    · show n.depths ++ [_] = _
      rw [ci_snoc, r.depths]
    · show deepWrong (ofW W) _ = _
      unfold deepWrong
      have e2 : (ofW W).may = (W.deep : Int) := rfl
      rw [e2]
      show _ = (if W.deep < s.depth + f - W.clears then (3 : Int) else 0)
      by_cases h : W.deep < s.depth + f - W.clears
      · rw [if_pos h, if_pos (by omega)]
      · rw [if_neg h, if_neg (by omega)]
theorem any_some (a b : Nat) : ((some a).any fun m => decide (m < b)) = decide (a < b) := rfl
/-- hour by hour, against the specification's own walk -/
theorem hours_eq {W : Si78.Watch} (g : GoodW W) : ∀ (fs bs : List Nat) (i : Nat) (n : NS) (s : Si78.Stand) (p k c : Nat) (ds : List Nat), Rel W n s p k c ds → (∀ b ∈ bs, b < 2) → fs.length = bs.length →
    match W.goes (some W.deep) i s fs bs with
    | .error x => ∃ n', hoursH (ofW W) i n (ci fs) (ci bs) = (n', some (x.1, (x.2 : Int)))
    | .ok d => ∃ n' s' p', hoursH (ofW W) i n (ci fs) (ci bs) = (n', none) ∧ Rel W n' s' p' (k + Si78.hours bs) (c + Si78.calls p bs) (ds ++ d)
  | [], [], i, n, s, p, k, c, ds, r, _, _ => by
    show ∃ n' s' p', (n, (none : Option (Nat × Int))) = (n', none) ∧ _
    refine ⟨n, s, p, rfl, ?_⟩
    rw [List.append_nil]
    exact r
  | [], b :: bs, i, n, s, p, k, c, ds, r, _, hl => by simp at hl
  | f :: fs, [], i, n, s, p, k, c, ds, r, _, hl => by simp at hl
  | f :: fs, b :: bs, i, n, s, p, k, c, ds, r, hb, hl => by
    have hb0 : b < 2 := hb b (List.mem_cons_self ..)
    have hbs : ∀ x ∈ bs, x < 2 := fun x hx => hb x (List.mem_cons_of_mem _ hx)
    have hl' : fs.length = bs.length := by simpa using hl
    have eh : hoursH (ofW W) i n (ci (f :: fs)) (ci (b :: bs)) = if (passH (ofW W) n f b).2 ≠ 0 then ((passH (ofW W) n f b).1, some (i, (passH (ofW W) n f b).2)) else hoursH (ofW W) (i + 1) (passH (ofW W) n f b).1 (ci fs) (ci bs) := rfl
    rw [eh]
    unfold Si78.Watch.goes
    by_cases ht : W.tired s b = 0
    · rw [if_neg (by rw [ht]; simp)]
      obtain ⟨r', e2⟩ := rel_pass g r f b hb0 ht
      dsimp only
      rw [any_some]
      by_cases hd : W.deep < (W.passes s b f).depth
      · rw [if_pos hd] at e2
        rw [if_pos (decide_eq_true hd), if_pos (by rw [e2]; decide), e2]
        exact ⟨_, rfl⟩
      · rw [if_neg hd] at e2
        rw [if_neg (by simp [hd]), if_neg (by rw [e2]; decide)]
        have ih := hours_eq g fs bs (i + 1) _ _ _ _ _ _ r' hbs hl'
        cases eg : W.goes (some W.deep) (i + 1) (W.passes s b f) fs bs with
        | error x =>
          rw [eg] at ih
          exact ih
        | ok d =>
          rw [eg] at ih
          obtain ⟨n', s', p', e1, r1⟩ := ih
          refine ⟨n', s', p', e1, ?_⟩
          have q1 : k + b + Si78.hours bs = k + Si78.hours (b :: bs) := by
            show k + b + bs.sum = k + (b :: bs).sum
            rw [List.sum_cons, Nat.add_assoc]
          have q2 : c + (if p = 0 ∧ b ≠ 0 then 1 else 0) + Si78.calls b bs = c + Si78.calls p (b :: bs) := by
            show _ = c + ((if p = 0 ∧ b ≠ 0 then 1 else 0) + Si78.calls b bs)
            rw [Nat.add_assoc]
          have q3 : ds ++ [(W.passes s b f).depth] ++ d = ds ++ ((W.passes s b f).depth :: d) := by
            rw [List.append_assoc]; rfl
          rw [q1, q2, q3] at r1
          exact r1
    · have h1 : b = 1 := by
        rcases Nat.lt_or_ge b 1 with h | h
        · have : b = 0 := by omega
          subst this
          exact absurd (tired0 W s) ht
        · omega
      subst h1
      have et := tired_eq g r
      rw [if_pos ht]
      have e : passH (ofW W) n (f : Int) ((1 : Nat) : Int) = (n, tired (ofW W) n) := by
        unfold passH
        rw [if_pos (by decide), if_pos (by rw [et]; omega)]
      rw [e]
      rw [if_pos (show (n, tired (ofW W) n).2 ≠ 0 by show tired (ofW W) n ≠ 0; rw [et]; omega)]
      refine ⟨n, ?_⟩
      show (n, some (i, tired (ofW W) n)) = _
      rw [et]
theorem isPlan_eq (W : Si78.Watch) (l : List Nat) : isPlan (ofW W) (ci l) = W.told l := by
  have e1 : (ci l).length = l.length := by unfold ci; rw [List.length_map]
  have e2 : (ofW W).falls.length = W.snow.length := by show (ci W.snow).length = _; unfold ci; rw [List.length_map]
  have e3 : ((ci l).all fun z => decide (z = 0 ∨ z = 1)) = l.all fun b => decide (b < 2) := by
    unfold ci
    rw [List.all_map]
    congr 1
    funext b
    show decide ((b : Int) = 0 ∨ (b : Int) = 1) = decide (b < 2)
    exact decide_eq_decide.mpr (by omega)
  unfold isPlan Si78.Watch.told
  rw [e1, e2, e3]
theorem check_eq {W : Si78.Watch} (g : GoodW W) (l : List Nat) : checkH (ofW W) (ci l) = (Si78.step W (.check l)).2.v :: (Si78.step W (.check l)).2.l := by
  unfold checkH
  rw [isPlan_eq]
  show _ = (if W.told l = false then (W, Si78.ok (-1)) else (W, match W.goes (some W.deep) 0 W.begun W.snow l with
    | .error x => (⟨-6, Si78.ints [x.1, x.2]⟩ : Si78.Ans)
    | .ok d => ⟨((W.cost l : Nat) : Int), Si78.ints (Si78.hours l :: Si78.calls 0 l :: d)⟩)).2.v :: (if W.told l = false then (W, Si78.ok (-1)) else (W, match W.goes (some W.deep) 0 W.begun W.snow l with
    | .error x => (⟨-6, Si78.ints [x.1, x.2]⟩ : Si78.Ans)
    | .ok d => ⟨((W.cost l : Nat) : Int), Si78.ints (Si78.hours l :: Si78.calls 0 l :: d)⟩)).2.l
  cases ht : W.told l with
  | false => rfl
  | true =>
    rw [if_pos rfl, if_neg (by decide)]
    have hh := ht
    unfold Si78.Watch.told at hh
    rw [Bool.and_eq_true] at hh
    have hl : W.snow.length = l.length := (eq_of_beq hh.1).symm
    have hb : ∀ b ∈ l, b < 2 := fun b hb => of_decide_eq_true (List.all_eq_true.mp hh.2 b hb)
    have q := hours_eq g W.snow l 0 _ _ _ _ _ _ (rel_new W) hb hl
    cases eg : W.goes (some W.deep) 0 W.begun W.snow l with
    | error x =>
      rw [eg] at q
      obtain ⟨n', e⟩ := q
      have e' : hoursH (ofW W) 0 (NS.new (ofW W).deep) (ofW W).falls (ci l) = (n', some (x.1, (x.2 : Int))) := e
      rw [e']
      rfl
    | ok d =>
      rw [eg] at q
      obtain ⟨n', s', p', e, r⟩ := q
      have e' : hoursH (ofW W) 0 (NS.new (ofW W).deep) (ofW W).falls (ci l) = (n', none) := e
      rw [e']
      show [costH (ofW W) n', n'.worked, n'.outs] ++ n'.depths = ((W.cost l : Nat) : Int) :: Si78.ints (Si78.hours l :: Si78.calls 0 l :: d)
      have c1 : costH (ofW W) n' = ((W.cost l : Nat) : Int) := by
        unfold costH Si78.Watch.cost
        rw [r.worked, r.outs, Nat.zero_add, Nat.zero_add]
        show (Si78.hours l : Int) * (W.hour : Int) + (Si78.calls 0 l : Int) * (W.call : Int) = _
        rw [Int.natCast_add, Int.natCast_mul, Int.natCast_mul, Int.mul_comm, Int.mul_comm (Si78.calls 0 l : Int)]
      have c2 : n'.depths = Si78.ints d := r.depths
      rw [c1, r.worked, r.outs, c2, Nat.zero_add, Nat.zero_add]
      rfl
end Snow

set_option linter.all false
namespace Snow
/-! the list of calls, read from the left -/
/-- one call: its place, its numbers (a plan's count taken away) -/
inductive One : List Int → List (List Int) → List Int → Prop
  | begins (a b m : Int) (t : List Int) : One (0 :: a :: b :: m :: t) [[0, a, b, m]] t
  | crew (a r h k : Int) (t : List Int) : One (1 :: a :: r :: h :: k :: t) [[1, a, r, h, k]] t
  | snow (a : Int) (t : List Int) : One (2 :: a :: t) [[2, a]] t
  | check (r t : List Int) : One (3 :: (r.length : Int) :: (r ++ t)) [[3], r] t
  | cheapest (t : List Int) : One (4 :: t) [[4]] t
  | fewest (t : List Int) : One (5 :: t) [[5]] t
  | shallow (t : List Int) : One (6 :: t) [[6]] t
theorem one_of {l : List Int} {c : List (List Int)} {t : List Int} (h : PyFlat.call PySi78.shape l = some (c, t)) : One l c t := by
  cases l with
  | nil => cases h
  | cons p r =>
    unfold PyFlat.call at h
    unfold PySi78.shape at h
    by_cases h0 : p = 0
    · subst h0
      simp only [if_true] at h
      match r, h with
      | [], h => simp at h
      | [_], h => simp at h
      | [_, _], h => simp at h
      | a :: b :: m :: t', h =>
        simp [PyFlat.rows] at h
        obtain ⟨rfl, rfl⟩ := h
        exact One.begins a b m _
    by_cases h1 : p = 1
    · subst h1
      simp at h
      match r, h with
      | [], h => simp at h
      | [_], h => simp at h
      | [_, _], h => simp at h
      | [_, _, _], h => simp at h
      | a :: b :: m :: k :: t', h =>
        simp [PyFlat.rows] at h
        obtain ⟨rfl, rfl⟩ := h
        exact One.crew a b m k _
    by_cases h2 : p = 2
    · subst h2
      simp at h
      match r, h with
      | [], h => simp at h
      | a :: t', h =>
        simp [PyFlat.rows] at h
        obtain ⟨rfl, rfl⟩ := h
        exact One.snow a _
    by_cases h3 : p = 3
    · subst h3
      simp [PyFlat.rows] at h
      match r, h with
      | [], h => simp [PyFlat.row] at h
      | n :: r', h =>
        unfold PyFlat.row at h
        dsimp only at h
        by_cases hn : 0 ≤ n ∧ n.toNat ≤ r'.length
        · rw [if_pos hn] at h
          simp at h
          obtain ⟨rfl, rfl⟩ := h
          have e : n = ((r'.take n.toNat).length : Int) := by
            rw [List.length_take]; omega
          have q := One.check (r'.take n.toNat) (r'.drop n.toNat)
          rw [List.take_append_drop, ← e] at q
          exact q
        · rw [if_neg hn] at h
          simp at h
    by_cases h4 : p = 4
    · subst h4
      simp [PyFlat.rows] at h
      obtain ⟨rfl, rfl⟩ := h
      exact One.cheapest _
    by_cases h5 : p = 5
    · subst h5
      simp [PyFlat.rows] at h
      obtain ⟨rfl, rfl⟩ := h
      exact One.fewest _
    by_cases h6 : p = 6
    · subst h6
      simp [PyFlat.rows] at h
      obtain ⟨rfl, rfl⟩ := h
      exact One.shallow _
    · simp [h0, h1, h2, h3, h4, h5, h6] at h
theorem calls_cons {f : Nat} {l : List Int} {cs : List (List (List Int))} (h : PyFlat.calls PySi78.shape f l = some cs) (hl : l ≠ []) :
    ∃ c t cs', One l c t ∧ (∃ f', PyFlat.calls PySi78.shape f' t = some cs') ∧ cs = c :: cs' := by
  cases l with
  | nil => exact absurd rfl hl
  | cons p r =>
    cases f with
    | zero => cases h
    | succ f =>
      unfold PyFlat.calls at h
      cases e : PyFlat.call PySi78.shape (p :: r) with
      | none => rw [e] at h; cases h
      | some ct =>
        obtain ⟨c, t⟩ := ct
        rw [e] at h
        dsimp only at h
        cases e2 : PyFlat.calls PySi78.shape f t with
        | none => rw [e2] at h; cases h
        | some cs' =>
          rw [e2] at h
          exact ⟨c, t, cs', one_of e, ⟨f, e2⟩, (Option.some.inj h).symm⟩
theorem calls_nil {f : Nat} {cs : List (List (List Int))} (h : PyFlat.calls PySi78.shape f [] = some cs) : cs = [] := by
  cases f <;> exact (Option.some.inj h).symm
/-! what is asked of the calls, kept from the left -/
def Asked1 (c : List (List Int)) : Prop := PyInside.call PySi78.bound c = true
structure Left (l : List Int) (cs : List (List (List Int))) : Prop where
  read : ∃ f, PyFlat.calls PySi78.shape f l = some cs
  inside : ∀ c ∈ cs, PyInside.call PySi78.bound c = true
def toldOf (s : Si78.Watch) (cs : List (List (List Int))) : List Int := PyFlat.told (PyFlat.played Si78Neutral.step s (cs.map PySi78.whole))
theorem toldOf_nil (s : Si78.Watch) : toldOf s [] = [] := rfl
theorem toldOf_cons (s : Si78.Watch) (c : List (List Int)) (cs : List (List (List Int))) :
    toldOf s (c :: cs) = (((Si78Neutral.step s (PySi78.whole c)).2.length : Int) :: (Si78Neutral.step s (PySi78.whole c)).2) ++ toldOf (Si78Neutral.step s (PySi78.whole c)).1 cs := by
  unfold toldOf PyFlat.told
  rw [List.map_cons]
  show List.flatMap _ (_ :: _) = _
  rw [List.flatMap_cons]
theorem Left.nil {cs : List (List (List Int))} (h : Left [] cs) : cs = [] := by
  obtain ⟨f, e⟩ := h.read
  exact calls_nil e
theorem Left.cons {l : List Int} {cs : List (List (List Int))} (h : Left l cs) (hl : l ≠ []) : ∃ c t cs', One l c t ∧ Left t cs' ∧ cs = c :: cs' ∧ PyInside.call PySi78.bound c = true := by
  obtain ⟨f, e⟩ := h.read
  obtain ⟨c, t, cs', o, e2, rfl⟩ := calls_cons e hl
  exact ⟨c, t, cs', o, ⟨e2, fun c hc => h.inside c (List.mem_cons_of_mem _ hc)⟩, rfl, h.inside c (List.mem_cons_self ..)⟩
/-- the whole list, as it is asked -/
theorem asked_left {l : List Int} (h : PySi78.answers_asked l = true) : ∃ cs, Left l cs ∧ cs.length ≤ 60 ∧ PySi78.answers l = toldOf Si78.init cs := by
  unfold PySi78.answers_asked at h
  cases e : PyFlat.calls PySi78.shape l.length l with
  | none => rw [e] at h; cases h
  | some raw =>
    rw [e] at h
    dsimp only at h
    simp only [Bool.and_eq_true] at h
    obtain ⟨⟨⟨⟨_, h2⟩, h3⟩, _⟩, _⟩ := h
    refine ⟨raw, ⟨⟨_, e⟩, fun c hc => List.all_eq_true.mp h3 c hc⟩, of_decide_eq_true h2, ?_⟩
    unfold PySi78.answers PySi78.calls
    rw [e]
    rfl
/-! the bounds of a call's numbers -/
def U (z : Int) : Prop := 0 ≤ z ∧ z ≤ 4294967295
theorem within_iff {z : Int} : PyInside.within 0 4294967295 z = true ↔ U z := by
  unfold PyInside.within U
  rw [Bool.and_eq_true, decide_eq_true_eq, decide_eq_true_eq]
theorem in_begins {a b m : Int} (h : PyInside.call PySi78.bound [[0, a, b, m]] = true) : U a ∧ U b ∧ U m := by
  simp [PyInside.call, PySi78.bound, PyInside.each, PyInside.lists, within_iff] at h
  exact h
theorem in_crew {a b m k : Int} (h : PyInside.call PySi78.bound [[1, a, b, m, k]] = true) : U a ∧ U b ∧ U m ∧ U k := by
  simp [PyInside.call, PySi78.bound, PyInside.each, PyInside.lists, within_iff] at h
  exact h
theorem in_snow {a : Int} (h : PyInside.call PySi78.bound [[2, a]] = true) : U a := by
  simp [PyInside.call, PySi78.bound, PyInside.each, PyInside.lists, within_iff] at h
  exact h
theorem in_check {r : List Int} (h : PyInside.call PySi78.bound [[3], r] = true) : r.length ≤ 12 ∧ ∀ z ∈ r, U z := by
  simp [PyInside.call, PySi78.bound, PyInside.each, PyInside.lists, within_iff] at h
  exact h
/-! a call, by the specification's own step -/
def ans (r : Si78.Watch × Si78.Ans) : Si78.Watch × List Int := (r.1, r.2.v :: r.2.l)
theorem st_begins (s : Si78.Watch) (a b m : Int) : Si78Neutral.step s (PySi78.whole [[0, a, b, m]]) = ans (Si78.step s (.begins a.toNat b.toNat m.toNat)) := rfl
theorem st_crew (s : Si78.Watch) (a b m k : Int) : Si78Neutral.step s (PySi78.whole [[1, a, b, m, k]]) = ans (Si78.step s (.crew a.toNat b.toNat m.toNat k.toNat)) := rfl
theorem st_snow (s : Si78.Watch) (a : Int) : Si78Neutral.step s (PySi78.whole [[2, a]]) = ans (Si78.step s (.snow a.toNat)) := rfl
theorem st_check (s : Si78.Watch) (r : List Int) (h : r.length ≤ 12) : Si78Neutral.step s (PySi78.whole [[3], r]) = ans (Si78.step s (.check (r.map Int.toNat))) := by
  have e : PySi78.whole [[3], r] = [3 :: r] := rfl
  rw [e]
  unfold Si78Neutral.step
  have e2 : Si78Neutral.callOf ((([3 :: r] : List (List Int))).headD []) = some (.check (r.map Int.toNat)) := by
    show Si78Neutral.callOf (3 :: r) = _
    unfold Si78Neutral.callOf
    show (if (r.map Int.toNat).length ≤ 12 then some (Si78.Call.check (r.map Int.toNat)) else none) = _
    rw [if_pos (by rw [List.length_map]; exact h)]
  rw [e2]
  rfl
theorem st_cheapest (s : Si78.Watch) : Si78Neutral.step s (PySi78.whole [[4]]) = ans (Si78.step s .cheapest) := rfl
theorem st_fewest (s : Si78.Watch) : Si78Neutral.step s (PySi78.whole [[5]]) = ans (Si78.step s .fewest) := rfl
theorem st_shallow (s : Si78.Watch) : Si78Neutral.step s (PySi78.whole [[6]]) = ans (Si78.step s .shallow) := rfl
theorem ci_toNat {r : List Int} (h : ∀ z ∈ r, U z) : ci (r.map Int.toNat) = r := by
  unfold ci
  rw [List.map_map]
  induction r with
  | nil => rfl
  | cons z r ih =>
    rw [List.map_cons, ih fun y hy => h y (List.mem_cons_of_mem _ hy)]
    have := (h z (List.mem_cons_self ..)).1
    show ((z.toNat : Nat) : Int) :: r = _
    rw [Int.toNat_of_nonneg this]
/-! begins, crew, snow: the program's own words -/
def beginsH (w : WS) (a b m : Int) : WS × List Int :=
  if (0 ≤ a ∧ a ≤ 1000) ∧ (1 ≤ b ∧ b ≤ 1000) ∧ (0 ≤ m ∧ m ≤ 1000) then (⟨a, b, m, 1, 1, 0, 0, []⟩, [0]) else (w, [-1])
def crewH (w : WS) (a b h k : Int) : WS × List Int :=
  if ((1 ≤ a ∧ a ≤ 10) ∧ (1 ≤ b ∧ b ≤ 10)) ∧ (0 ≤ h ∧ h ≤ 1000) ∧ (0 ≤ k ∧ k ≤ 1000) then ({ w with row := a, rest := b, hour := h, call := k }, [0]) else (w, [-1])
def snowH (w : WS) (a : Int) : WS × List Int :=
  if 0 ≤ a ∧ a ≤ 100 then (if (w.falls.length : Int) = 10 then (w, [-5]) else ({ w with falls := w.falls ++ [a] }, [(w.falls.length : Int)])) else (w, [-1])
def mir (r : Si78.Watch × Si78.Ans) : WS × List Int := (ofW r.1, r.2.v :: r.2.l)
theorem good_init : GoodW Si78.init := ⟨by decide, by decide, by decide, by decide, by decide, by decide, by decide, by decide, fun n hn => by cases hn⟩
theorem begins_eq (W : Si78.Watch) {a b m : Int} (ha : U a) (hb : U b) (hm : U m) : beginsH (ofW W) a b m = mir (Si78.step W (.begins a.toNat b.toNat m.toNat)) := by
  unfold beginsH Si78.step
  dsimp only
  have e1 : Si78.MOST = 1000 := rfl
  have := ha.1; have := hb.1; have := hm.1
  by_cases h : Si78.MOST < a.toNat ∨ b.toNat < 1 ∨ Si78.MOST < b.toNat ∨ Si78.MOST < m.toNat
  · rw [if_pos h, if_neg (by omega)]; rfl
  · rw [if_neg h, if_pos (by omega)]
    unfold mir ofW
    show (_, _) = (_, _)
    dsimp only
    rw [Int.toNat_of_nonneg ha.1, Int.toNat_of_nonneg hb.1, Int.toNat_of_nonneg hm.1]
    rfl
theorem crew_eq (W : Si78.Watch) {a b m k : Int} (ha : U a) (hb : U b) (hm : U m) (hk : U k) : crewH (ofW W) a b m k = mir (Si78.step W (.crew a.toNat b.toNat m.toNat k.toNat)) := by
  unfold crewH Si78.step
  dsimp only
  have e1 : Si78.MOST = 1000 := rfl
  have e2 : Si78.HOURS = 10 := rfl
  have := ha.1; have := hb.1; have := hm.1; have := hk.1
  by_cases h : a.toNat < 1 ∨ Si78.HOURS < a.toNat ∨ b.toNat < 1 ∨ Si78.HOURS < b.toNat ∨ Si78.MOST < m.toNat ∨ Si78.MOST < k.toNat
  · rw [if_pos h, if_neg (by omega)]; rfl
  · rw [if_neg h, if_pos (by omega)]
    unfold mir ofW
    show (_, _) = (_, _)
    dsimp only
    rw [Int.toNat_of_nonneg ha.1, Int.toNat_of_nonneg hb.1, Int.toNat_of_nonneg hm.1, Int.toNat_of_nonneg hk.1]
    rfl
theorem ci_len (l : List Nat) : (ci l).length = l.length := by unfold ci; rw [List.length_map]
theorem snow_eq {W : Si78.Watch} (g : GoodW W) {a : Int} (ha : U a) : snowH (ofW W) a = mir (Si78.step W (.snow a.toNat)) := by
  unfold snowH Si78.step
  dsimp only
  have e1 : Si78.FALL = 100 := rfl
  have e2 : Si78.HOURS = 10 := rfl
  have e3 : (ofW W).falls.length = W.snow.length := ci_len _
  have := ha.1
  have := g.snow
  by_cases h : Si78.FALL < a.toNat
  · rw [if_pos h, if_neg (by omega)]; rfl
  · rw [if_neg h, if_pos (by omega)]
    by_cases h2 : Si78.HOURS ≤ W.snow.length
    · rw [if_pos h2, if_pos (by omega)]; rfl
    · rw [if_neg h2, if_neg (by omega), e3]
      unfold mir ofW
      dsimp only
      rw [ci_snoc, Int.toNat_of_nonneg ha.1]
      rfl
theorem good_step {W : Si78.Watch} (g : GoodW W) (c : Si78.Call) : GoodW (Si78.step W c).1 := by
  have e1 : Si78.MOST = 1000 := rfl
  have e2 : Si78.HOURS = 10 := rfl
  have e3 : Si78.FALL = 100 := rfl
  cases c with
  | begins s c d =>
    unfold Si78.step
    dsimp only
    split
    · exact g
    · exact ⟨good_init.long, good_init.rest, by show s ≤ 1000; omega, by show 1 ≤ c ∧ c ≤ 1000; omega, by show d ≤ 1000; omega, good_init.hour, good_init.call, good_init.snow, good_init.falls⟩
  | crew a r h k =>
    unfold Si78.step
    dsimp only
    split
    · exact g
    · exact ⟨by show 1 ≤ a ∧ a ≤ 10; omega, by show 1 ≤ r ∧ r ≤ 10; omega, g.start, g.clears, g.deep, by show h ≤ 1000; omega, by show k ≤ 1000; omega, g.snow, g.falls⟩
  | snow n =>
    unfold Si78.step
    dsimp only
    split
    · exact g
    · split
      · exact g
      · refine ⟨g.long, g.rest, g.start, g.clears, g.deep, g.hour, g.call, ?_, ?_⟩
        · show (W.snow ++ [n]).length ≤ 10
          rw [List.length_append]
          show W.snow.length + 1 ≤ 10
          omega
        · intro m hm
          have hm : m ∈ W.snow ++ [n] := hm
          rcases List.mem_append.mp hm with q | q
          · exact g.falls m q
          · have : m = n := by simpa using q
            omega
  | check l =>
    unfold Si78.step
    dsimp only
    split <;> exact g
  | cheapest => exact g
  | fewest => exact g
  | shallow => exact g
end Snow

set_option linter.all false
namespace Snow
/-- a call by its place and its numbers -/
inductive Shape : Int → List Int → Si78.Call → Prop
  | begins {a b m : Int} (ha : U a) (hb : U b) (hm : U m) : Shape 0 [a, b, m] (.begins a.toNat b.toNat m.toNat)
  | crew {a r h k : Int} (ha : U a) (hr : U r) (hh : U h) (hk : U k) : Shape 1 [a, r, h, k] (.crew a.toNat r.toNat h.toNat k.toNat)
  | snow {a : Int} (ha : U a) : Shape 2 [a] (.snow a.toNat)
  | check {r : List Int} (hl : r.length ≤ 12) (hr : ∀ z ∈ r, U z) : Shape 3 r (.check (r.map Int.toNat))
  | cheapest : Shape 4 [] .cheapest
  | fewest : Shape 5 [] .fewest
  | shallow : Shape 6 [] .shallow
/-- where a call's numbers stand: b behind its place, n of them -/
inductive Place : List Int → Int → Nat → List Int → List Int → Prop
  | plain {c : Int} {r t : List Int} (h : c ≠ 3) : Place (c :: (r ++ t)) c 1 r t
  | plan {r t : List Int} : Place (3 :: (r.length : Int) :: (r ++ t)) 3 2 r t
theorem one_shape {l : List Int} {c : List (List Int)} {t : List Int} (o : One l c t) (h : PyInside.call PySi78.bound c = true) (s : Si78.Watch) :
    ∃ (p : Int) (b : Nat) (r : List Int) (q : Si78.Call), Place l p b r t ∧ Shape p r q ∧ Si78Neutral.step s (PySi78.whole c) = ans (Si78.step s q) := by
  cases o with
  | begins a b m =>
    obtain ⟨h1, h2, h3⟩ := in_begins h
    exact ⟨0, 1, [a, b, m], _, .plain (r := [a, b, m]) (by decide), .begins h1 h2 h3, rfl⟩
  | crew a r h' k =>
    obtain ⟨h1, h2, h3, h4⟩ := in_crew h
    exact ⟨1, 1, [a, r, h', k], _, .plain (r := [a, r, h', k]) (by decide), .crew h1 h2 h3 h4, rfl⟩
  | snow a =>
    exact ⟨2, 1, [a], _, .plain (r := [a]) (by decide), .snow (in_snow h), rfl⟩
  | check r =>
    obtain ⟨h1, h2⟩ := in_check h
    exact ⟨3, 2, r, _, .plan, .check h1 h2, st_check s r h1⟩
  | cheapest => exact ⟨4, 1, [], _, .plain (r := []) (by decide), .cheapest, rfl⟩
  | fewest => exact ⟨5, 1, [], _, .plain (r := []) (by decide), .fewest, rfl⟩
  | shallow => exact ⟨6, 1, [], _, .plain (r := []) (by decide), .shallow, rfl⟩
theorem shape_len {p : Int} {r : List Int} {q : Si78.Call} (h : Shape p r q) : (p = 0 ∧ r.length = 3) ∨ (p = 1 ∧ r.length = 4) ∨ (p = 2 ∧ r.length = 1) ∨ p = 3 ∨ ((p = 4 ∨ p = 5 ∨ p = 6) ∧ r.length = 0) := by
  cases h <;> simp
/-- the places of the list as they stand in the whole -/
theorem place_at {l ns : List Int} {i : Nat} {p : Int} {b : Nat} {r t : List Int} (h : Place l p b r t) (e : ns.drop i = l) :
    ns[i]? = some p ∧ (p = 3 → ns[i + 1]? = some (r.length : Int)) ∧ (p = 3 ↔ b = 2) ∧ (b = 1 ∨ b = 2) ∧ ns.drop (i + b + r.length) = t ∧ (ns.drop (i + b)).take r.length = r ∧ i + b + r.length ≤ ns.length := by
  have hd : ∀ j, (ns.drop i)[j]? = ns[i + j]? := fun j => List.getElem?_drop
  have dd : ∀ j, ns.drop (i + j) = l.drop j := fun j => by rw [← e, List.drop_drop]
  have hl : ns.length - i = l.length := by rw [← e, List.length_drop]
  cases h with
  | @plain c r t hc =>
    have e0 := hd 0
    rw [e] at e0
    refine ⟨by simpa using e0.symm, fun q => absurd q hc, ⟨fun q => absurd q hc, fun q => by cases q⟩, .inl rfl, ?_, ?_, ?_⟩
    · rw [Nat.add_assoc, dd, Nat.add_comm, List.drop_succ_cons, List.drop_left]
    · rw [dd, List.drop_succ_cons, List.drop_zero, List.take_left]
    · have : (p :: (r ++ t)).length = r.length + t.length + 1 := by rw [List.length_cons, List.length_append]
      omega
  | @plan r t =>
    have e0 := hd 0
    have e1 := hd 1
    rw [e] at e0 e1
    refine ⟨by simpa using e0.symm, fun _ => by simpa using e1.symm, ⟨fun _ => rfl, fun _ => rfl⟩, .inr rfl, ?_, ?_, ?_⟩
    · rw [Nat.add_assoc, dd, Nat.add_comm, List.drop_succ_cons, List.drop_succ_cons, List.drop_left]
    · rw [dd, List.drop_succ_cons, List.drop_succ_cons, List.drop_zero, List.take_left]
    · have : ((3 : Int) :: (r.length : Int) :: (r ++ t)).length = r.length + t.length + 2 := by rw [List.length_cons, List.length_cons, List.length_append]
      omega
/-! how many numbers are answered in all -/
theorem told_len : ∀ (cs : List (List (List Int))) (s : Si78.Watch) (n : Nat), Si78Neutral.short s n cs = true → (PyFlat.told (PyFlat.played Si78Neutral.step s cs)).length ≤ n + cs.length
  | [], s, n, _ => Nat.zero_le _
  | c :: cs, s, n, h => by
    unfold Si78Neutral.short at h
    dsimp only at h
    rw [Bool.and_eq_true, decide_eq_true_eq] at h
    have ih := told_len cs _ _ h.2
    have h1 := h.1
    unfold PyFlat.told at ih ⊢
    show (List.flatMap _ (_ :: _)).length ≤ _
    rw [List.flatMap_cons, List.length_append, List.length_cons, List.length_cons]
    omega
theorem asked_len {l : List Int} (h : PySi78.answers_asked l = true) : (PySi78.answers l).length ≤ 1000059 := by
  unfold PySi78.answers_asked at h
  cases e : PyFlat.calls PySi78.shape l.length l with
  | none => rw [e] at h; cases h
  | some raw =>
    rw [e] at h
    dsimp only at h
    simp only [Bool.and_eq_true] at h
    obtain ⟨⟨⟨⟨_, h2⟩, _⟩, h4⟩, _⟩ := h
    unfold Si78Neutral.asked at h4
    simp only [Bool.and_eq_true] at h4
    have h5 := told_len _ _ _ h4.2.2.2.2
    have h6 : raw.length ≤ 60 := of_decide_eq_true h2
    rw [List.length_map] at h5
    unfold PySi78.answers PySi78.calls
    rw [e]
    exact Nat.le_trans h5 (by omega)
end Snow

set_option linter.all false
namespace Snow
open Si78
/-! the best of a list of plans: what it is, whatever way it is found -/
section
variable {f g : List Nat → Nat}
def bstep (f g : List Nat → Nat) (x : Option Best) (l : List Nat) : Option Best := match x with
  | none => some ⟨f l, g l, 1, l⟩
  | some y => if better (f l) (g l) y.first y.second = true then some ⟨f l, g l, 1, l⟩ else if f l = y.first ∧ g l = y.second then some { y with many := y.many + 1 } else some y
def asGood (f g : List Nat → Nat) (a b : Nat) (l : List Nat) : Bool := f l == a && g l == b
structure IsBest (f g : List Nat → Nat) (L : List (List Nat)) (y : Best) : Prop where
  least : ∀ l ∈ L, better (f l) (g l) y.first y.second = false
  first : L.find? (asGood f g y.first y.second) = some y.row
  many : L.countP (asGood f g y.first y.second) = y.many
theorem better_iff {a b c d : Nat} : better a b c d = true ↔ a < c ∨ (a = c ∧ b < d) := by
  unfold better
  rw [Bool.or_eq_true, Bool.and_eq_true, decide_eq_true_eq, decide_eq_true_eq]
  constructor
  · rintro (h | ⟨h, k⟩)
    · exact .inl h
    · exact .inr ⟨eq_of_beq h, k⟩
  · rintro (h | ⟨h, k⟩)
    · exact .inl h
    · exact .inr ⟨by rw [h]; exact beq_self_eq_true _, k⟩
theorem better_false {a b c d : Nat} : better a b c d = false ↔ ¬ (a < c ∨ (a = c ∧ b < d)) := by
  rw [← better_iff]; simp
theorem asGood_iff {a b : Nat} {l : List Nat} : asGood f g a b l = true ↔ f l = a ∧ g l = b := by
  unfold asGood
  rw [Bool.and_eq_true]
  exact ⟨fun h => ⟨eq_of_beq h.1, eq_of_beq h.2⟩, fun h => ⟨by rw [h.1]; exact beq_self_eq_true _, by rw [h.2]; exact beq_self_eq_true _⟩⟩
theorem IsBest.at {L : List (List Nat)} {y : Best} (h : IsBest f g L y) : y.row ∈ L ∧ f y.row = y.first ∧ g y.row = y.second :=
  ⟨List.mem_of_find?_eq_some h.first, asGood_iff.mp (List.find?_some h.first)⟩
theorem IsBest.uniq {L : List (List Nat)} {y z : Best} (h : IsBest f g L y) (k : IsBest f g L z) : y = z := by
  obtain ⟨m1, a1, b1⟩ := h.at
  obtain ⟨m2, a2, b2⟩ := k.at
  have q1 := better_false.mp (h.least _ m2)
  have q2 := better_false.mp (k.least _ m1)
  rw [a2, b2] at q1
  rw [a1, b1] at q2
  have e1 : y.first = z.first := by omega
  have e2 : y.second = z.second := by omega
  have e3 : y.many = z.many := by rw [← h.many, ← k.many, e1, e2]
  have e4 : y.row = z.row := by
    have := h.first
    rw [e1, e2, k.first] at this
    exact (Option.some.inj this).symm
  cases y; cases z
  simp at e1 e2 e3 e4
  rw [e1, e2, e3, e4]
theorem find_none_of {L : List (List Nat)} {p : List Nat → Bool} (h : ∀ l ∈ L, p l = false) : L.find? p = none :=
  List.find?_eq_none.mpr fun l hl => by rw [h l hl]; decide
theorem count_none_of {L : List (List Nat)} {p : List Nat → Bool} (h : ∀ l ∈ L, p l = false) : L.countP p = 0 :=
  List.countP_eq_zero.mpr fun l hl => by rw [h l hl]; decide
/-- the fold has the best of what it has seen -/
theorem fold_best (f g : List Nat → Nat) : ∀ (L M : List (List Nat)) (x : Option Best), (match x with | none => M = [] | some y => IsBest f g M y) →
    (match L.foldl (bstep f g) x with | none => M ++ L = [] | some y => IsBest f g (M ++ L) y)
  | [], M, x, h => by
    rw [List.append_nil]
    exact h
  | l :: L, M, x, h => by
    have e : M ++ l :: L = (M ++ [l]) ++ L := by rw [List.append_assoc]; rfl
    rw [e, List.foldl_cons]
    refine fold_best f g L (M ++ [l]) _ ?_
    cases x with
    | none =>
      have h : M = [] := h
      subst h
      show IsBest f g [l] ⟨f l, g l, 1, l⟩
      have p : asGood f g (f l) (g l) l = true := asGood_iff.mpr ⟨rfl, rfl⟩
      refine ⟨fun k hk => ?_, ?_, ?_⟩
      · have : k = l := by simpa using hk
        subst this
        exact better_false.mpr (by show ¬ (f k < f k ∨ f k = f k ∧ g k < g k); omega)
      · show List.find? _ [l] = some l
        rw [List.find?_cons, p]
      · show List.countP _ [l] = 1
        rw [List.countP_cons, if_pos p]; rfl
    | some y =>
      have h : IsBest f g M y := h
      obtain ⟨m1, a1, b1⟩ := h.at
      show match (if better (f l) (g l) y.first y.second = true then some (⟨f l, g l, 1, l⟩ : Best) else if f l = y.first ∧ g l = y.second then some { y with many := y.many + 1 } else some y) with | none => M ++ [l] = [] | some y => IsBest f g (M ++ [l]) y
      by_cases hb : better (f l) (g l) y.first y.second = true
      · rw [if_pos hb]
        have hb' := better_iff.mp hb
        have p : asGood f g (f l) (g l) l = true := asGood_iff.mpr ⟨rfl, rfl⟩
        have no : ∀ k ∈ M, asGood f g (f l) (g l) k = false := fun k hk => by
          cases q : asGood f g (f l) (g l) k with
          | false => rfl
          | true =>
            have q := asGood_iff.mp q
            have := better_false.mp (h.least k hk)
            omega
        refine ⟨fun k hk => ?_, ?_, ?_⟩
        · rcases List.mem_append.mp hk with hk | hk
          · have := better_false.mp (h.least k hk)
            exact better_false.mpr (by show ¬ (f k < f l ∨ f k = f l ∧ g k < g l); omega)
          · have : k = l := by simpa using hk
            subst this
            exact better_false.mpr (by show ¬ (f k < f k ∨ f k = f k ∧ g k < g k); omega)
        · show (M ++ [l]).find? _ = some l
          rw [List.find?_append, find_none_of no, List.find?_cons, p]; rfl
        · show (M ++ [l]).countP _ = 1
          rw [List.countP_append, count_none_of no, List.countP_cons, if_pos p]; rfl
      · rw [if_neg hb]
        have hb' : ¬ (f l < y.first ∨ (f l = y.first ∧ g l < y.second)) := fun q => hb (better_iff.mpr q)
        have ls : ∀ k ∈ M ++ [l], better (f k) (g k) y.first y.second = false := fun k hk => by
          rcases List.mem_append.mp hk with hk | hk
          · exact h.least k hk
          · have : k = l := by simpa using hk
            subst this
            exact better_false.mpr hb'
        have fi : ∀ p : List Nat → Bool, p = asGood f g y.first y.second → (M ++ [l]).find? p = some y.row := fun p hp => by
          rw [hp, List.find?_append, h.first]; rfl
        by_cases he : f l = y.first ∧ g l = y.second
        · rw [if_pos he]
          refine ⟨ls, fi _ rfl, ?_⟩
          show (M ++ [l]).countP _ = y.many + 1
          rw [List.countP_append, h.many, List.countP_cons, if_pos (asGood_iff.mpr he)]; rfl
        · rw [if_neg he]
          refine ⟨ls, fi _ rfl, ?_⟩
          rw [List.countP_append, h.many, List.countP_cons, if_neg fun q => he (asGood_iff.mp q)]; rfl
theorem bestBy_fold (W : Watch) (f g : List Nat → Nat) : W.bestBy f g = W.plans.foldl (bstep f g) none := rfl
theorem bestBy_some {W : Watch} {y : Best} (h : IsBest f g W.plans y) : W.bestBy f g = some y := by
  have q := fold_best f g W.plans [] none rfl
  rw [List.nil_append] at q
  rw [bestBy_fold]
  cases e : W.plans.foldl (bstep f g) none with
  | none =>
    rw [e] at q
    have q : W.plans = [] := q
    have := h.at.1
    rw [q] at this
    cases this
  | some z =>
    rw [e] at q
    have q : IsBest f g W.plans z := q
    rw [h.uniq q]
theorem bestBy_none {W : Watch} (h : W.plans = []) : W.bestBy f g = none := by
  rw [bestBy_fold, h]; rfl
end
/-! the least of a list -/
theorem least_some : ∀ {l : List Nat} {m : Nat}, m ∈ l → (∀ n ∈ l, m ≤ n) → least l = some m
  | [], m, h, _ => by cases h
  | n :: l, m, h, k => by
    unfold least
    cases e : least l with
    | none =>
      have hl : l = [] := by
        cases l with
        | nil => rfl
        | cons a r =>
          unfold least at e
          cases e2 : least r with
          | none => rw [e2] at e; cases e
          | some z => rw [e2] at e; cases e
      subst hl
      have : m = n := by simpa using h
      subst this
      rfl
    | some z =>
      show some (min n z) = some m
      have hz : z ∈ l ∧ ∀ y ∈ l, z ≤ y := least_is e
      have h1 := k n (List.mem_cons_self ..)
      have h2 := k z (List.mem_cons_of_mem _ hz.1)
      rcases List.mem_cons.mp h with rfl | h
      · congr 1; omega
      · have := hz.2 m h
        congr 1; omega
where
  least_is : ∀ {l : List Nat} {z : Nat}, least l = some z → z ∈ l ∧ ∀ y ∈ l, z ≤ y
  | [], z, e => by cases e
  | n :: l, z, e => by
    unfold least at e
    cases e2 : least l with
    | none =>
      rw [e2] at e
      have hl : l = [] := by
        cases l with
        | nil => rfl
        | cons a r =>
          unfold least at e2
          cases e3 : least r with
          | none => rw [e3] at e2; cases e2
          | some z => rw [e3] at e2; cases e2
      subst hl
      have : n = z := Option.some.inj e
      subst this
      exact ⟨List.mem_cons_self .., fun y hy => by have : y = n := by simpa using hy
                                                   omega⟩
    | some m =>
      rw [e2] at e
      have e : min n m = z := Option.some.inj e
      have ih := least_is e2
      refine ⟨?_, fun y hy => ?_⟩
      · by_cases h : n ≤ m
        · have : z = n := by omega
          rw [this]; exact List.mem_cons_self ..
        · have : z = m := by omega
          rw [this]; exact List.mem_cons_of_mem _ ih.1
      · rcases List.mem_cons.mp hy with rfl | hy
        · omega
        · have := ih.2 y hy; omega
end Snow

set_option linter.all false
namespace Snow
open Si78
/-! a plan under a bound, and without one -/
theorem goes_some (W : Watch) (m : Nat) : ∀ (fs bs : List Nat) (i : Nat) (s : Stand) (d : List Nat), W.goes (some m) i s fs bs = .ok d ↔ W.goes none i s fs bs = .ok d ∧ ∀ y ∈ d, y ≤ m
  | [], bs, i, s, d => by
    unfold Watch.goes
    constructor
    · intro h; cases h; exact ⟨rfl, fun y hy => by cases hy⟩
    · intro h; exact h.1
  | f :: fs, [], i, s, d => by
    unfold Watch.goes
    constructor
    · intro h; cases h; exact ⟨rfl, fun y hy => by cases hy⟩
    · intro h; exact h.1
  | f :: fs, b :: bs, i, s, d => by
    unfold Watch.goes
    by_cases ht : W.tired s b ≠ 0
    · rw [if_pos ht, if_pos ht]
      constructor
      · intro h; cases h
      · intro h; cases h.1
    · rw [if_neg ht, if_neg ht]
      dsimp only
      have e0 : ((none : Option Nat).any fun m => decide (m < (W.passes s b f).depth)) = false := rfl
      rw [any_some, e0, if_neg Bool.false_ne_true]
      have ih := goes_some W m fs bs (i + 1) (W.passes s b f)
      by_cases hm : m < (W.passes s b f).depth
      · rw [if_pos (decide_eq_true hm)]
        constructor
        · intro h; cases h
        · rintro ⟨h, k⟩
          cases e : W.goes none (i + 1) (W.passes s b f) fs bs with
          | error x => rw [e] at h; cases h
          | ok l =>
            rw [e] at h
            cases h
            have := k _ (List.mem_cons_self ..)
            omega
      · rw [if_neg (by simp [hm])]
        constructor
        · intro h
          cases e : W.goes (some m) (i + 1) (W.passes s b f) fs bs with
          | error x => rw [e] at h; cases h
          | ok l =>
            rw [e] at h
            cases h
            obtain ⟨h1, h2⟩ := (ih l).mp e
            rw [h1]
            refine ⟨rfl, fun y hy => ?_⟩
            rcases List.mem_cons.mp hy with rfl | hy
            · omega
            · exact h2 y hy
        · rintro ⟨h, k⟩
          cases e : W.goes none (i + 1) (W.passes s b f) fs bs with
          | error x => rw [e] at h; cases h
          | ok l =>
            rw [e] at h
            cases h
            have := (ih l).mpr ⟨e, fun y hy => k y (List.mem_cons_of_mem _ hy)⟩
            rw [this]
theorem foldl_max_le : ∀ (d : List Nat) (a m : Nat), d.foldl max a ≤ m ↔ a ≤ m ∧ ∀ y ∈ d, y ≤ m
  | [], a, m => ⟨fun h => ⟨h, fun y hy => by cases hy⟩, fun h => h.1⟩
  | x :: d, a, m => by
    rw [List.foldl_cons, foldl_max_le d (max a x) m]
    constructor
    · rintro ⟨h, k⟩
      refine ⟨by omega, fun y hy => ?_⟩
      rcases List.mem_cons.mp hy with rfl | hy
      · omega
      · exact k y hy
    · rintro ⟨h, k⟩
      have := k x (List.mem_cons_self ..)
      exact ⟨by omega, fun y hy => k y (List.mem_cons_of_mem _ hy)⟩
/-- a plan can be under m just if the greatest depth that it has is at most m -/
theorem can_iff (W : Watch) (m : Nat) (l : List Nat) : W.can (some m) l = true ↔ ∃ g, W.greatest l = some g ∧ g ≤ m := by
  unfold Watch.can Watch.greatest
  cases ht : W.told l with
  | false => simp
  | true =>
    rw [if_neg (by decide), Bool.true_and]
    cases e : W.goes (some m) 0 W.begun W.snow l with
    | error x =>
      constructor
      · intro h; cases h
      · rintro ⟨g, h, k⟩
        cases e2 : W.goes none 0 W.begun W.snow l with
        | error y => rw [e2] at h; cases h
        | ok d =>
          rw [e2] at h
          cases h
          have := (goes_some W m W.snow l 0 W.begun d).mpr ⟨e2, ((foldl_max_le d 0 m).mp k).2⟩
          rw [e] at this; cases this
    | ok d =>
      obtain ⟨h1, h2⟩ := (goes_some W m W.snow l 0 W.begun d).mp e
      rw [h1]
      exact ⟨fun _ => ⟨_, rfl, (foldl_max_le d 0 m).mpr ⟨Nat.zero_le _, h2⟩⟩, fun _ => rfl⟩
/-! all plans, in order -/
theorem mem_rows : ∀ (n : Nat) (l : List Nat), l ∈ rows n ↔ l.length = n ∧ ∀ b ∈ l, b < 2
  | 0, l => by
    unfold rows
    rw [List.mem_singleton]
    constructor
    · rintro rfl; exact ⟨rfl, fun b hb => by cases hb⟩
    · intro h
      cases l with
      | nil => rfl
      | cons a r => cases h.1
  | n + 1, l => by
    unfold rows
    rw [List.mem_append, List.mem_map, List.mem_map]
    constructor
    · rintro (⟨r, hr, rfl⟩ | ⟨r, hr, rfl⟩)
      · obtain ⟨h1, h2⟩ := (mem_rows n r).mp hr
        refine ⟨by rw [List.length_cons, h1], fun b hb => ?_⟩
        rcases List.mem_cons.mp hb with rfl | hb
        · decide
        · exact h2 b hb
      · obtain ⟨h1, h2⟩ := (mem_rows n r).mp hr
        refine ⟨by rw [List.length_cons, h1], fun b hb => ?_⟩
        rcases List.mem_cons.mp hb with rfl | hb
        · decide
        · exact h2 b hb
    · rintro ⟨h1, h2⟩
      cases l with
      | nil => cases h1
      | cons a r =>
        have hr : r ∈ rows n := (mem_rows n r).mpr ⟨by simpa using h1, fun b hb => h2 b (List.mem_cons_of_mem _ hb)⟩
        have ha := h2 a (List.mem_cons_self ..)
        rcases Nat.lt_or_ge a 1 with h | h
        · have : a = 0 := by omega
          subst this
          exact .inl ⟨r, hr, rfl⟩
        · have : a = 1 := by omega
          subst this
          exact .inr ⟨r, hr, rfl⟩
theorem rows_len : ∀ n : Nat, (rows n).length = 2 ^ n
  | 0 => rfl
  | n + 1 => by
    unfold rows
    rw [List.length_append, List.length_map, List.length_map, rows_len n, Nat.pow_succ]
    omega
theorem told_iff (W : Watch) (l : List Nat) : W.told l = true ↔ l ∈ rows W.snow.length := by
  rw [mem_rows]
  unfold Watch.told
  rw [Bool.and_eq_true]
  constructor
  · rintro ⟨h1, h2⟩
    exact ⟨eq_of_beq h1, fun b hb => of_decide_eq_true (List.all_eq_true.mp h2 b hb)⟩
  · rintro ⟨h1, h2⟩
    exact ⟨by rw [h1]; exact beq_self_eq_true _, List.all_eq_true.mpr fun b hb => decide_eq_true (h2 b hb)⟩
/-- a plan of the specification's own list can be just if the program's hours find nothing wrong -/
theorem right_iff {W : Watch} (g : GoodW W) {l : List Nat} (hl : l ∈ rows W.snow.length) : W.right l = true ↔ (hoursH (ofW W) 0 (NS.new (ofW W).deep) (ofW W).falls (ci l)).2 = none := by
  obtain ⟨h1, h2⟩ := (mem_rows _ _).mp hl
  have ht := (told_iff W l).mpr hl
  have q := hours_eq g W.snow l 0 _ _ _ _ _ _ (rel_new W) h2 h1.symm
  unfold Watch.right Watch.can
  rw [ht, Bool.true_and]
  cases eg : W.goes (some W.deep) 0 W.begun W.snow l with
  | error x =>
    rw [eg] at q
    obtain ⟨n', e⟩ := q
    have e' : hoursH (ofW W) 0 (NS.new (ofW W).deep) (ofW W).falls (ci l) = (n', some (x.1, (x.2 : Int))) := e
    rw [e']
    simp
  | ok d =>
    rw [eg] at q
    obtain ⟨n', s', p', e, r⟩ := q
    have e' : hoursH (ofW W) 0 (NS.new (ofW W).deep) (ofW W).falls (ci l) = (n', none) := e
    rw [e']
    simp
end Snow

set_option Elab.async false
set_option linter.all false
set_option maxRecDepth 100000
set_option maxHeartbeats 2000000
namespace Snow
open PySem PyProof.Rows L2
section
open PySem.SeqAt
open PySem.AutoSeq1 (wpAny_loadPart')
open PySem.MeetsSeq PySem.MeetsSeq2 PySem.MeetsSeq3
/-- what stands at a place of a list of ints -/
theorem ints_at : ∀ {vs : List Value} {ns : List Int}, IntsAre vs ns → ∀ {i : Nat} (h : i < vs.length), ∃ (z : Int) (t : Tok), vs[i] = .int z t ∧ ns.drop i = z :: ns.drop (i + 1)
  | _, _, .nil, i, h => absurd h (Nat.not_lt_zero _)
  | _, _, .cons a t r, 0, h => ⟨a, t, rfl, rfl⟩
  | _, _, .cons a t r, i + 1, h => ints_at r (i := i) (Nat.lt_of_succ_lt_succ h)
/-- two lists of ints of one length, from a place on -/
theorem list_lt_from (p q : Addr) (A1 A2 : Array Value) (c1 c2 : Nat) (d1 d2 : Option Addr) (o1 o2 : Array (Option Value)) (ns ms : List Int) (h1 : IntsAre A1.toList ns) (h2 : IntsAre A2.toList ms) (hz : A1.size = A2.size) (left : Nat) :
    ∀ i : Nat, A1.size - i = left → Meets (Builtin.«list.__eq__.loop» ⟨[.ref p, .ref q, rawInt i, rawInt 0], []⟩)
      fun _ R s => s.heap.get? p = some ⟨.type "list", d1, .seq A1 c1, o1⟩ ∧ s.heap.get? q = some ⟨.type "list", d2, .seq A2 c2, o2⟩ ∧ R (.ok (.ret (.bool (HT.lexLt (ns.drop i) (ms.drop i))))) s := by
  have n1 : ns.length = A1.size := by rw [← h1.length]; simp
  have n2 : ms.length = A2.size := by rw [← h2.length]; simp
  induction left with
  | zero =>
    rintro i hk prog w A R ⟨hp, g, d, tk, os⟩ ⟨gp, gq, h⟩
    wp_walk using wpAny_loadPart' gp, wpAny_loadPart' gq
    rw [show A1[((i : Nat) : Int).toNat]? = none by simp; omega, show A2[((i : Nat) : Int).toNat]? = none by simp; omega]
    wp_walk using wpAny_loadPart' gp, wpAny_loadPart' gq
    show R (.ok (.ret (.bool (decide (A1.size < A2.size))))) _
    rw [List.drop_eq_nil_of_le (by omega), List.drop_eq_nil_of_le (by omega), HT.lexLt_nil_nil] at h
    rw [hz, show decide (A2.size < A2.size) = false from decide_eq_false (Nat.lt_irrefl _)]
    exact h
  | succ left ih =>
    rintro i hk prog w A R ⟨hp, g, d, tk, os⟩ ⟨gp, gq, h⟩
    wp_walk using wpAny_loadPart' gp, wpAny_loadPart' gq
    have l1 : i < A1.size := by omega
    have l2 : i < A2.size := by omega
    obtain ⟨a, t, e1, k1⟩ := ints_at h1 (i := i) (by simpa using l1)
    obtain ⟨b, u, e2, k2⟩ := ints_at h2 (i := i) (by simpa using l2)
    have f1 : A1[((i : Nat) : Int).toNat]? = some (.int a t) := by
      rw [← e1]; simp [l1]
    have f2 : A2[((i : Nat) : Int).toNat]? = some (.int b u) := by
      rw [← e2]; simp [l2]
    rw [k1, k2, HT.lexLt_cons] at h
    rw [f1, f2]
    obtain ⟨e, he, hiff⟩ := HT.eqAt_int A.in1 ⟨hp, g, d, tk, os⟩ a t b u
    refine wpAny_bind (he prog w _ _ ?_)
    cases e with
    | true =>
      rw [if_pos (hiff.mp rfl)] at h
      wp_walk
      rw [show ((i : Int) + 1) = ((i + 1 : Nat) : Int) by omega]
      exact ⟨plainId_quiet plain_eq_loop _, codeAny_builtin entry_eq_loop (by
        rw [Around.under_plainId plain_eq_loop _]
        exact ih (i + 1) (by omega) prog w A R _ ⟨gp, gq, h⟩)⟩
    | false =>
      rw [if_neg fun z => absurd (hiff.mpr z) Bool.false_ne_true] at h
      wp_walk using wpAny_loadPart' gp, wpAny_loadPart' gq
      rw [f1, f2]
      have hri := HT.rcLt_int A.in1 ⟨hp, g, d, tk, os⟩ a t b u prog w
      wp_walk using hri
      exact h
theorem list_lt_whole (p q : Addr) (A1 A2 : Array Value) (c1 c2 : Nat) (d1 d2 : Option Addr) (o1 o2 : Array (Option Value)) (ns ms : List Int) (h1 : IntsAre A1.toList ns) (h2 : IntsAre A2.toList ms) (hz : A1.size = A2.size) :
    Meets (Builtin.«list.__lt__» ⟨[.ref p, .ref q], []⟩)
      fun _ R s => s.heap.get? p = some ⟨.type "list", d1, .seq A1 c1, o1⟩ ∧ s.heap.get? q = some ⟨.type "list", d2, .seq A2 c2, o2⟩ ∧ R (.ok (.ret (.bool (HT.lexLt ns ms)))) s := by
  rintro prog w A R ⟨hp, g, d, tk, os⟩ ⟨gp, gq, h⟩
  have f3 := AutoSeq1.sub_list_list
  wp_walk using wpAny_loadPart' gp, wpAny_loadPart' gq
  exact ⟨plainId_quiet plain_eq_loop _, codeAny_builtin entry_eq_loop (by
    rw [Around.under_plainId plain_eq_loop _]
    exact list_lt_from p q A1 A2 c1 c2 d1 d2 o1 o2 ns ms h1 h2 hz _ 0 rfl prog w A R _ ⟨gp, gq, h⟩)⟩
/-- x < y, at one stand of the heap -/
def LtOf (A : Around) (s : Shared) (x y : Value) (b : Bool) : Prop := ∀ (prog : Program) (w : World) (E : Value → Shared → Prop) (Q : Value → Shared → Prop), Q (.bool b) s → wpAny (model prog w) A (richCompare .Lt x y) Q E s
/-- how two rows of one length compare: by the first place where they differ -/
inductive Pairs (A : Around) (s : Shared) : List Value → List Value → Bool → Prop
  | nil : Pairs A s [] [] false
  | same {x y : Value} {r t : List Value} {b : Bool} : EqAt A s x y true → Pairs A s r t b → Pairs A s (x :: r) (y :: t) b
  | less {x y : Value} {r t : List Value} {b : Bool} : EqAt A s x y false → LtOf A s x y b → Pairs A s (x :: r) (y :: t) b
theorem tuple_lt_pairs (p q : Addr) (A1 A2 : Array Value) (c1 c2 : Nat) (d1 d2 : Option Addr) (o1 o2 : Array (Option Value)) (v : Bool) (hz : A1.size = A2.size) :
    Meets (Builtin.«tuple.__lt__» ⟨[.ref p, .ref q], []⟩)
      fun A R s => s.heap.get? p = some ⟨.type "tuple", d1, .seq A1 c1, o1⟩ ∧ s.heap.get? q = some ⟨.type "tuple", d2, .seq A2 c2, o2⟩ ∧ Pairs A.in1 s A1.toList A2.toList v ∧ R (.ok (.ret (.bool v))) s :=
  .of_wp fun prog w A R s h => by
    obtain ⟨hp, g, d, tk, os⟩ := s
    obtain ⟨gp, gq, hpr, h⟩ := h
    have f2 := AutoSeq1.sub_tuple_tuple
    wp_walk using wpAny_loadPart' gp, wpAny_loadPart' gq, wpAny_forIn_list _ (fun rest b s' => b.1 = none ∧ s' = ⟨hp, g, d, tk, os⟩ ∧ ∃ vs ws : List Value, rest = vs.zip ws ∧ Pairs A.in1 ⟨hp, g, d, tk, os⟩ vs ws v) _
    case turn =>
      rintro ⟨y, x⟩ rest b s' ⟨hb', rfl, vs, ws, hz', hq⟩
      cases hq with
      | nil => rw [List.zip_nil_left] at hz'; cases hz'
      | same he hr =>
        rw [List.zip_cons_cons] at hz'
        injection hz' with hyx hrest
        injection hyx with hy hx
        subst hy hx
        refine wpAny_bind (he prog w _ _ ?_)
        wp_walk
        exact ⟨rfl, rfl, _, _, hrest, hr⟩
      | less he hl =>
        rw [List.zip_cons_cons] at hz'
        injection hz' with hyx hrest
        injection hyx with hy hx
        subst hy hx
        refine wpAny_bind (he prog w _ _ ?_)
        have hri := hl prog w
        wp_walk using hri
        exact ⟨_, rfl, by simpa using h⟩
    case fin =>
      rintro ⟨b1, b2⟩ s' ⟨hb', rfl, vs, ws, hz', hq⟩
      simp only at hb'
      subst hb'
      have hv : v = decide (A1.size < A2.size) := by
        rw [hz, show decide (A2.size < A2.size) = false from decide_eq_false (Nat.lt_irrefl _)]
        cases hq with
        | nil => rfl
        | same he hr => rw [List.zip_cons_cons] at hz'; cases hz'
        | less he hl => rw [List.zip_cons_cons] at hz'; cases hz'
      rw [hv] at h
      wp_walk
      exact ⟨_, rfl, by simpa [Builtin.Tuple.tupleCompareSizes] using h⟩
    case h => exact ⟨rfl, rfl, _, _, rfl, hpr⟩
end
section
open PySem.SeqAt PySem.MeetsSeq PySem.MeetsSeq2 PySem.MeetsSeq3
variable {A : Around} {s : Shared}
theorem LtOf.int (a b : Int) (t u : Tok) : LtOf A s (.int a t) (.int b u) (decide (a < b)) := fun prog w E Q h => HT.rcLt_int A s a t b u prog w E Q h
theorem LtOf.lists {p q : Addr} {A1 A2 : Array Value} {ns ms : List Int} (gp : s.heap.IsList p A1) (gq : s.heap.IsList q A2) (h1 : IntsAre A1.toList ns) (h2 : IntsAre A2.toList ms) (hz : A1.size = A2.size) (hu : A.units < cLine) :
    LtOf A s (.ref p) (.ref q) (HT.lexLt ns ms) := fun prog w E Q h => by
  obtain ⟨⟨cls, d1, data, o1⟩, gp, hc, c1, hd⟩ := gp
  obtain ⟨⟨cls2, d2, data2, o2⟩, gq, hc2, c2, hd2⟩ := gq
  simp only at hc hd hc2 hd2
  subst hc hd hc2 hd2
  exact richCompare_meets_room (op := .Lt) ⟨_, gp, rfl⟩ ⟨_, gq, rfl⟩ PySem.F.slot_list_lt PySem.F.entry_list_lt (PySem.F.args_list_lt_2 _ _) (list_lt_whole p q A1 A2 c1 c2 d1 d2 o1 o2 ns ms h1 h2 hz) ⟨gp, gq, ⟨(fun x => nomatch x), h⟩⟩ hu
theorem LtOf.tuples {p q : Addr} {A1 A2 : Array Value} {v : Bool} (gp : s.heap.IsTuple p A1) (gq : s.heap.IsTuple q A2) (hz : A1.size = A2.size) (hpr : Pairs A.in1 s A1.toList A2.toList v) (hu : A.units < cLine) :
    LtOf A s (.ref p) (.ref q) v := fun prog w E Q h => by
  obtain ⟨⟨cls, d1, data, o1⟩, gp, hc, c1, hd⟩ := gp
  obtain ⟨⟨cls2, d2, data2, o2⟩, gq, hc2, c2, hd2⟩ := gq
  simp only at hc hd hc2 hd2
  subst hc hd hc2 hd2
  exact richCompare_meets_room (op := .Lt) ⟨_, gp, rfl⟩ ⟨_, gq, rfl⟩ PySem.F.slot_tuple_lt PySem.F.entry_tuple_lt (PySem.F.args_tuple_lt_2 _ _) (tuple_lt_pairs p q A1 A2 c1 c2 d1 d2 o1 o2 v hz) ⟨gp, gq, hpr, ⟨(fun x => nomatch x), h⟩⟩ hu
theorem lexLt_self : ∀ l : List Int, HT.lexLt l l = false
  | [] => rfl
  | x :: l => by rw [HT.lexLt_cons, if_pos rfl, lexLt_self l]
theorem ints_get : ∀ {vs : List Value} {ns : List Int}, IntsAre vs ns → ∀ {i : Nat} (h : i < vs.length) (k : i < ns.length), ∃ t : Tok, vs[i] = .int ns[i] t
  | _, _, .nil, i, h, _ => absurd h (Nat.not_lt_zero _)
  | _, _, .cons a t r, 0, h, _ => ⟨t, rfl⟩
  | _, _, .cons a t r, i + 1, h, k => ints_get r (i := i) (Nat.lt_of_succ_lt_succ h) (Nat.lt_of_succ_lt_succ k)
theorem eq_lists {p q : Addr} {A1 A2 : Array Value} {ns ms : List Int} (hne : p ≠ q) (gp : s.heap.IsList p A1) (gq : s.heap.IsList q A2) (h1 : IntsAre A1.toList ns) (h2 : IntsAre A2.toList ms) (hz : A1.size = A2.size) (hu : A.units < cLine) :
    EqAt A s (.ref p) (.ref q) (decide (ns = ms)) := by
  have n1 : ns.length = A1.size := by rw [← h1.length]; simp
  have n2 : ms.length = A2.size := by rw [← h2.length]; simp
  refine EqAt.of_refs hne ?_
  have q := RcAt.lists (e := fun j => decide (ns[j]? = ms[j]?)) gp gq hz hu (A := A) fun j l1 l2 => by
    obtain ⟨t, e1⟩ := ints_get h1 (i := j) (by simpa using l1) (by omega)
    obtain ⟨u, e2⟩ := ints_get h2 (i := j) (by simpa using l2) (by omega)
    rw [show A1[j] = .int ns[j] t by rw [← e1]; simp, show A2[j] = .int ms[j] u by rw [← e2]; simp]
    obtain ⟨e, he, hiff⟩ := HT.eqAt_int A.in1 s ns[j] t ms[j] u
    have ee : e = decide (ns[j]? = ms[j]?) := by
      rw [Bool.eq_iff_iff, hiff, decide_eq_true_eq, List.getElem?_eq_getElem (by omega), List.getElem?_eq_getElem (by omega), Option.some.injEq]
    rw [← ee]; exact he
  have e : (List.range A1.size).all (fun j => decide (ns[j]? = ms[j]?)) = decide (ns = ms) := by
    rw [Bool.eq_iff_iff, List.all_eq_true, decide_eq_true_eq]
    constructor
    · intro h
      refine List.ext_getElem? fun j => ?_
      by_cases hj : j < A1.size
      · exact of_decide_eq_true (h j (List.mem_range.mpr hj))
      · rw [List.getElem?_eq_none (by omega), List.getElem?_eq_none (by omega)]
    · rintro rfl j _
      exact decide_eq_true rfl
  rw [← e]; exact q
/-- (a, b, a list of ints) < (c, d, another as long) -/
theorem rank_lt {p q pl ql : Addr} {a b c d : Int} {t u t' u' : Tok} {A1 A2 : Array Value} {ns ms : List Int} (gp : s.heap.IsTuple p #[.int a t, .int b u, .ref pl]) (gq : s.heap.IsTuple q #[.int c t', .int d u', .ref ql])
    (g1 : s.heap.IsList pl A1) (g2 : s.heap.IsList ql A2) (h1 : IntsAre A1.toList ns) (h2 : IntsAre A2.toList ms) (hne : pl ≠ ql ∨ ns = ms) (hz : A1.size = A2.size) (hu : A.units + 1 < cLine) :
    LtOf A s (.ref p) (.ref q) (HT.lexLt (a :: b :: ns) (c :: d :: ms)) := by
  refine LtOf.tuples gp gq rfl ?_ (by omega)
  have hu' : A.in1.units < cLine := hu
  obtain ⟨e, he, hiff⟩ := HT.eqAt_int A.in1 s a t c t'
  rw [HT.lexLt_cons]
  by_cases hac : a = c
  · rw [if_pos hac]
    rw [hiff.mpr hac] at he
    refine .same he ?_
    obtain ⟨e, he, hiff⟩ := HT.eqAt_int A.in1 s b u d u'
    rw [HT.lexLt_cons]
    by_cases hbd : b = d
    · rw [if_pos hbd]
      rw [hiff.mpr hbd] at he
      refine .same he ?_
      by_cases hp : pl = ql
      · rcases hne with q | q
        · exact absurd hp q
        · rw [q, lexLt_self]
          subst hp
          exact .same (EqAt.same _) .nil
      · have hq := eq_lists (A := A.in1) hp g1 g2 h1 h2 hz hu'
        by_cases hn : ns = ms
        · rw [decide_eq_true hn] at hq
          rw [hn, lexLt_self]
          exact .same hq .nil
        · rw [decide_eq_false hn] at hq
          exact .less hq (LtOf.lists g1 g2 h1 h2 hz hu')
    · rw [if_neg hbd]
      have e0 : e = false := by
        cases e with
        | true => exact absurd (hiff.mp rfl) hbd
        | false => rfl
      rw [e0] at he
      exact .less he (LtOf.int b d u u')
  · rw [if_neg hac]
    have e0 : e = false := by
      cases e with
      | true => exact absurd (hiff.mp rfl) hac
      | false => rfl
    rw [e0] at he
    exact .less he (LtOf.int a c t t')
end
end Snow

set_option Elab.async false
set_option linter.all false
set_option maxRecDepth 100000
set_option maxHeartbeats 2000000
namespace Snow
open PySem PyProof.Rows L2
section
variable {prog : Program} {w : World} {A : Around} {E : Value → Shared → Prop}
/-- all that is in the first heap is in the second -/
def Old (h0 h : Heap) : Prop := ∀ b o, h0.get? b = some o → h.get? b = some o
/-- the items of a list compared with one another, wherever all that was there at the beginning still is -/
def Cmp (prog : Program) (w : World) (A : Around) (h0 : Heap) (its : Array Value) (bt : Nat → Nat → Bool) : Prop :=
  ∀ (i j : Nat) (x y : Value) (s : Shared) (Q : Value → Shared → Prop) (E : Value → Shared → Prop), its[i]? = some x → its[j]? = some y → Old h0 s.heap → Q (.bool (bt i j)) s → wpAny (model prog w) A (richCompare .Lt x y) Q E s
theorem min_name : (toString "min" ++ toString ".loop" : String) = "min.loop" := by decide
theorem min_turns {R : Result → Shared → Prop} {h0 : Heap} {I S l : Addr} {its : Array Value} {bt : Nat → Nat → Bool} (hh : A.in1.handled = none) (hlI : l ≠ I) (nI : h0.get? I = none) (nS : h0.get? S = none) (SI : S ≠ I) (Sl : S ≠ l)
    (hc : Cmp prog w A.in1 h0 its bt) : ∀ (left j : Nat) (s : Shared) (v : Value) (c : Nat), its.size - (j + 1) = left → j + 1 ≤ its.size → s.heap.IsListIter I l (j + 1) → s.heap.IsList l its → its[argBest bt j]? = some v →
    s.heap.get? S = some ⟨.type "list", none, .seq #[v, v] c, #[]⟩ → Old h0 s.heap →
    (∀ (u : Value) (h' : Heap) (tk : Tok), its[argBest bt (its.size - 1)]? = some u → Old h0 h' → R (.ok (.ret u)) { s with heap := h', toks := tk }) →
    codeAny (model prog w) A (.builtin "min.loop" ⟨[.ref I, .none, .ref S], []⟩) R s := by
  have W := Walks.list (prog := prog) (w := w) (A := A.in1) hh I l hlI its
  have S1 : S ∉ [I] := by simp [SI]
  have S2 : S ∉ [I, l] := by simp [SI, Sl]
  have keep : ∀ {h h' : Heap}, Old h0 h → (∀ b o, b ∉ [I] → h.get? b = some o → h'.get? b = some o) → Old h0 h' := fun a k b o e => k b o (fun m => by
    have : b = I := by simpa using m
    rw [this, nI] at e; cases e) (a b o e)
  have keepS : ∀ {h : Heap} {f : Obj → Obj}, Old h0 h → Old h0 (h.update S f) := fun a b o e => (Heap.get?_update_other _ _ (fun q : S = b => by rw [← q, nS] at e; cases e)).trans (a b o e)
  intro left
  induction left with
  | zero =>
    intro j s v c hk hj t1 t2 hv hS old hR
    have hin : j + 1 = its.size := by omega
    refine codeAny_builtin F.entry_min_loop ?_
    rw [Around.under_plainId F.plain_min_loop _]
    show wpAny _ A.in1 (seqItems? (.ref S) >>= _) _ _ s
    refine wpAny_bind (wpAny_seqItems hS rfl ?_)
    show wpAny _ A.in1 (tryCatch (pyNext (.ref I)) _ >>= _) _ _ s
    refine wpAny_bind (wpAny_tryCatch (W.done s _ _ (hin ▸ ⟨t1, t2⟩) fun h' tk k1 => ?_))
    show wpAny _ A.in1 (updateSeq S (fun _ => #[]) >>= _) _ _ _
    refine wpAny_bind (wpAny_updateSeq (k1 S _ S1 hS) rfl (wpAny_bind (wpAny_letGo (wpAny_pure ?_))))
    exact hR v _ tk (by rw [← hin]; exact hv) (keepS (keep old k1))
  | succ left ih =>
    intro j s v c hk hj t1 t2 hv hS old hR
    have hlt : j + 1 < its.size := by omega
    refine codeAny_builtin F.entry_min_loop ?_
    rw [Around.under_plainId F.plain_min_loop _]
    show wpAny _ A.in1 (seqItems? (.ref S) >>= _) _ _ s
    refine wpAny_bind (wpAny_seqItems hS rfl ?_)
    show wpAny _ A.in1 (tryCatch (pyNext (.ref I)) _ >>= _) _ _ s
    refine wpAny_bind (wpAny_tryCatch (W.item (j + 1) s _ _ hlt ⟨t1, t2⟩ fun x h' tk hx st' k1 => ?_))
    have hS1 := k1 S _ S1 hS
    have old1 := keep old k1
    show wpAny _ A.in1 (tryCatch (holding [x, x] (richCompare .Lt x v >>= _)) _ >>= _) _ _ _
    refine wpAny_bind (wpAny_tryCatch (wpAny_holding (wpAny_bind (hc (j + 1) (argBest bt j) x v _ _ _ hx hv old1 ?_))))
    refine wpAny_bind (wpAny_holding (wpAny_truthy_bool (wpAny_bind (wpAny_letGo (wpAny_pure ?_)))))
    cases hb : bt (j + 1) (argBest bt j) with
    | true =>
      simp only [if_true]
      refine wpAny_bind (wpAny_updateSeq hS1 rfl (wpAny_bind (wpAny_letGo ?_)))
      rw [min_name]
      have st2 := W.frame _ _ (h'.update S (Obj.mapSeq fun _ => #[x, x])) st' fun b hbf o e => (Heap.get?_update_other _ _ (fun q : S = b => S2 (by rw [q]; exact hbf))).trans e
      exact wpAny_pure ⟨plainId_quiet F.plain_min_loop _, ih (j + 1) _ x _ (by omega) hlt st2.1 st2.2 (by simp only [argBest, hb, if_true]; exact hx) (Heap.get?_update_self _ hS1 rfl) (keepS old1) fun u h2 tk2 hu o2 => hR u h2 tk2 hu o2⟩
    | false =>
      simp only [Bool.false_eq_true, if_false]
      refine wpAny_bind (wpAny_letGo ?_)
      rw [min_name]
      exact wpAny_pure ⟨plainId_quiet F.plain_min_loop _, ih (j + 1) _ v c (by omega) hlt st'.1 st'.2 (by simp only [argBest, hb, Bool.false_eq_true, if_false]; exact hv) hS1 old1 fun u h2 tk2 hu o2 => hR u h2 tk2 hu o2⟩
/-- min of a list whose items are compared by bt -/
theorem min_list {s : Shared} {l : Addr} {its : Array Value} {bt : Nat → Nat → Bool} {Q : Value → Shared → Prop} (hh : A.handled = none) (hl : s.heap.IsList l its) (hne : 0 < its.size) (hc : Cmp prog w A.in1 s.heap its bt)
    (h : ∀ (u : Value) (h' : Heap) (tk : Tok), its[argBest bt (its.size - 1)]? = some u → Old s.heap h' → Q u { s with heap := h', toks := tk }) : wpAny (model prog w) A (call (.builtin "min") [.ref l]) Q E s := by
  have hlt : l < s.heap.objs.size := by obtain ⟨_, e, _⟩ := hl; exact Heap.lt_size e
  refine call_function_tree F.kind_min F.plain_min F.entry_min (F.args_min1 _) ?_
  show wpAny _ A.in1 (Builtin.Builtins.bindParams "min" ["key", "default"] 0 ⟨[], []⟩ >>= _) _ _ s
  refine wpAny_bind (wpAny_of_eq (show Builtin.Builtins.bindParams "min" ["key", "default"] 0 ⟨[], []⟩ = pure [none, none] from rfl) (wpAny_bind (wpAny_pure ?_)))
  refine wpAny_bind (wpAny_pyIter_list hl (wpAny_bind (wpAny_newObj_type ?_)))
  rw [min_name]
  have nI : s.heap.get? s.heap.objs.size = none := by
    cases e : s.heap.get? s.heap.objs.size with
    | none => rfl
    | some o => exact absurd (Heap.lt_size e) (Nat.lt_irrefl _)
  generalize hI : s.heap.objs.size = I at nI hlt
  generalize hs1 : s.heap.push { cls := .type "list_iterator", data := .fields #[.ref l, .int 0 0] } = h1
  have z1 : h1.objs.size = I + 1 := by rw [← hs1, Heap.size_push, hI]
  have i1 : h1.IsListIter I l 0 := by rw [← hs1, ← hI]; exact ⟨_, Heap.get?_push_size _ rfl, rfl, rfl⟩
  have old1 : Old s.heap h1 := fun b o e => by rw [← hs1]; exact Heap.get?_push_of_some _ e
  have nS : s.heap.get? h1.objs.size = none := by
    cases e : s.heap.get? h1.objs.size with
    | none => rfl
    | some o =>
      have lt := Heap.lt_size e
      rw [z1, hI] at lt
      exact absurd lt (Nat.not_lt.mpr (Nat.le_succ _))
  have SI : h1.objs.size ≠ I := by rw [z1]; exact Nat.succ_ne_self _
  have Sl : h1.objs.size ≠ l := by rw [z1]; exact fun q => absurd hlt (by rw [← q]; exact Nat.not_lt.mpr (Nat.le_succ _))
  have hlI : l ≠ I := Nat.ne_of_lt hlt
  have W := Walks.list (prog := prog) (w := w) (A := A.in1) hh I l hlI its
  have S1 : h1.objs.size ∉ [I] := by simp [SI]
  have S2 : h1.objs.size ∉ [I, l] := by simp [SI, Sl]
  refine wpAny_pure ⟨plainId_quiet F.plain_min_loop _, ?_⟩
  refine codeAny_builtin F.entry_min_loop ?_
  rw [Around.under_plainId F.plain_min_loop _]
  generalize hS : h1.objs.size = S at nS SI Sl S1 S2
  generalize hs2 : h1.push { cls := .type "list", data := .seq #[] } = h2
  have g2 : h2.get? S = some ⟨.type "list", none, .seq #[] 0, #[]⟩ := by rw [← hs2, ← hS]; exact Heap.get?_push_size _ rfl
  have old2 : Old s.heap h2 := fun b o e => by rw [← hs2]; exact Heap.get?_push_of_some _ (old1 b o e)
  have st2 : h2.IsListIter I l 0 ∧ h2.IsList l its := W.frame _ h1 _ ⟨i1, hl.at fun o e => old1 _ o e⟩ fun b _ o e => by rw [← hs2]; exact Heap.get?_push_of_some _ e
  show wpAny _ A.in1 (seqItems? (.ref S) >>= _) _ _ _
  refine wpAny_bind (wpAny_seqItems g2 rfl ?_)
  show wpAny _ A.in1 (tryCatch (pyNext (.ref I)) _ >>= _) _ _ _
  refine wpAny_bind (wpAny_tryCatch (W.item 0 _ _ _ hne st2 fun x h' tk hx st' k1 => ?_))
  have hS1 := k1 S _ S1 g2
  show wpAny _ A.in1 (updateSeq S (fun _ => #[x, x]) >>= _) _ _ _
  refine wpAny_bind (wpAny_updateSeq hS1 rfl ?_)
  rw [min_name]
  have st3 := W.frame _ _ (h'.update S (Obj.mapSeq fun _ => #[x, x])) st' fun b hbf o e => (Heap.get?_update_other _ _ (fun q : S = b => S2 (by rw [q]; exact hbf))).trans e
  refine wpAny_pure ⟨plainId_quiet F.plain_min_loop _, min_turns (h0 := s.heap) hh hlI nI nS SI Sl hc _ 0 _ x _ rfl hne st3.1 st3.2 hx (Heap.get?_update_self _ hS1 rfl) (fun b o e => ?_) fun u h3 tk3 hu o3 => h u h3 tk3 hu o3⟩
  refine (Heap.get?_update_other _ _ (fun q : S = b => by rw [← q, nS] at e; cases e)).trans (k1 b o (fun m => ?_) (old2 b o e))
  have : b = I := by simpa using m
  rw [this, nI] at e; cases e
end
end Snow

set_option Elab.async false
set_option linter.all false
set_option maxRecDepth 100000
set_option maxHeartbeats 2000000
namespace Snow
open PySem PySem.Spec PyProof.Rows L2
theorem lexLt_trans : ∀ {a b c : List Int}, HT.lexLt a b = true → HT.lexLt b c = true → HT.lexLt a c = true
  | [], [], c, h, _ => by rw [HT.lexLt_nil_nil] at h; cases h
  | [], y :: b, [], _, k => by rw [HT.lexLt_cons_nil] at k; cases k
  | [], y :: b, z :: c, _, _ => HT.lexLt_nil_cons z c
  | x :: a, [], c, h, _ => by rw [HT.lexLt_cons_nil] at h; cases h
  | x :: a, y :: b, [], _, k => by rw [HT.lexLt_cons_nil] at k; cases k
  | x :: a, y :: b, z :: c, h, k => by
    rw [HT.lexLt_cons] at h k ⊢
    by_cases h1 : x = y
    · rw [if_pos h1] at h
      by_cases h2 : y = z
      · rw [if_pos h2] at k
        rw [if_pos (h1.trans h2)]
        exact lexLt_trans h k
      · rw [if_neg h2] at k
        rw [if_neg (by rw [h1]; exact h2), h1]
        exact k
    · rw [if_neg h1] at h
      have h := of_decide_eq_true h
      by_cases h2 : y = z
      · rw [if_neg (by rw [← h2]; exact h1), ← h2]
        exact decide_eq_true h
      · rw [if_neg h2] at k
        have k := of_decide_eq_true k
        rw [if_neg (by omega)]
        exact decide_eq_true (by omega)
theorem argBest_lex (f : Nat → List Int) : ∀ k : Nat, argBest (fun i j => HT.lexLt (f i) (f j)) k ≤ k ∧ ∀ j, j ≤ k → HT.lexLt (f j) (f (argBest (fun i j => HT.lexLt (f i) (f j)) k)) = false
  | 0 => ⟨Nat.le_refl _, fun j hj => by
    have : j = 0 := by omega
    subst this
    exact lexLt_self _⟩
  | k + 1 => by
    obtain ⟨h1, h2⟩ := argBest_lex f k
    show (if HT.lexLt (f (k + 1)) (f (argBest _ k)) then k + 1 else argBest _ k) ≤ k + 1 ∧ ∀ j, j ≤ k + 1 → HT.lexLt (f j) (f (if HT.lexLt (f (k + 1)) (f (argBest _ k)) then k + 1 else argBest _ k)) = false
    by_cases hb : HT.lexLt (f (k + 1)) (f (argBest (fun i j => HT.lexLt (f i) (f j)) k)) = true
    · rw [if_pos hb]
      refine ⟨Nat.le_refl _, fun j hj => ?_⟩
      by_cases e : j = k + 1
      · subst e; exact lexLt_self _
      · cases q : HT.lexLt (f j) (f (k + 1)) with
        | false => rfl
        | true =>
          have := h2 j (by omega)
          rw [lexLt_trans q hb] at this
          cases this
    · rw [if_neg hb]
      refine ⟨by omega, fun j hj => ?_⟩
      by_cases e : j = k + 1
      · subst e; simpa using hb
      · exact h2 j (by omega)
/-- a tuple of two ints and a list of ints -/
structure Rk where
  loc : Addr
  a : Int
  b : Int
  pl : Addr
  ns : List Int
def Rk.key (t : Rk) : List Int := t.a :: t.b :: t.ns
/-- where such a tuple stands -/
def RkAt (K : PySem.W.Frag) (H : Hp) (n : Nat) (t : Rk) : Prop := SqT K H t.loc [.int t.a, .int t.b, .ref t.pl] ∧ SqL K H t.pl (t.ns.map V.int) ∧ t.ns.length = n
/-- min of a list of such tuples -/
def rMinT (K : PySem.W.Frag) : List V → Hp → VK → Prop := fun vs H Q => ∃ (l : Addr) (ts : List Rk) (n : Nat), vs = [V.ref l] ∧ SqL K H l (ts.map fun t => V.ref t.loc) ∧ 0 < ts.length ∧ (∀ t ∈ ts, RkAt K H n t) ∧
  ∀ t ∈ ts, (∀ u ∈ ts, HT.lexLt u.key t.key = false) → Q (.ref t.loc) H
theorem vals_refs : ∀ {ts : List Rk} {us : List Value}, Vals (ts.map fun t => V.ref t.loc) us → us = ts.map fun t => Value.ref t.loc
  | [], _, .nil => rfl
  | t :: ts, _, .cons r h => by
    cases r
    rw [vals_refs h]
    rfl
theorem ints_same : ∀ {vs : List Value} {ns ms : List Int}, IntsAre vs ns → IntsAre vs ms → ns = ms
  | _, _, _, .nil, .nil => rfl
  | _, _, _, .cons a t r, .cons _ _ r' => by rw [ints_same r r']
theorem tup_old {h h' : Heap} {a : Addr} {its : Array Value} (old : Old h h') (g : IsTup h a its) : h'.IsTuple a its := by
  obtain ⟨o, e, c, n, d⟩ := g
  exact ⟨o, old _ _ e, c, n, d⟩
theorem cr_minT {X : Cx} (hc : X.calm = true) (hu : X.A.units + 64 < cLine) : CallR X (.builtin "min") (rMinT X.K) := by
  intro pins s σ H vs us Q I r h
  obtain ⟨l, ts, n, rfl, hs, hne, hat, q⟩ := h
  obtain ⟨its, rv, hl, _⟩ := I.list hs
  rw [Vals.ref1 r]
  have e := vals_refs rv
  subst e
  have bt : ∀ (i : Nat) (t : Value), (ts.map fun t => Value.ref t.loc).toArray[i]? = some t → ∃ k : Rk, ts[i]? = some k ∧ t = Value.ref k.loc := by
    intro i t h
    have h : (ts.map fun t => Value.ref t.loc)[i]? = some t := by simpa using h
    rw [List.getElem?_map] at h
    cases e : ts[i]? with
    | none => rw [e] at h; cases h
    | some k => rw [e] at h; exact ⟨k, rfl, (Option.some.inj h).symm⟩
  refine min_list (bt := fun i j => HT.lexLt ((ts[i]?.map Rk.key).getD []) ((ts[j]?.map Rk.key).getD [])) (I.ok.hd hc) hl.isList (by simpa using hne) ?_ ?_
  · intro i j x y s' Q' E' hx hy old hq
    obtain ⟨t, ht, rfl⟩ := bt i x hx
    obtain ⟨u, hu', rfl⟩ := bt j y hy
    obtain ⟨t1, t2, t3⟩ := hat t (List.mem_of_getElem? ht)
    obtain ⟨u1, u2, u3⟩ := hat u (List.mem_of_getElem? hu')
    obtain ⟨i1, v1, g1, _⟩ := I.tuple t1
    obtain ⟨i2, v2, g2, _⟩ := I.tuple u1
    obtain ⟨i3, v3, g3, _⟩ := I.list t2
    obtain ⟨i4, v4, g4, _⟩ := I.list u2
    dsimp only at hq
    rw [ht, hu'] at hq
    cases v1 with
    | cons ra v1 => cases v1 with
      | cons rb v1 => cases v1 with
        | cons rc v1 =>
          cases v1
          obtain ⟨_, rfl⟩ := ra
          obtain ⟨_, rfl⟩ := rb
          cases rc
          cases v2 with
          | cons ra v2 => cases v2 with
            | cons rb v2 => cases v2 with
              | cons rc v2 =>
                cases v2
                obtain ⟨_, rfl⟩ := ra
                obtain ⟨_, rfl⟩ := rb
                cases rc
                have k3 := v3.ints
                have k4 := v4.ints
                have l3 := g3.isList.at (h' := s'.heap) fun o e => old _ o e
                have l4 := g4.isList.at (h' := s'.heap) fun o e => old _ o e
                refine rank_lt (tup_old old g1) (tup_old old g2) l3 l4 (by simpa using k3) (by simpa using k4) ?_ ?_ (by show X.A.units + 1 + 1 < cLine; omega) X.prog X.w E' Q' hq
                · by_cases hp : t.pl = u.pl
                  · refine .inr ?_
                    obtain ⟨o3, e3, _, c3, d3⟩ := g3.isList
                    obtain ⟨o4, e4, _, c4, d4⟩ := g4.isList
                    rw [hp, e4] at e3
                    cases e3
                    rw [d4] at d3
                    injection d3 with d3
                    have : i4 = i3 := by simpa using d3
                    subst this
                    exact ints_same k3 k4
                  · exact .inl hp
                · have := k3.length
                  have := k4.length
                  simp
                  omega
  · intro u h' tk hu' old
    obtain ⟨t, ht, rfl⟩ := bt _ u hu'
    refine ⟨.ref t.loc, H, I.kept old, rfl, q t (List.mem_of_getElem? ht) fun v hv => ?_⟩
    obtain ⟨j, hj⟩ := List.getElem?_of_mem hv
    obtain ⟨h1, h2⟩ := argBest_lex (fun i => (ts[i]?.map Rk.key).getD []) (((ts.map fun t => Value.ref t.loc).toArray).size - 1)
    have hlt := (List.getElem?_eq_some_iff.mp hj).1
    have h3 := h2 j (by simp; omega)
    rw [hj, ht] at h3
    exact h3
end Snow

set_option Elab.async false
set_option linter.all false
set_option maxRecDepth 100000
set_option maxHeartbeats 1000000
namespace Snow
open Si78
/-! the nights that the program goes through, against the specification's plans -/
def stepZ (w : WS) (f : Int) (n : NS) (z : Int) : List NS := if (passH w n f z).2 = 0 ∨ (passH w n f z).2 = 3 then [(passH w n f z).1] else []
def stepN (w : WS) (f : Int) (n : NS) : List NS := stepZ w f n 0 ++ stepZ w f n 1
def crewNights (w : WS) : List Int → List NS → List NS
  | [], ns => ns
  | f :: fs, ns => crewNights w fs (ns.flatMap (stepN w f))
def walkH (w : WS) : NS → List Int → List Int → Option NS
  | n, f :: fs, z :: zs => if (passH w n f z).2 = 0 ∨ (passH w n f z).2 = 3 then walkH w (passH w n f z).1 fs zs else none
  | n, _, _ => some n
theorem crew_snoc (w : WS) (f : Int) : ∀ (fs : List Int) (ns : List NS), crewNights w (fs ++ [f]) ns = (crewNights w fs ns).flatMap (stepN w f)
  | [], ns => rfl
  | g :: fs, ns => crew_snoc w f fs (ns.flatMap (stepN w g))
theorem stepZ_len (w : WS) (f : Int) (n : NS) (z : Int) : (stepZ w f n z).length ≤ 1 := by
  unfold stepZ; split
  · exact Nat.le_refl _
  · exact Nat.zero_le _
theorem flat_len (w : WS) (f : Int) : ∀ ns : List NS, (ns.flatMap (stepN w f)).length ≤ 2 * ns.length
  | [] => Nat.le_refl _
  | n :: ns => by
    rw [List.flatMap_cons, List.length_append, List.length_cons]
    have h1 := flat_len w f ns
    have h2 : (stepN w f n).length ≤ 2 := by
      unfold stepN
      rw [List.length_append]
      have := stepZ_len w f n 0
      have := stepZ_len w f n 1
      omega
    omega
theorem crew_len (w : WS) : ∀ (fs : List Int) (ns : List NS), (crewNights w fs ns).length ≤ 2 ^ fs.length * ns.length
  | [], ns => by show ns.length ≤ 2 ^ 0 * ns.length; omega
  | f :: fs, ns => by
    have h1 := crew_len w fs (ns.flatMap (stepN w f))
    have h2 := Nat.mul_le_mul_left (2 ^ fs.length) (flat_len w f ns)
    show (crewNights w fs (ns.flatMap (stepN w f))).length ≤ 2 ^ (fs.length + 1) * ns.length
    rw [Nat.pow_succ, Nat.mul_assoc]
    exact Nat.le_trans h1 h2
theorem mem_stepZ {w : WS} {f z : Int} {n m : NS} (h : m ∈ stepZ w f n z) : ((passH w n f z).2 = 0 ∨ (passH w n f z).2 = 3) ∧ m = (passH w n f z).1 := by
  unfold stepZ at h
  split at h
  · rename_i q
    exact ⟨q, by simpa using h⟩
  · cases h
theorem tired_012 (w : WS) (n : NS) : tired w n = 0 ∨ tired w n = 1 ∨ tired w n = 2 := by
  unfold tired
  split
  · exact .inr (.inl rfl)
  · split
    · exact .inr (.inr rfl)
    · exact .inl rfl
/-- behind an hour in which the crew neither works too long nor too soon -/
theorem pass_grow {w : WS} {n : NS} {f z : Int} (h : (passH w n f z).2 = 0 ∨ (passH w n f z).2 = 3) : (passH w n f z).1.depths.length = n.depths.length + 1 ∧ (passH w n f z).1.plan = n.plan ++ [if z = 1 then 1 else 0] := by
  unfold passH at h ⊢
  by_cases h1 : z = 1
  · rw [if_pos h1] at h ⊢
    by_cases h2 : tired w n ≠ 0
    · rw [if_pos h2] at h
      have := tired_012 w n
      exact absurd h (by show ¬ (tired w n = 0 ∨ tired w n = 3); omega)
    · rw [if_neg h2, if_pos h1]
      refine ⟨?_, rfl⟩
      show (n.depths ++ [_]).length = _
      rw [List.length_append]; rfl
  · rw [if_neg h1, if_neg h1]
    refine ⟨?_, rfl⟩
    show (n.depths ++ [_]).length = _
    rw [List.length_append]; rfl
def Long (k : Nat) (n : NS) : Prop := n.depths.length = k ∧ n.plan.length = k
theorem long_step {w : WS} {f : Int} {k : Nat} {n m : NS} (h : Long k n) (hm : m ∈ stepN w f n) : Long (k + 1) m := by
  have go : ∀ z, m ∈ stepZ w f n z → Long (k + 1) m := fun z hz => by
    obtain ⟨q, rfl⟩ := mem_stepZ hz
    obtain ⟨h1, h2⟩ := pass_grow q
    refine ⟨by rw [h1, h.1], ?_⟩
    rw [h2, List.length_append, h.2]; rfl
  rcases List.mem_append.mp hm with hm | hm
  · exact go 0 hm
  · exact go 1 hm
theorem long_crew (w : WS) : ∀ (fs : List Int) (k : Nat) (ns : List NS), (∀ n ∈ ns, Long k n) → ∀ m ∈ crewNights w fs ns, Long (k + fs.length) m
  | [], k, ns, h, m, hm => h m hm
  | f :: fs, k, ns, h, m, hm => by
    have := long_crew w fs (k + 1) (ns.flatMap (stepN w f)) (fun n hn => by
      obtain ⟨n0, h0, h1⟩ := List.mem_flatMap.mp hn
      exact long_step (h n0 h0) h1) m hm
    rw [show k + (f :: fs).length = k + 1 + fs.length by rw [List.length_cons]; omega]
    exact this
theorem zero_step (w : WS) (f : Int) (n : NS) : stepZ w f n 0 = [(passH w n f 0).1] := by
  unfold stepZ
  rw [if_pos]
  unfold passH
  rw [if_neg (by decide)]
  show deepWrong w _ = 0 ∨ deepWrong w _ = 3
  unfold deepWrong
  split
  · exact .inr rfl
  · exact .inl rfl
theorem crew_pos (w : WS) : ∀ (fs : List Int) (ns : List NS), 0 < ns.length → 0 < (crewNights w fs ns).length
  | [], ns, h => h
  | f :: fs, [], h => absurd h (Nat.lt_irrefl _)
  | f :: fs, n :: ns, _ => crew_pos w fs _ (by
    rw [List.flatMap_cons, List.length_append]
    unfold stepN
    rw [zero_step]
    show 0 < ([_] ++ _).length + _
    rw [List.length_append]
    show 0 < 1 + _ + _
    omega)
/-- all nights, by the rows of the specification, in their order -/
theorem crew_rows (w : WS) : ∀ (fs : List Int) (ns : List NS), crewNights w fs ns = ns.flatMap fun n => (rows fs.length).filterMap fun l => walkH w n fs (ci l)
  | [], ns => by
    show ns = ns.flatMap fun n => [n]
    induction ns with
    | nil => rfl
    | cons n ns ih => rw [List.flatMap_cons, ← ih]; rfl
  | f :: fs, ns => by
    show crewNights w fs (ns.flatMap (stepN w f)) = _
    rw [crew_rows w fs, List.flatMap_assoc]
    congr 1
    funext n
    have one : ∀ z : Nat, (stepZ w f n (z : Int)).flatMap (fun n => (rows fs.length).filterMap fun l => walkH w n fs (ci l)) = (rows fs.length).filterMap fun l => walkH w n (f :: fs) (ci (z :: l)) := by
      intro z
      have e : ∀ l : List Nat, walkH w n (f :: fs) (ci (z :: l)) = if (passH w n f (z : Int)).2 = 0 ∨ (passH w n f (z : Int)).2 = 3 then walkH w (passH w n f (z : Int)).1 fs (ci l) else none := fun l => rfl
      unfold stepZ
      by_cases h : (passH w n f (z : Int)).2 = 0 ∨ (passH w n f (z : Int)).2 = 3
      · rw [if_pos h, List.flatMap_cons, List.flatMap_nil, List.append_nil]
        congr 1
        funext l
        rw [e l, if_pos h]
      · rw [if_neg h, List.flatMap_nil]
        refine (List.filterMap_eq_nil_iff.mpr fun l _ => ?_).symm
        rw [e l, if_neg h]
    show (stepZ w f n 0 ++ stepZ w f n 1).flatMap _ = (((rows fs.length).map fun l => 0 :: l) ++ (rows fs.length).map fun l => 1 :: l).filterMap _
    rw [List.flatMap_append, List.filterMap_append, List.filterMap_map, List.filterMap_map]
    rw [show (0 : Int) = ((0 : Nat) : Int) from rfl, show (1 : Int) = ((1 : Nat) : Int) from rfl, one 0, one 1]
    rfl
/-- hour by hour without a bound, against the specification's own walk -/
theorem walk_eq {W : Watch} (g : GoodW W) : ∀ (fs bs : List Nat) (i : Nat) (n : NS) (s : Stand) (p k c : Nat) (ds : List Nat), Rel W n s p k c ds → (∀ b ∈ bs, b < 2) → fs.length = bs.length →
    match W.goes none i s fs bs with
    | .error _ => walkH (ofW W) n (ci fs) (ci bs) = none
    | .ok d => ∃ n' s' p', walkH (ofW W) n (ci fs) (ci bs) = some n' ∧ Rel W n' s' p' (k + hours bs) (c + calls p bs) (ds ++ d) ∧ n'.plan = n.plan ++ ci bs
  | [], [], i, n, s, p, k, c, ds, r, _, _ => by
    show ∃ n' s' p', some n = some n' ∧ _
    refine ⟨n, s, p, rfl, ?_, ?_⟩
    · rw [List.append_nil]; exact r
    · show n.plan = n.plan ++ []
      rw [List.append_nil]
  | [], b :: bs, i, n, s, p, k, c, ds, r, _, hl => by simp at hl
  | f :: fs, [], i, n, s, p, k, c, ds, r, _, hl => by simp at hl
  | f :: fs, b :: bs, i, n, s, p, k, c, ds, r, hb, hl => by
    have hb0 : b < 2 := hb b (List.mem_cons_self ..)
    have hbs : ∀ x ∈ bs, x < 2 := fun x hx => hb x (List.mem_cons_of_mem _ hx)
    have hl' : fs.length = bs.length := by simpa using hl
    have eh : walkH (ofW W) n (ci (f :: fs)) (ci (b :: bs)) = if (passH (ofW W) n f b).2 = 0 ∨ (passH (ofW W) n f b).2 = 3 then walkH (ofW W) (passH (ofW W) n f b).1 (ci fs) (ci bs) else none := rfl
    rw [eh]
    unfold Watch.goes
    by_cases ht : W.tired s b = 0
    · rw [if_neg (by rw [ht]; simp)]
      obtain ⟨r', e2⟩ := rel_pass g r f b hb0 ht
      have e3 : (passH (ofW W) n f b).2 = 0 ∨ (passH (ofW W) n f b).2 = 3 := by
        rw [e2]; split
        · exact .inr rfl
        · exact .inl rfl
      have e4 := (pass_grow e3).2
      have e5 : (if (b : Int) = 1 then (1 : Int) else 0) = (b : Int) := by split <;> omega
      rw [e5] at e4
      dsimp only
      have e0 : ((none : Option Nat).any fun m => decide (m < (W.passes s b f).depth)) = false := rfl
      rw [e0, if_neg Bool.false_ne_true, if_pos e3]
      have ih := walk_eq g fs bs (i + 1) _ _ _ _ _ _ r' hbs hl'
      cases eg : W.goes none (i + 1) (W.passes s b f) fs bs with
      | error x =>
        rw [eg] at ih
        exact ih
      | ok d =>
        rw [eg] at ih
        obtain ⟨n', s', p', e1, r1, h1⟩ := ih
        refine ⟨n', s', p', e1, ?_, ?_⟩
        · have q1 : k + b + hours bs = k + hours (b :: bs) := by
            show k + b + bs.sum = k + (b :: bs).sum
            rw [List.sum_cons, Nat.add_assoc]
          have q2 : c + (if p = 0 ∧ b ≠ 0 then 1 else 0) + calls b bs = c + calls p (b :: bs) := by
            show _ = c + ((if p = 0 ∧ b ≠ 0 then 1 else 0) + calls b bs)
            rw [Nat.add_assoc]
          have q3 : ds ++ [(W.passes s b f).depth] ++ d = ds ++ ((W.passes s b f).depth :: d) := by
            rw [List.append_assoc]; rfl
          rw [q1, q2, q3] at r1
          exact r1
        · rw [h1, e4, List.append_assoc]; rfl
    · have h1 : b = 1 := by
        rcases Nat.lt_or_ge b 1 with h | h
        · have : b = 0 := by omega
          subst this
          exact absurd (tired0 W s) ht
        · omega
      subst h1
      have et := tired_eq g r
      rw [if_pos ht]
      have e : passH (ofW W) n (f : Int) ((1 : Nat) : Int) = (n, tired (ofW W) n) := by
        unfold passH
        rw [if_pos (by decide), if_pos (by rw [et]; omega)]
      have h012 := tired_012 (ofW W) n
      show (if _ then _ else none) = none
      rw [e, if_neg]
      show ¬ (tired (ofW W) n = 0 ∨ tired (ofW W) n = 3)
      omega
/-- what a row of the specification comes to -/
theorem walk_row {W : Watch} (g : GoodW W) {l : List Nat} (hl : l ∈ rows W.snow.length) :
    (W.greatest l = none ∧ walkH (ofW W) (NS.new (ofW W).deep) (ofW W).falls (ci l) = none) ∨
    ∃ d n, W.greatest l = some (d.foldl max 0) ∧ walkH (ofW W) (NS.new (ofW W).deep) (ofW W).falls (ci l) = some n ∧ n.depths = ci d ∧ n.worked = (hours l : Int) ∧ n.outs = (calls 0 l : Int) ∧ n.plan = ci l := by
  obtain ⟨h1, h2⟩ := (mem_rows _ _).mp hl
  have ht := (told_iff W l).mpr hl
  have q := walk_eq g W.snow l 0 _ _ _ _ _ _ (rel_new W) h2 h1.symm
  unfold Watch.greatest
  rw [ht, if_neg (by decide)]
  cases eg : W.goes none 0 W.begun W.snow l with
  | error x =>
    rw [eg] at q
    exact .inl ⟨rfl, q⟩
  | ok d =>
    rw [eg] at q
    obtain ⟨n', s', p', e, r, hp⟩ := q
    refine .inr ⟨d, n', rfl, e, r.depths, ?_, ?_, hp⟩
    · rw [r.worked, Nat.zero_add]
    · rw [r.outs, Nat.zero_add]
/-- the most of 0 and the numbers of a list -/
def most0 (l : List Int) : Int := l.foldl max 0
theorem foldl_max_mem : ∀ (l : List Int) (a : Int), l.foldl max a ∈ a :: l
  | [], a => List.mem_cons_self ..
  | x :: l, a => by
    rw [List.foldl_cons]
    rcases List.mem_cons.mp (foldl_max_mem l (max a x)) with h | h
    · rw [h]
      by_cases hx : a ≤ x
      · rw [Int.max_eq_right hx]; exact List.mem_cons_of_mem _ (List.mem_cons_self ..)
      · rw [Int.max_eq_left (by omega)]; exact List.mem_cons_self ..
    · exact List.mem_cons_of_mem _ (List.mem_cons_of_mem _ h)
theorem foldl_max_ge : ∀ (l : List Int) (a : Int), ∀ y ∈ a :: l, y ≤ l.foldl max a
  | [], a, y, h => by
    have : y = a := by simpa using h
    rw [this]; exact Int.le_refl _
  | x :: l, a, y, h => by
    rw [List.foldl_cons]
    have ih := foldl_max_ge l (max a x)
    rcases List.mem_cons.mp h with rfl | h
    · have := ih _ (List.mem_cons_self ..)
      omega
    · rcases List.mem_cons.mp h with rfl | h
      · have := ih _ (List.mem_cons_self ..)
        omega
      · exact ih y (List.mem_cons_of_mem _ h)
theorem most0_is {l : List Int} {m : Int} (h : m ∈ 0 :: l) (k : ∀ y ∈ 0 :: l, y ≤ m) : m = most0 l :=
  Int.le_antisymm (foldl_max_ge l 0 m h) (k _ (foldl_max_mem l 0))
end Snow

set_option Elab.async false
set_option linter.all false
set_option maxRecDepth 100000
set_option maxHeartbeats 1000000
namespace Snow
open Si78
theorem foldl_max_ci : ∀ (d : List Nat) (a : Nat), (ci d).foldl max (a : Int) = ((d.foldl max a : Nat) : Int)
  | [], a => rfl
  | x :: d, a => by
    show (ci d).foldl max (max (a : Int) (x : Int)) = ((d.foldl max (max a x) : Nat) : Int)
    rw [← foldl_max_ci d (max a x)]
    congr 1
    omega
theorem most0_ci (d : List Nat) : most0 (ci d) = ((d.foldl max 0 : Nat) : Int) := foldl_max_ci d 0
def allNights (W : Watch) : List NS := crewNights (ofW W) (ofW W).falls [NS.new (ofW W).deep]
def rowNight (W : Watch) (l : List Nat) : Option NS := walkH (ofW W) (NS.new (ofW W).deep) (ofW W).falls (ci l)
theorem all_rows (W : Watch) : allNights W = (rows W.snow.length).filterMap (rowNight W) := by
  unfold allNights
  rw [crew_rows, List.flatMap_cons, List.flatMap_nil, List.append_nil, show (ofW W).falls.length = W.snow.length from ci_len _]
  rfl
/-- shallow -/
theorem shallow_list {W : Watch} (g : GoodW W) : (allNights W).map (fun n => most0 n.depths) = ((rows W.snow.length).filterMap W.greatest).map fun (m : Nat) => (m : Int) := by
  rw [all_rows]
  have : ∀ R : List (List Nat), (∀ l ∈ R, l ∈ rows W.snow.length) → (R.filterMap (rowNight W)).map (fun n => most0 n.depths) = (R.filterMap W.greatest).map fun (m : Nat) => (m : Int) := by
    intro R
    induction R with
    | nil => intro _; rfl
    | cons l R ih =>
      intro h
      have ih := ih fun k hk => h k (List.mem_cons_of_mem _ hk)
      rcases walk_row g (h l (List.mem_cons_self ..)) with ⟨e1, e2⟩ | ⟨d, n, e1, e2, e3, _⟩
      · rw [List.filterMap_cons_none (f := rowNight W) e2, List.filterMap_cons_none e1, ih]
      · rw [List.filterMap_cons_some (f := rowNight W) e2, List.filterMap_cons_some e1, List.map_cons, List.map_cons, ih, e3, most0_ci]
  exact this _ fun l h => h
theorem shallow_is {W : Watch} (g : GoodW W) {m : Int} (hm : m ∈ (allNights W).map fun n => most0 n.depths) (hle : ∀ y ∈ (allNights W).map (fun n => most0 n.depths), m ≤ y) : [m] = (step W .shallow).2.v :: (step W .shallow).2.l := by
  rw [shallow_list g] at hm hle
  obtain ⟨k, hk, rfl⟩ := List.mem_map.mp hm
  have e : W.shallow = some k := least_some hk fun n hn => by
    have := hle (n : Int) (List.mem_map.mpr ⟨n, hn, rfl⟩)
    omega
  show _ = (match W.shallow with | none => ok (-6) | some n => ok ((n : Nat) : Int)).v :: (match W.shallow with | none => ok (-6) | some n => ok ((n : Nat) : Int)).l
  rw [e]
  rfl
/-- the nights that can be, by the specification's plans -/
theorem right_greatest (W : Watch) (l : List Nat) : W.right l = true ↔ ∃ m, W.greatest l = some m ∧ m ≤ W.deep := can_iff W W.deep l
def canNights (W : Watch) : List NS := (allNights W).filter fun n => decide (most0 n.depths ≤ (ofW W).may)
theorem plan_keys {W : Watch} (g : GoodW W) {β : Type} (k : NS → β) (k' : List Nat → β) (hk : ∀ (n : NS) (l : List Nat), n.worked = (hours l : Int) → n.outs = (calls 0 l : Int) → n.plan = ci l → k n = k' l) : (canNights W).map k = W.plans.map k' := by
  unfold canNights Watch.plans
  rw [all_rows]
  have : ∀ R : List (List Nat), (∀ l ∈ R, l ∈ rows W.snow.length) → ((R.filterMap (rowNight W)).filter fun n => decide (most0 n.depths ≤ (ofW W).may)).map k = (R.filter W.right).map k' := by
    intro R
    induction R with
    | nil => intro _; rfl
    | cons l R ih =>
      intro h
      have ih := ih fun k hk => h k (List.mem_cons_of_mem _ hk)
      rcases walk_row g (h l (List.mem_cons_self ..)) with ⟨e1, e2⟩ | ⟨d, n, e1, e2, e3, e4, e5, e6⟩
      · have hr : ¬ W.right l = true := fun q => by
          obtain ⟨m, q, _⟩ := (right_greatest W l).mp q
          rw [e1] at q; cases q
        rw [List.filterMap_cons_none (f := rowNight W) e2, ih, List.filter_cons_of_neg hr]
      · rw [List.filterMap_cons_some (f := rowNight W) e2]
        have em : (ofW W).may = (W.deep : Int) := rfl
        by_cases hd : d.foldl max 0 ≤ W.deep
        · have hr : W.right l = true := (right_greatest W l).mpr ⟨_, e1, hd⟩
          rw [List.filter_cons_of_pos (by rw [e3, most0_ci, em]; exact decide_eq_true (by omega)), List.filter_cons_of_pos hr, List.map_cons, List.map_cons, ih, hk n l e4 e5 e6]
        · have hr : ¬ W.right l = true := fun q => by
            obtain ⟨m, q, q2⟩ := (right_greatest W l).mp q
            rw [e1] at q; cases q
            exact hd q2
          rw [List.filter_cons_of_neg (by rw [e3, most0_ci, em, decide_eq_true_eq]; omega), List.filter_cons_of_neg hr, ih]
  exact this _ fun l h => h
/-- the best of a list of such triples -/
def keyOf (t : Int × Int × List Int) : List Int := t.1 :: t.2.1 :: t.2.2
def BestOf (ks : List (Int × Int × List Int)) (out : List Int) : Prop :=
  (ks = [] ∧ out = [-6]) ∨ ∃ t ∈ ks, (∀ u ∈ ks, HT.lexLt (keyOf u) (keyOf t) = false) ∧ out = t.1 :: t.2.1 :: ((ks.countP fun u => decide (u.1 = t.1 ∧ u.2.1 = t.2.1) : Nat) : Int) :: t.2.2
theorem lex_ci_cons (b : Nat) (l k : List Nat) : HT.lexLt (ci (b :: l)) (ci (b :: k)) = HT.lexLt (ci l) (ci k) := by
  show HT.lexLt ((b : Int) :: ci l) ((b : Int) :: ci k) = _
  rw [HT.lexLt_cons, if_pos rfl]
theorem rows_sorted : ∀ n : Nat, (rows n).Pairwise fun l k => HT.lexLt (ci l) (ci k) = true
  | 0 => List.pairwise_singleton _ _
  | n + 1 => by
    have ih := rows_sorted n
    unfold rows
    refine List.pairwise_append.mpr ⟨?_, ?_, ?_⟩
    · exact List.pairwise_map.mpr (ih.imp fun h => by rw [lex_ci_cons]; exact h)
    · exact List.pairwise_map.mpr (ih.imp fun h => by rw [lex_ci_cons]; exact h)
    · intro l hl k hk
      obtain ⟨l, _, rfl⟩ := List.mem_map.mp hl
      obtain ⟨k, _, rfl⟩ := List.mem_map.mp hk
      show HT.lexLt (((0 : Nat) : Int) :: ci l) (((1 : Nat) : Int) :: ci k) = true
      rw [HT.lexLt_cons, if_neg (by decide)]
      decide
theorem find_first {p : List Nat → Bool} : ∀ {L : List (List Nat)} {l0 : List Nat}, L.Pairwise (fun l k => HT.lexLt (ci l) (ci k) = true) → l0 ∈ L → p l0 = true → (∀ l ∈ L, p l = true → HT.lexLt (ci l) (ci l0) = false) → L.find? p = some l0
  | [], l0, _, h, _, _ => by cases h
  | a :: L, l0, hs, h, hp, hl => by
    obtain ⟨h1, h2⟩ := List.pairwise_cons.mp hs
    cases ha : p a with
    | true =>
      rw [List.find?_cons_of_pos ha]
      rcases List.mem_cons.mp h with rfl | h
      · rfl
      · have := hl a (List.mem_cons_self ..) ha
        rw [h1 l0 h] at this
        cases this
    | false =>
      rw [List.find?_cons_of_neg (by rw [ha]; exact Bool.false_ne_true)]
      rcases List.mem_cons.mp h with rfl | h
      · rw [hp] at ha; cases ha
      · exact find_first h2 h hp fun l hl' hq => hl l (List.mem_cons_of_mem _ hl') hq
theorem best_is {W : Watch} (f g : List Nat → Nat) {out : List Int} (h : BestOf (W.plans.map fun l => ((f l : Int), (g l : Int), ci l)) out) : out = (toldBest (W.bestBy f g)).v :: (toldBest (W.bestBy f g)).l := by
  rcases h with ⟨h, rfl⟩ | ⟨t, ht, hmin, rfl⟩
  · have : W.plans = [] := List.map_eq_nil_iff.mp h
    rw [bestBy_none this]
    rfl
  · obtain ⟨l0, h0, rfl⟩ := List.mem_map.mp ht
    have hm : ∀ l ∈ W.plans, HT.lexLt ((f l : Int) :: (g l : Int) :: ci l) ((f l0 : Int) :: (g l0 : Int) :: ci l0) = false := fun l hl => hmin _ (List.mem_map.mpr ⟨l, hl, rfl⟩)
    have hc : ∀ l : List Nat, asGood f g (f l0) (g l0) l = decide ((f l : Int) = (f l0 : Int) ∧ (g l : Int) = (g l0 : Int)) := fun l => by
      rw [Bool.eq_iff_iff, asGood_iff, decide_eq_true_eq]
      omega
    have hb : IsBest f g W.plans ⟨f l0, g l0, W.plans.countP (asGood f g (f l0) (g l0)), l0⟩ := by
      refine ⟨fun l hl => better_false.mpr fun q => ?_, ?_, rfl⟩
      · have q : f l < f l0 ∨ f l = f l0 ∧ g l < g l0 := q
        have z := hm l hl
        rw [HT.lexLt_cons] at z
        rcases q with q | ⟨q1, q2⟩
        · rw [if_neg (by omega)] at z
          have := of_decide_eq_false z
          omega
        · rw [if_pos (by omega), HT.lexLt_cons, if_neg (by omega)] at z
          have := of_decide_eq_false z
          omega
      · refine find_first ((rows_sorted _).filter _) h0 (asGood_iff.mpr ⟨rfl, rfl⟩) fun l hl hq => ?_
        obtain ⟨q1, q2⟩ := asGood_iff.mp hq
        have z := hm l hl
        rw [HT.lexLt_cons, if_pos (by rw [q1]), HT.lexLt_cons, if_pos (by rw [q2])] at z
        exact z
    rw [bestBy_some hb]
    show _ = ((f l0 : Nat) : Int) :: Si78.ints (g l0 :: W.plans.countP (asGood f g (f l0) (g l0)) :: l0)
    show (f l0 : Int) :: (g l0 : Int) :: _ :: ci l0 = (f l0 : Int) :: (g l0 : Int) :: ((W.plans.countP (asGood f g (f l0) (g l0)) : Nat) : Int) :: ci l0
    rw [List.countP_map, show (asGood f g (f l0) (g l0)) = fun l => decide ((f l : Int) = (f l0 : Int) ∧ (g l : Int) = (g l0 : Int)) from funext hc]
    rfl
end Snow

set_option Elab.async false
set_option linter.all false
set_option maxRecDepth 100000
set_option maxHeartbeats 2000000
namespace Snow
open PySem PySem.Spec PyProof.Rows L2
def top (i : Nat) : Stmt := PySem.Challenge.pw_snowcrews_s01_answers.main.body.getD i (.Pass ⟨0, 0, 0, 0⟩)
abbrev s_Night___init__ : Stmt := inClass (top 20) 0
abbrev s_Night_copied : Stmt := inClass (top 20) 1
abbrev s_Night_works : Stmt := inClass (top 20) 2
abbrev s_Night_rests : Stmt := inClass (top 20) 3
abbrev s_Night_lies : Stmt := inClass (top 20) 4
abbrev s_Night_deepest : Stmt := inClass (top 20) 5
abbrev s_Watch___init__ : Stmt := inClass (top 21) 0
abbrev s_Watch_start_over : Stmt := inClass (top 21) 1
abbrev s_Watch_begins : Stmt := inClass (top 21) 2
abbrev s_Watch_crew : Stmt := inClass (top 21) 3
abbrev s_Watch_snow : Stmt := inClass (top 21) 4
abbrev s_Watch_check : Stmt := inClass (top 21) 5
abbrev s_Watch_cheapest : Stmt := inClass (top 21) 6
abbrev s_Watch_fewest : Stmt := inClass (top 21) 7
abbrev s_Watch_shallow : Stmt := inClass (top 21) 8
abbrev s_Watch_nights_that_can_be : Stmt := inClass (top 21) 9
abbrev s_Watch_nights_of_crew : Stmt := inClass (top 21) 10
abbrev s_Watch_is_plan : Stmt := inClass (top 21) 11
abbrev s_Watch_pass_hour : Stmt := inClass (top 21) 12
abbrev s_Watch_wrong_with_work : Stmt := inClass (top 21) 13
abbrev s_Watch_cost : Stmt := inClass (top 21) 14
abbrev s_best_answer : Stmt := top 22
abbrev s_answers : Stmt := top 23
abbrev s_numbers_begin : Stmt := top 24
abbrev s_numbers_count : Stmt := top 25
abbrev s_answer_call : Stmt := top 26
theorem sc_Night___init__ : FnScope ["self", "depth"] ["self", "depth"] (defScope s_Night___init__) := ⟨rfl, rfl, rfl, by decide +kernel, rfl, by decide +kernel, by decide +kernel⟩
theorem sc_Night_copied : FnScope ["self", "other"] ["self"] (defScope s_Night_copied) := ⟨rfl, rfl, rfl, by decide +kernel, rfl, by decide +kernel, by decide +kernel⟩
theorem sc_Night_works : FnScope ["self"] ["self"] (defScope s_Night_works) := ⟨rfl, rfl, rfl, by decide +kernel, rfl, by decide +kernel, by decide +kernel⟩
theorem sc_Night_rests : FnScope ["self"] ["self"] (defScope s_Night_rests) := ⟨rfl, rfl, rfl, by decide +kernel, rfl, by decide +kernel, by decide +kernel⟩
theorem sc_Night_lies : FnScope ["self", "depth"] ["self", "depth"] (defScope s_Night_lies) := ⟨rfl, rfl, rfl, by decide +kernel, rfl, by decide +kernel, by decide +kernel⟩
theorem sc_Night_deepest : FnScope ["self"] ["self"] (defScope s_Night_deepest) := ⟨rfl, rfl, rfl, by decide +kernel, rfl, by decide +kernel, by decide +kernel⟩
theorem sc_Watch___init__ : FnScope ["self"] ["self"] (defScope s_Watch___init__) := ⟨rfl, rfl, rfl, by decide +kernel, rfl, by decide +kernel, by decide +kernel⟩
theorem sc_Watch_start_over : FnScope ["self", "deep", "clears", "may_lie"] ["self", "deep", "clears", "may_lie"] (defScope s_Watch_start_over) := ⟨rfl, rfl, rfl, by decide +kernel, rfl, by decide +kernel, by decide +kernel⟩
theorem sc_Watch_begins : FnScope ["self", "deep", "clears", "may_lie"] ["self", "deep", "clears", "may_lie"] (defScope s_Watch_begins) := ⟨rfl, rfl, rfl, by decide +kernel, rfl, by decide +kernel, by decide +kernel⟩
theorem sc_Watch_crew : FnScope ["self", "in_row", "rest", "hour_costs", "call_costs"] ["self", "in_row", "rest", "hour_costs", "call_costs"] (defScope s_Watch_crew) := ⟨rfl, rfl, rfl, by decide +kernel, rfl, by decide +kernel, by decide +kernel⟩
theorem sc_Watch_snow : FnScope ["self", "much"] ["self", "much"] (defScope s_Watch_snow) := ⟨rfl, rfl, rfl, by decide +kernel, rfl, by decide +kernel, by decide +kernel⟩
theorem sc_Watch_check : FnScope ["self", "plan", "night", "hour", "works", "wrong"] ["self", "plan"] (defScope s_Watch_check) := ⟨rfl, rfl, rfl, by decide +kernel, rfl, by decide +kernel, by decide +kernel⟩
theorem sc_Watch_cheapest : FnScope ["self", "night"] ["self"] (defScope s_Watch_cheapest) := ⟨rfl, rfl, rfl, by decide +kernel, rfl, by decide +kernel, by decide +kernel⟩
theorem sc_Watch_fewest : FnScope ["self", "night"] ["self"] (defScope s_Watch_fewest) := ⟨rfl, rfl, rfl, by decide +kernel, rfl, by decide +kernel, by decide +kernel⟩
theorem sc_Watch_shallow : FnScope ["self", "night"] ["self"] (defScope s_Watch_shallow) := ⟨rfl, rfl, rfl, by decide +kernel, rfl, by decide +kernel, by decide +kernel⟩
theorem sc_Watch_nights_that_can_be : FnScope ["self", "night"] ["self"] (defScope s_Watch_nights_that_can_be) := ⟨rfl, rfl, rfl, by decide +kernel, rfl, by decide +kernel, by decide +kernel⟩
theorem sc_Watch_nights_of_crew : FnScope ["self", "nights", "fall", "longer", "night", "works", "other"] ["self"] (defScope s_Watch_nights_of_crew) := ⟨rfl, rfl, rfl, by decide +kernel, rfl, by decide +kernel, by decide +kernel⟩
theorem sc_Watch_is_plan : FnScope ["self", "numbers", "number"] ["self", "numbers"] (defScope s_Watch_is_plan) := ⟨rfl, rfl, rfl, by decide +kernel, rfl, by decide +kernel, by decide +kernel⟩
theorem sc_Watch_pass_hour : FnScope ["self", "night", "fall", "works", "depth", "wrong"] ["self", "night", "fall", "works"] (defScope s_Watch_pass_hour) := ⟨rfl, rfl, rfl, by decide +kernel, rfl, by decide +kernel, by decide +kernel⟩
theorem sc_Watch_wrong_with_work : FnScope ["self", "night"] ["self", "night"] (defScope s_Watch_wrong_with_work) := ⟨rfl, rfl, rfl, by decide +kernel, rfl, by decide +kernel, by decide +kernel⟩
theorem sc_Watch_cost : FnScope ["self", "night"] ["self", "night"] (defScope s_Watch_cost) := ⟨rfl, rfl, rfl, by decide +kernel, rfl, by decide +kernel, by decide +kernel⟩
theorem sc_best_answer : FnScope ["ranked", "best", "as_good", "rank"] ["ranked"] (defScope s_best_answer) := ⟨rfl, rfl, rfl, by decide +kernel, rfl, by decide +kernel, by decide +kernel⟩
theorem sc_answers : FnScope ["calls", "watch", "answered", "at", "begin", "end", "answer"] ["calls"] (defScope s_answers) := ⟨rfl, rfl, rfl, by decide +kernel, rfl, by decide +kernel, by decide +kernel⟩
theorem sc_numbers_begin : FnScope ["calls", "at"] ["calls", "at"] (defScope s_numbers_begin) := ⟨rfl, rfl, rfl, by decide +kernel, rfl, by decide +kernel, by decide +kernel⟩
theorem sc_numbers_count : FnScope ["calls", "at", "counts"] ["calls", "at"] (defScope s_numbers_count) := ⟨rfl, rfl, rfl, by decide +kernel, rfl, by decide +kernel, by decide +kernel⟩
theorem sc_answer_call : FnScope ["watch", "call", "numbers"] ["watch", "call", "numbers"] (defScope s_answer_call) := ⟨rfl, rfl, rfl, by decide +kernel, rfl, by decide +kernel, by decide +kernel⟩
structure Adr where
  (c_Night c_Watch : Addr)
  (f_Night___init__ f_Night_copied f_Night_works f_Night_rests f_Night_lies f_Night_deepest f_Watch___init__ f_Watch_start_over f_Watch_begins f_Watch_crew f_Watch_snow f_Watch_check f_Watch_cheapest f_Watch_fewest f_Watch_shallow f_Watch_nights_that_can_be f_Watch_nights_of_crew f_Watch_is_plan f_Watch_pass_hour f_Watch_wrong_with_work f_Watch_cost f_best_answer f_answers f_numbers_begin f_numbers_count f_answer_call : Addr)
  (fd_Night___init__ fd_Night_copied fd_Night_works fd_Night_rests fd_Night_lies fd_Night_deepest fd_Watch___init__ fd_Watch_start_over fd_Watch_begins fd_Watch_crew fd_Watch_snow fd_Watch_check fd_Watch_cheapest fd_Watch_fewest fd_Watch_shallow fd_Watch_nights_that_can_be fd_Watch_nights_of_crew fd_Watch_is_plan fd_Watch_pass_hour fd_Watch_wrong_with_work fd_Watch_cost fd_best_answer fd_answers fd_numbers_begin fd_numbers_count fd_answer_call : FuncData)
structure Txt (K : PySem.W.Frag) (mg : Str → Option Value) (x : Adr) : Prop where
  cl_Night : Cls K x.c_Night
  gc_Night : mg "Night" = some (.ref x.c_Night)
  mk_Night : Mk K x.c_Night x.f_Night___init__
  na_Night_depth : NoAttr K x.c_Night "depth"
  na_Night_depths : NoAttr K x.c_Night "depths"
  na_Night_plan : NoAttr K x.c_Night "plan"
  na_Night_worked : NoAttr K x.c_Night "worked"
  na_Night_call_outs : NoAttr K x.c_Night "call_outs"
  na_Night_in_row : NoAttr K x.c_Night "in_row"
  na_Night_rested : NoAttr K x.c_Night "rested"
  cl_Watch : Cls K x.c_Watch
  gc_Watch : mg "Watch" = some (.ref x.c_Watch)
  mk_Watch : Mk K x.c_Watch x.f_Watch___init__
  na_Watch_deep : NoAttr K x.c_Watch "deep"
  na_Watch_clears : NoAttr K x.c_Watch "clears"
  na_Watch_may_lie : NoAttr K x.c_Watch "may_lie"
  na_Watch_most_in_row : NoAttr K x.c_Watch "most_in_row"
  na_Watch_least_rest : NoAttr K x.c_Watch "least_rest"
  na_Watch_hour_costs : NoAttr K x.c_Watch "hour_costs"
  na_Watch_call_costs : NoAttr K x.c_Watch "call_costs"
  na_Watch_falls : NoAttr K x.c_Watch "falls"
  F_Night___init__ : Fun K "__init__" "Night.__init__" s_Night___init__ x.f_Night___init__ x.fd_Night___init__
  b_Night___init__ : Binds K x.fd_Night___init__ ["self", "depth"] []
  F_Night_copied : Fun K "copied" "Night.copied" s_Night_copied x.f_Night_copied x.fd_Night_copied
  b_Night_copied : Binds K x.fd_Night_copied ["self"] []
  mt_Night_copied : Meth K x.c_Night "copied" x.f_Night_copied
  F_Night_works : Fun K "works" "Night.works" s_Night_works x.f_Night_works x.fd_Night_works
  b_Night_works : Binds K x.fd_Night_works ["self"] []
  mt_Night_works : Meth K x.c_Night "works" x.f_Night_works
  F_Night_rests : Fun K "rests" "Night.rests" s_Night_rests x.f_Night_rests x.fd_Night_rests
  b_Night_rests : Binds K x.fd_Night_rests ["self"] []
  mt_Night_rests : Meth K x.c_Night "rests" x.f_Night_rests
  F_Night_lies : Fun K "lies" "Night.lies" s_Night_lies x.f_Night_lies x.fd_Night_lies
  b_Night_lies : Binds K x.fd_Night_lies ["self", "depth"] []
  mt_Night_lies : Meth K x.c_Night "lies" x.f_Night_lies
  F_Night_deepest : Fun K "deepest" "Night.deepest" s_Night_deepest x.f_Night_deepest x.fd_Night_deepest
  b_Night_deepest : Binds K x.fd_Night_deepest ["self"] []
  mt_Night_deepest : Meth K x.c_Night "deepest" x.f_Night_deepest
  F_Watch___init__ : Fun K "__init__" "Watch.__init__" s_Watch___init__ x.f_Watch___init__ x.fd_Watch___init__
  b_Watch___init__ : Binds K x.fd_Watch___init__ ["self"] []
  F_Watch_start_over : Fun K "start_over" "Watch.start_over" s_Watch_start_over x.f_Watch_start_over x.fd_Watch_start_over
  b_Watch_start_over : Binds K x.fd_Watch_start_over ["self", "deep", "clears", "may_lie"] []
  mt_Watch_start_over : Meth K x.c_Watch "start_over" x.f_Watch_start_over
  F_Watch_begins : Fun K "begins" "Watch.begins" s_Watch_begins x.f_Watch_begins x.fd_Watch_begins
  b_Watch_begins : Binds K x.fd_Watch_begins ["self", "deep", "clears", "may_lie"] []
  mt_Watch_begins : Meth K x.c_Watch "begins" x.f_Watch_begins
  F_Watch_crew : Fun K "crew" "Watch.crew" s_Watch_crew x.f_Watch_crew x.fd_Watch_crew
  b_Watch_crew : Binds K x.fd_Watch_crew ["self", "in_row", "rest", "hour_costs", "call_costs"] []
  mt_Watch_crew : Meth K x.c_Watch "crew" x.f_Watch_crew
  F_Watch_snow : Fun K "snow" "Watch.snow" s_Watch_snow x.f_Watch_snow x.fd_Watch_snow
  b_Watch_snow : Binds K x.fd_Watch_snow ["self", "much"] []
  mt_Watch_snow : Meth K x.c_Watch "snow" x.f_Watch_snow
  F_Watch_check : Fun K "check" "Watch.check" s_Watch_check x.f_Watch_check x.fd_Watch_check
  b_Watch_check : Binds K x.fd_Watch_check ["self", "plan"] []
  mt_Watch_check : Meth K x.c_Watch "check" x.f_Watch_check
  F_Watch_cheapest : Fun K "cheapest" "Watch.cheapest" s_Watch_cheapest x.f_Watch_cheapest x.fd_Watch_cheapest
  b_Watch_cheapest : Binds K x.fd_Watch_cheapest ["self"] []
  mt_Watch_cheapest : Meth K x.c_Watch "cheapest" x.f_Watch_cheapest
  F_Watch_fewest : Fun K "fewest" "Watch.fewest" s_Watch_fewest x.f_Watch_fewest x.fd_Watch_fewest
  b_Watch_fewest : Binds K x.fd_Watch_fewest ["self"] []
  mt_Watch_fewest : Meth K x.c_Watch "fewest" x.f_Watch_fewest
  F_Watch_shallow : Fun K "shallow" "Watch.shallow" s_Watch_shallow x.f_Watch_shallow x.fd_Watch_shallow
  b_Watch_shallow : Binds K x.fd_Watch_shallow ["self"] []
  mt_Watch_shallow : Meth K x.c_Watch "shallow" x.f_Watch_shallow
  F_Watch_nights_that_can_be : Fun K "nights_that_can_be" "Watch.nights_that_can_be" s_Watch_nights_that_can_be x.f_Watch_nights_that_can_be x.fd_Watch_nights_that_can_be
  b_Watch_nights_that_can_be : Binds K x.fd_Watch_nights_that_can_be ["self"] []
  mt_Watch_nights_that_can_be : Meth K x.c_Watch "nights_that_can_be" x.f_Watch_nights_that_can_be
  F_Watch_nights_of_crew : Fun K "nights_of_crew" "Watch.nights_of_crew" s_Watch_nights_of_crew x.f_Watch_nights_of_crew x.fd_Watch_nights_of_crew
  b_Watch_nights_of_crew : Binds K x.fd_Watch_nights_of_crew ["self"] []
  mt_Watch_nights_of_crew : Meth K x.c_Watch "nights_of_crew" x.f_Watch_nights_of_crew
  F_Watch_is_plan : Fun K "is_plan" "Watch.is_plan" s_Watch_is_plan x.f_Watch_is_plan x.fd_Watch_is_plan
  b_Watch_is_plan : Binds K x.fd_Watch_is_plan ["self", "numbers"] []
  mt_Watch_is_plan : Meth K x.c_Watch "is_plan" x.f_Watch_is_plan
  F_Watch_pass_hour : Fun K "pass_hour" "Watch.pass_hour" s_Watch_pass_hour x.f_Watch_pass_hour x.fd_Watch_pass_hour
  b_Watch_pass_hour : Binds K x.fd_Watch_pass_hour ["self", "night", "fall", "works"] []
  mt_Watch_pass_hour : Meth K x.c_Watch "pass_hour" x.f_Watch_pass_hour
  F_Watch_wrong_with_work : Fun K "wrong_with_work" "Watch.wrong_with_work" s_Watch_wrong_with_work x.f_Watch_wrong_with_work x.fd_Watch_wrong_with_work
  b_Watch_wrong_with_work : Binds K x.fd_Watch_wrong_with_work ["self", "night"] []
  mt_Watch_wrong_with_work : Meth K x.c_Watch "wrong_with_work" x.f_Watch_wrong_with_work
  F_Watch_cost : Fun K "cost" "Watch.cost" s_Watch_cost x.f_Watch_cost x.fd_Watch_cost
  b_Watch_cost : Binds K x.fd_Watch_cost ["self", "night"] []
  mt_Watch_cost : Meth K x.c_Watch "cost" x.f_Watch_cost
  F_best_answer : Fun K "best_answer" "best_answer" s_best_answer x.f_best_answer x.fd_best_answer
  b_best_answer : Binds K x.fd_best_answer ["ranked"] []
  gf_best_answer : mg "best_answer" = some (.ref x.f_best_answer)
  F_answers : Fun K "answers" "answers" s_answers x.f_answers x.fd_answers
  b_answers : Binds K x.fd_answers ["calls"] []
  gf_answers : mg "answers" = some (.ref x.f_answers)
  F_numbers_begin : Fun K "numbers_begin" "numbers_begin" s_numbers_begin x.f_numbers_begin x.fd_numbers_begin
  b_numbers_begin : Binds K x.fd_numbers_begin ["calls", "at"] []
  gf_numbers_begin : mg "numbers_begin" = some (.ref x.f_numbers_begin)
  F_numbers_count : Fun K "numbers_count" "numbers_count" s_numbers_count x.f_numbers_count x.fd_numbers_count
  b_numbers_count : Binds K x.fd_numbers_count ["calls", "at"] []
  gf_numbers_count : mg "numbers_count" = some (.ref x.f_numbers_count)
  F_answer_call : Fun K "answer_call" "answer_call" s_answer_call x.f_answer_call x.fd_answer_call
  b_answer_call : Binds K x.fd_answer_call ["watch", "call", "numbers"] []
  gf_answer_call : mg "answer_call" = some (.ref x.f_answer_call)
  g_BEGINS : ∃ t, mg "BEGINS" = some (.int (0) t)
  g_CREW : ∃ t, mg "CREW" = some (.int (1) t)
  g_SNOW : ∃ t, mg "SNOW" = some (.int (2) t)
  g_CHECK : ∃ t, mg "CHECK" = some (.int (3) t)
  g_CHEAPEST : ∃ t, mg "CHEAPEST" = some (.int (4) t)
  g_FEWEST : ∃ t, mg "FEWEST" = some (.int (5) t)
  g_SHALLOW : ∃ t, mg "SHALLOW" = some (.int (6) t)
  g_NOT_AS_TOLD : ∃ t, mg "NOT_AS_TOLD" = some (.int (-1) t)
  g_NO_HOUR_LEFT : ∃ t, mg "NO_HOUR_LEFT" = some (.int (-5) t)
  g_CANNOT_BE : ∃ t, mg "CANNOT_BE" = some (.int (-6) t)
  g_NOTHING_WRONG : ∃ t, mg "NOTHING_WRONG" = some (.int (0) t)
  g_TOO_LONG : ∃ t, mg "TOO_LONG" = some (.int (1) t)
  g_TOO_SOON : ∃ t, mg "TOO_SOON" = some (.int (2) t)
  g_TOO_DEEP : ∃ t, mg "TOO_DEEP" = some (.int (3) t)
  g_MOST_DEPTH : ∃ t, mg "MOST_DEPTH" = some (.int (1000) t)
  g_MOST_COST : ∃ t, mg "MOST_COST" = some (.int (1000) t)
  g_MOST_CREW_HOURS : ∃ t, mg "MOST_CREW_HOURS" = some (.int (10) t)
  g_MOST_FALL : ∃ t, mg "MOST_FALL" = some (.int (100) t)
  g_MOST_HOURS : ∃ t, mg "MOST_HOURS" = some (.int (10) t)
  bl_list : mg "list" = none
  bl_max : mg "max" = none
  bl_len : mg "len" = none
  bl_enumerate : mg "enumerate" = none
  bl_min : mg "min" = none
  bl_all : mg "all" = none
theorem pe_gint {X : Cx} {y : Str} {i : Int} {pos : Pos} (hg : Gl X y) (h : ∃ t, X.mg y = some (Value.int i t)) (hd : (y == ("__debug__" : Str)) = false := by decide) : PE X (.Name y pos) (tC (.int i)) := by
  obtain ⟨t, e⟩ := h
  exact pe_glob hg e ⟨t, rfl⟩ hd
theorem sl0 : (0 ≤ sizeLine) = True := eq_true (Nat.zero_le _)
theorem sl1 : (1 ≤ sizeLine) = True := eq_true (by decide)
theorem sl2 : (2 ≤ sizeLine) = True := eq_true (by decide)
theorem sl3 : (3 ≤ sizeLine) = True := eq_true (by decide)
theorem sl4 : (4 ≤ sizeLine) = True := eq_true (by decide)
theorem op_in_K {X : Cx} {K : PySem.W.Frag} (h : X.K = K) : OpR X (compareOp .In) (rIn K false) := by
  rw [← h]; exact op_in_seq
theorem op_notIn_K {X : Cx} {K : PySem.W.Frag} (h : X.K = K) : OpR X (compareOp .NotIn) (rIn K true) := by
  rw [← h]; exact op_notIn_seq
theorem ix_list_K {X : Cx} {K : PySem.W.Frag} (h : X.K = K) : IxR X (rIxL K) := by
  rw [← h]; exact ix_list
theorem ix_tup_K {X : Cx} {K : PySem.W.Frag} (h : X.K = K) : IxR X (rIxT K) := by
  rw [← h]; exact ix_tup
theorem pe_fldK {X : Cx} {K : PySem.W.Frag} (h : X.K = K) {e : Expr} {f : Str} {pos : Pos} {ta : TE} (he : PE X e ta) (hb : attributeBase e f X.env (eval e X.env) = eval e X.env) : PE X (.Attribute e f pos) (tFld K ta f) := by
  rw [← h]; exact pe_fld he hb
theorem map_at {α β : Type} {f : α → β} {l : List α} {i : Nat} {y : β} (h : (l.map f)[i]? = some y) : ∃ z, l[i]? = some z ∧ y = f z := by
  rw [List.getElem?_map] at h
  cases e : l[i]? with
  | none => rw [e] at h; cases h
  | some z => rw [e] at h; exact ⟨z, rfl, (Option.some.inj h).symm⟩
theorem take_snoc {α : Type} : ∀ {l : List α} {i : Nat} {y : α}, l[i]? = some y → l.take (i + 1) = l.take i ++ [y]
  | [], i, y, h => by simp at h
  | a :: l, 0, y, h => by
    have e : a = y := Option.some.inj h
    subst e
    rfl
  | a :: l, i + 1, y, h => by
    have ih := take_snoc (l := l) (i := i) (y := y) h
    show a :: l.take (i + 1) = a :: l.take i ++ [y]
    rw [ih]
    rfl
theorem upd_none {H : Hp} {a b : Addr} {o : HO} (h : upd H a o b = none) : b ≠ a ∧ H b = none := by
  by_cases e : b = a
  · rw [e, upd_same] at h; cases h
  · rw [upd_ne e] at h; exact ⟨e, h⟩
/-- for .. in enumerate(a list that the body leaves as it is) -/
theorem for_enum {K : PySem.W.Frag} {a : Addr} {xs : List V} {g : TG} {tb : TS} {D : Ends} {σ : L2.St} {H : Hp} (Pv : Nat → L2.St → Hp → Prop) (h0 : Pv 0 σ H) (hl : ∀ i σ H, i ≤ xs.length → Pv i σ H → SqL K H a xs)
    (hs : ∀ i y σ H T, xs[i]? = some y → Pv i σ H → H T = none → g (.ref T) σ (upd H T (.tup [.int (i : Nat), y])) fun σ2 H2 => tb { D with nx := Pv (i + 1), ct := Pv (i + 1), bk := D.nx } σ2 H2) (hd : ∀ σ H, Pv xs.length σ H → D.nx σ H) :
    ∃ W : Nat → Nat → L2.St → Hp → Prop, (∃ m, W 0 m σ H) ∧ ∀ i m σ H, W i m σ H →
      ((Ite K a).stop i H ∧ D.nx σ H) ∨ ((Ite K a).go i H ∧ ∃ N : L2.St → Hp → Prop, (∀ σ' H', N σ' H' → ∃ m', m' < m ∧ W (i + 1) m' σ' H') ∧ ∀ x H', (Ite K a).yld i H x H' → g x σ H' fun σ2 H2 => tb { D with nx := N, ct := N, bk := D.nx } σ2 H2) := by
  refine ⟨fun i m σ H => m = xs.length - i ∧ i ≤ xs.length ∧ Pv i σ H, ⟨xs.length, by simp, Nat.zero_le _, h0⟩, ?_⟩
  rintro i m σ H ⟨rfl, hi, p⟩
  have q := hl i σ H hi p
  by_cases hlt : i < xs.length
  · refine .inr ⟨⟨xs, xs[i], q, by simp [hlt]⟩, Pv (i + 1), fun σ' H' p' => ⟨xs.length - (i + 1), by omega, rfl, hlt, p'⟩, fun x H' y => ?_⟩
    obtain ⟨T, z, e1, hT, e2, y⟩ := y
    subst e1; subst e2
    exact hs i z σ _ T (y xs q) p hT
  · have e : i = xs.length := by omega
    subst e
    exact .inl ⟨⟨xs, q, Nat.le_refl _⟩, hd σ H p⟩
theorem scal_int (i j : Int) : scal (.int i) (.int j) = true := rfl
theorem scal_bl (i j : Bool) : scal (.bl i) (.bl j) = true := rfl
theorem cxK {CX : CXT} {P : Program} {w : World} {K : PySem.W.Frag} {mg : Str → Option Value} {base : Heap} {N : List Str} {qual : Str} {scope : Scope} {f : Addr} {cd : Value} {A : Around} {outer : List Env} {s : Shared} {H : Hp} {E : XK} : (cxOf CX P w K mg base N qual scope f cd A outer s H E).K = K := rfl
theorem tyL {K : PySem.W.Frag} {H : Hp} {l : Addr} {xs : List V} (h : H l = some (.lst xs)) : tyV K "list" (.ref l) H := .inl ⟨rfl, _, SqL.of h⟩
theorem thousand {n : Nat} (h : n < 1000) : n < sizeLine := Nat.lt_trans h (by decide)
/-- all but these is as it was -/
def Keep (L : List Addr) (H H' : Hp) : Prop := ∀ b o, H b = some o → b ∉ L → H' b = some o
def nightF (n : NS) (dl pl : Addr) : List (Str × V) := [("depth", .int n.depth), ("depths", .ref dl), ("plan", .ref pl), ("worked", .int n.worked), ("call_outs", .int n.outs), ("in_row", .int n.row), ("rested", .int n.rested)]
def watchF (w : WS) (fl : Addr) : List (Str × V) := [("deep", .int w.deep), ("clears", .int w.clears), ("may_lie", .int w.may), ("most_in_row", .int w.row), ("least_rest", .int w.rest), ("hour_costs", .int w.hour), ("call_costs", .int w.call), ("falls", .ref fl)]
theorem nightF_get_depth (n : NS) (dl pl : Addr) : (nightF n dl pl).lookup ("depth" : Str) = some (.int n.depth) := by rfl
theorem nightF_put_depth (n : NS) (dl pl : Addr) (z : Int) : putF "depth" (.int z) (nightF n dl pl) = nightF { n with depth := z } dl pl := by rfl
theorem nightF_get_depths (n : NS) (dl pl : Addr) : (nightF n dl pl).lookup ("depths" : Str) = some (.ref dl) := by rfl
theorem nightF_put_depths (n : NS) (dl pl : Addr) (z : Addr) : putF "depths" (.ref z) (nightF n dl pl) = nightF n z pl := by rfl
theorem nightF_get_plan (n : NS) (dl pl : Addr) : (nightF n dl pl).lookup ("plan" : Str) = some (.ref pl) := by rfl
theorem nightF_put_plan (n : NS) (dl pl : Addr) (z : Addr) : putF "plan" (.ref z) (nightF n dl pl) = nightF n dl z := by rfl
theorem nightF_get_worked (n : NS) (dl pl : Addr) : (nightF n dl pl).lookup ("worked" : Str) = some (.int n.worked) := by rfl
theorem nightF_put_worked (n : NS) (dl pl : Addr) (z : Int) : putF "worked" (.int z) (nightF n dl pl) = nightF { n with worked := z } dl pl := by rfl
theorem nightF_get_call_outs (n : NS) (dl pl : Addr) : (nightF n dl pl).lookup ("call_outs" : Str) = some (.int n.outs) := by rfl
theorem nightF_put_call_outs (n : NS) (dl pl : Addr) (z : Int) : putF "call_outs" (.int z) (nightF n dl pl) = nightF { n with outs := z } dl pl := by rfl
theorem nightF_get_in_row (n : NS) (dl pl : Addr) : (nightF n dl pl).lookup ("in_row" : Str) = some (.int n.row) := by rfl
theorem nightF_put_in_row (n : NS) (dl pl : Addr) (z : Int) : putF "in_row" (.int z) (nightF n dl pl) = nightF { n with row := z } dl pl := by rfl
theorem nightF_get_rested (n : NS) (dl pl : Addr) : (nightF n dl pl).lookup ("rested" : Str) = some (.int n.rested) := by rfl
theorem nightF_put_rested (n : NS) (dl pl : Addr) (z : Int) : putF "rested" (.int z) (nightF n dl pl) = nightF { n with rested := z } dl pl := by rfl
theorem nightF_no_copied (n : NS) (dl pl : Addr) : (nightF n dl pl).lookup ("copied" : Str) = none := by rfl
theorem nightF_no_works (n : NS) (dl pl : Addr) : (nightF n dl pl).lookup ("works" : Str) = none := by rfl
theorem nightF_no_rests (n : NS) (dl pl : Addr) : (nightF n dl pl).lookup ("rests" : Str) = none := by rfl
theorem nightF_no_lies (n : NS) (dl pl : Addr) : (nightF n dl pl).lookup ("lies" : Str) = none := by rfl
theorem nightF_no_deepest (n : NS) (dl pl : Addr) : (nightF n dl pl).lookup ("deepest" : Str) = none := by rfl
theorem watchF_get_deep (n : WS) (fl : Addr) : (watchF n fl).lookup ("deep" : Str) = some (.int n.deep) := by rfl
theorem watchF_put_deep (n : WS) (fl : Addr) (z : Int) : putF "deep" (.int z) (watchF n fl) = watchF { n with deep := z } fl := by rfl
theorem watchF_get_clears (n : WS) (fl : Addr) : (watchF n fl).lookup ("clears" : Str) = some (.int n.clears) := by rfl
theorem watchF_put_clears (n : WS) (fl : Addr) (z : Int) : putF "clears" (.int z) (watchF n fl) = watchF { n with clears := z } fl := by rfl
theorem watchF_get_may_lie (n : WS) (fl : Addr) : (watchF n fl).lookup ("may_lie" : Str) = some (.int n.may) := by rfl
theorem watchF_put_may_lie (n : WS) (fl : Addr) (z : Int) : putF "may_lie" (.int z) (watchF n fl) = watchF { n with may := z } fl := by rfl
theorem watchF_get_most_in_row (n : WS) (fl : Addr) : (watchF n fl).lookup ("most_in_row" : Str) = some (.int n.row) := by rfl
theorem watchF_put_most_in_row (n : WS) (fl : Addr) (z : Int) : putF "most_in_row" (.int z) (watchF n fl) = watchF { n with row := z } fl := by rfl
theorem watchF_get_least_rest (n : WS) (fl : Addr) : (watchF n fl).lookup ("least_rest" : Str) = some (.int n.rest) := by rfl
theorem watchF_put_least_rest (n : WS) (fl : Addr) (z : Int) : putF "least_rest" (.int z) (watchF n fl) = watchF { n with rest := z } fl := by rfl
theorem watchF_get_hour_costs (n : WS) (fl : Addr) : (watchF n fl).lookup ("hour_costs" : Str) = some (.int n.hour) := by rfl
theorem watchF_put_hour_costs (n : WS) (fl : Addr) (z : Int) : putF "hour_costs" (.int z) (watchF n fl) = watchF { n with hour := z } fl := by rfl
theorem watchF_get_call_costs (n : WS) (fl : Addr) : (watchF n fl).lookup ("call_costs" : Str) = some (.int n.call) := by rfl
theorem watchF_put_call_costs (n : WS) (fl : Addr) (z : Int) : putF "call_costs" (.int z) (watchF n fl) = watchF { n with call := z } fl := by rfl
theorem watchF_get_falls (n : WS) (fl : Addr) : (watchF n fl).lookup ("falls" : Str) = some (.ref fl) := by rfl
theorem watchF_put_falls (n : WS) (fl : Addr) (z : Addr) : putF "falls" (.ref z) (watchF n fl) = watchF n z := by rfl
theorem watchF_no_start_over (n : WS) (fl : Addr) : (watchF n fl).lookup ("start_over" : Str) = none := by rfl
theorem watchF_no_begins (n : WS) (fl : Addr) : (watchF n fl).lookup ("begins" : Str) = none := by rfl
theorem watchF_no_crew (n : WS) (fl : Addr) : (watchF n fl).lookup ("crew" : Str) = none := by rfl
theorem watchF_no_snow (n : WS) (fl : Addr) : (watchF n fl).lookup ("snow" : Str) = none := by rfl
theorem watchF_no_check (n : WS) (fl : Addr) : (watchF n fl).lookup ("check" : Str) = none := by rfl
theorem watchF_no_cheapest (n : WS) (fl : Addr) : (watchF n fl).lookup ("cheapest" : Str) = none := by rfl
theorem watchF_no_fewest (n : WS) (fl : Addr) : (watchF n fl).lookup ("fewest" : Str) = none := by rfl
theorem watchF_no_shallow (n : WS) (fl : Addr) : (watchF n fl).lookup ("shallow" : Str) = none := by rfl
theorem watchF_no_nights_that_can_be (n : WS) (fl : Addr) : (watchF n fl).lookup ("nights_that_can_be" : Str) = none := by rfl
theorem watchF_no_nights_of_crew (n : WS) (fl : Addr) : (watchF n fl).lookup ("nights_of_crew" : Str) = none := by rfl
theorem watchF_no_is_plan (n : WS) (fl : Addr) : (watchF n fl).lookup ("is_plan" : Str) = none := by rfl
theorem watchF_no_pass_hour (n : WS) (fl : Addr) : (watchF n fl).lookup ("pass_hour" : Str) = none := by rfl
theorem watchF_no_wrong_with_work (n : WS) (fl : Addr) : (watchF n fl).lookup ("wrong_with_work" : Str) = none := by rfl
theorem watchF_no_cost (n : WS) (fl : Addr) : (watchF n fl).lookup ("cost" : Str) = none := by rfl
theorem nightF_ini_depth (v0 : V) : putF "depth" v0 ([] : List (Str × V)) = ([(("depth" : Str), v0)] : List (Str × V)) := by rfl
theorem nightF_ini_depths (v0 v1 : V) : putF "depths" v1 ([(("depth" : Str), v0)] : List (Str × V)) = ([(("depth" : Str), v0), (("depths" : Str), v1)] : List (Str × V)) := by rfl
theorem nightF_ini_plan (v0 v1 v2 : V) : putF "plan" v2 ([(("depth" : Str), v0), (("depths" : Str), v1)] : List (Str × V)) = ([(("depth" : Str), v0), (("depths" : Str), v1), (("plan" : Str), v2)] : List (Str × V)) := by rfl
theorem nightF_ini_worked (v0 v1 v2 v3 : V) : putF "worked" v3 ([(("depth" : Str), v0), (("depths" : Str), v1), (("plan" : Str), v2)] : List (Str × V)) = ([(("depth" : Str), v0), (("depths" : Str), v1), (("plan" : Str), v2), (("worked" : Str), v3)] : List (Str × V)) := by rfl
theorem nightF_ini_call_outs (v0 v1 v2 v3 v4 : V) : putF "call_outs" v4 ([(("depth" : Str), v0), (("depths" : Str), v1), (("plan" : Str), v2), (("worked" : Str), v3)] : List (Str × V)) = ([(("depth" : Str), v0), (("depths" : Str), v1), (("plan" : Str), v2), (("worked" : Str), v3), (("call_outs" : Str), v4)] : List (Str × V)) := by rfl
theorem nightF_ini_in_row (v0 v1 v2 v3 v4 v5 : V) : putF "in_row" v5 ([(("depth" : Str), v0), (("depths" : Str), v1), (("plan" : Str), v2), (("worked" : Str), v3), (("call_outs" : Str), v4)] : List (Str × V)) = ([(("depth" : Str), v0), (("depths" : Str), v1), (("plan" : Str), v2), (("worked" : Str), v3), (("call_outs" : Str), v4), (("in_row" : Str), v5)] : List (Str × V)) := by rfl
theorem nightF_ini_rested (v0 v1 v2 v3 v4 v5 v6 : V) : putF "rested" v6 ([(("depth" : Str), v0), (("depths" : Str), v1), (("plan" : Str), v2), (("worked" : Str), v3), (("call_outs" : Str), v4), (("in_row" : Str), v5)] : List (Str × V)) = ([(("depth" : Str), v0), (("depths" : Str), v1), (("plan" : Str), v2), (("worked" : Str), v3), (("call_outs" : Str), v4), (("in_row" : Str), v5), (("rested" : Str), v6)] : List (Str × V)) := by rfl
theorem nightF_lt (n : NS) (dl pl : Addr) : ((nightF n dl pl).length < 1000) = True := eq_true (by show 7 < 1000; decide)
theorem watchF_ini_deep (v0 : V) : putF "deep" v0 ([] : List (Str × V)) = ([(("deep" : Str), v0)] : List (Str × V)) := by rfl
theorem watchF_ini_clears (v0 v1 : V) : putF "clears" v1 ([(("deep" : Str), v0)] : List (Str × V)) = ([(("deep" : Str), v0), (("clears" : Str), v1)] : List (Str × V)) := by rfl
theorem watchF_ini_may_lie (v0 v1 v2 : V) : putF "may_lie" v2 ([(("deep" : Str), v0), (("clears" : Str), v1)] : List (Str × V)) = ([(("deep" : Str), v0), (("clears" : Str), v1), (("may_lie" : Str), v2)] : List (Str × V)) := by rfl
theorem watchF_ini_most_in_row (v0 v1 v2 v3 : V) : putF "most_in_row" v3 ([(("deep" : Str), v0), (("clears" : Str), v1), (("may_lie" : Str), v2)] : List (Str × V)) = ([(("deep" : Str), v0), (("clears" : Str), v1), (("may_lie" : Str), v2), (("most_in_row" : Str), v3)] : List (Str × V)) := by rfl
theorem watchF_ini_least_rest (v0 v1 v2 v3 v4 : V) : putF "least_rest" v4 ([(("deep" : Str), v0), (("clears" : Str), v1), (("may_lie" : Str), v2), (("most_in_row" : Str), v3)] : List (Str × V)) = ([(("deep" : Str), v0), (("clears" : Str), v1), (("may_lie" : Str), v2), (("most_in_row" : Str), v3), (("least_rest" : Str), v4)] : List (Str × V)) := by rfl
theorem watchF_ini_hour_costs (v0 v1 v2 v3 v4 v5 : V) : putF "hour_costs" v5 ([(("deep" : Str), v0), (("clears" : Str), v1), (("may_lie" : Str), v2), (("most_in_row" : Str), v3), (("least_rest" : Str), v4)] : List (Str × V)) = ([(("deep" : Str), v0), (("clears" : Str), v1), (("may_lie" : Str), v2), (("most_in_row" : Str), v3), (("least_rest" : Str), v4), (("hour_costs" : Str), v5)] : List (Str × V)) := by rfl
theorem watchF_ini_call_costs (v0 v1 v2 v3 v4 v5 v6 : V) : putF "call_costs" v6 ([(("deep" : Str), v0), (("clears" : Str), v1), (("may_lie" : Str), v2), (("most_in_row" : Str), v3), (("least_rest" : Str), v4), (("hour_costs" : Str), v5)] : List (Str × V)) = ([(("deep" : Str), v0), (("clears" : Str), v1), (("may_lie" : Str), v2), (("most_in_row" : Str), v3), (("least_rest" : Str), v4), (("hour_costs" : Str), v5), (("call_costs" : Str), v6)] : List (Str × V)) := by rfl
theorem watchF_ini_falls (v0 v1 v2 v3 v4 v5 v6 v7 : V) : putF "falls" v7 ([(("deep" : Str), v0), (("clears" : Str), v1), (("may_lie" : Str), v2), (("most_in_row" : Str), v3), (("least_rest" : Str), v4), (("hour_costs" : Str), v5), (("call_costs" : Str), v6)] : List (Str × V)) = ([(("deep" : Str), v0), (("clears" : Str), v1), (("may_lie" : Str), v2), (("most_in_row" : Str), v3), (("least_rest" : Str), v4), (("hour_costs" : Str), v5), (("call_costs" : Str), v6), (("falls" : Str), v7)] : List (Str × V)) := by rfl
theorem watchF_lt (n : WS) (fl : Addr) : ((watchF n fl).length < 1000) = True := eq_true (by show 8 < 1000; decide)
structure NightAt (x : Adr) (H : Hp) (a dl pl : Addr) (n : NS) : Prop where
  ex : ∃ dx, H a = some (.ins x.c_Night dx (nightF n dl pl))
  lst : H dl = some (.lst (n.depths.map V.int))
  row : H pl = some (.lst (n.plan.map V.int))
  two : dl ≠ pl
structure WatchAt (x : Adr) (H : Hp) (a fl : Addr) (w : WS) : Prop where
  ex : ∃ dx, H a = some (.ins x.c_Watch dx (watchF w fl))
  lst : H fl = some (.lst (w.falls.map V.int))
theorem Keep.refl (L : List Addr) (H : Hp) : Keep L H H := fun _ _ h _ => h
theorem Keep.trans {L M : List Addr} {H H1 H2 : Hp} (a : Keep L H H1) (b : Keep M H1 H2) (h : ∀ y ∈ M, y ∈ L ∨ H y = none) : Keep L H H2 := fun c o e n => b c o (a c o e n) fun m => by
  rcases h c m with q | q
  · exact n q
  · rw [e] at q; cases q
theorem Keep.upd1 {L : List Addr} {H : Hp} {a : Addr} {o : HO} (h : a ∈ L ∨ H a = none) : Keep L H (upd H a o) := fun c u e n => by
  have ne : c ≠ a := fun q => by
    subst q
    rcases h with q | q
    · exact n q
    · rw [e] at q; cases q
  rw [upd_ne ne]; exact e
theorem Keep.then1 {L : List Addr} {H H1 : Hp} {a : Addr} {o : HO} (k : Keep L H H1) (h : a ∈ L ∨ H a = none) : Keep L H (upd H1 a o) := fun c u e n => by
  have ne : c ≠ a := fun q => by
    subst q
    rcases h with q | q
    · exact n q
    · rw [e] at q; cases q
  rw [upd_ne ne]; exact k c u e n
theorem Keep.same {H H' : Hp} (k : Keep [] H H') : Same H H' := fun b o e => k b o e (by simp)
theorem Same.keep {H H' : Hp} (L : List Addr) (s : Same H H') : Keep L H H' := fun b o e _ => s b o e
theorem NightAt.keep {x : Adr} {H H' : Hp} {a dl pl : Addr} {n : NS} {L : List Addr} (h : NightAt x H a dl pl n) (k : Keep L H H') (h1 : a ∉ L) (h2 : dl ∉ L) (h3 : pl ∉ L) : NightAt x H' a dl pl n := by
  obtain ⟨⟨dx, e⟩, l, m, t⟩ := h
  exact ⟨⟨dx, k _ _ e h1⟩, k _ _ l h2, k _ _ m h3, t⟩
theorem NightAt.same {x : Adr} {H H' : Hp} {a dl pl : Addr} {n : NS} (h : NightAt x H a dl pl n) (s : Same H H') : NightAt x H' a dl pl n := by
  obtain ⟨⟨dx, e⟩, l, m, t⟩ := h
  exact ⟨⟨dx, s _ _ e⟩, s _ _ l, s _ _ m, t⟩
theorem WatchAt.keep {x : Adr} {H H' : Hp} {a fl : Addr} {n : WS} {L : List Addr} (h : WatchAt x H a fl n) (k : Keep L H H') (h1 : a ∉ L) (h2 : fl ∉ L) : WatchAt x H' a fl n := by
  obtain ⟨⟨dx, e⟩, l⟩ := h
  exact ⟨⟨dx, k _ _ e h1⟩, k _ _ l h2⟩
theorem NightAt.ne {x : Adr} {H : Hp} {a dl pl : Addr} {n : NS} (h : NightAt x H a dl pl n) : a ≠ dl := by
  obtain ⟨⟨dx, e⟩, l, _⟩ := h
  exact ne_of e l (by intro q; cases q)
theorem NightAt.ne2 {x : Adr} {H : Hp} {a dl pl : Addr} {n : NS} (h : NightAt x H a dl pl n) : a ≠ pl := by
  obtain ⟨⟨dx, e⟩, _, l, _⟩ := h
  exact ne_of e l (by intro q; cases q)
theorem WatchAt.ne {x : Adr} {H : Hp} {a fl : Addr} {n : WS} (h : WatchAt x H a fl n) : a ≠ fl := by
  obtain ⟨⟨dx, e⟩, l⟩ := h
  exact ne_of e l (by intro q; cases q)
theorem nw_ne {x : Adr} {H : Hp} {a dl pl b fl : Addr} {n : NS} {w : WS} (h : NightAt x H a dl pl n) (k : WatchAt x H b fl w) : b ≠ a := by
  obtain ⟨⟨dx, e⟩, l⟩ := h
  obtain ⟨⟨dy, e'⟩, l'⟩ := k
  refine ne_of e' e fun q => ?_
  injection q with _ _ q
  have := congrArg List.length q
  exact absurd this (by show ¬ 8 = 7; decide)
end Snow

set_option Elab.async false
set_option linter.all false
set_option maxRecDepth 100000
set_option maxHeartbeats 2000000
namespace Snow
open PySem PySem.Spec PyProof.Rows L2
section
variable {P : Program} {w : World} {K : PySem.W.Frag} {mg : Str → Option Value} {base : Heap} {x : Adr}
theorem same_upd {H : Hp} {a : Addr} {o : HO} (h : H a = none) : Same H (upd H a o) := fun b u e => by rw [upd_ne (ne_of_none e h)]; exact e
theorem Same.upd {H H1 : Hp} {a : Addr} {o : HO} (s : Same H H1) (h : H a = none) : Same H (upd H1 a o) := fun b u e => by rw [upd_ne (ne_of_none e h)]; exact s b u e
theorem ne_new {H : Hp} {a p : Addr} {o : HO} (h : H a = some o) (n : H p = none) : a ≠ p := ne_of_none h n
def sp_Night___init__ (K : PySem.W.Frag) (x : Adr) : Sp := fun vs H Q _ => ∃ (a dx : Addr) (d : Int), vs = [.ref a, .int d] ∧ H a = some (.ins x.c_Night dx []) ∧ ∀ (H' : Hp) (dl pl : Addr), H dl = none → H pl = none → NightAt x H' a dl pl (NS.new d) → Keep [a] H H' → Q .non H'
theorem ok_Night___init__ (T : Txt K mg x) : FnOk P w K mg base CX0 1 x.f_Night___init__ x.fd_Night___init__ ["self", "depth"] (sp_Night___init__ K x) := by
  have nd := sc_Night___init__.nd
  refine T.F_Night___init__.ok sc_Night___init__ (fun vs H Q E h => ?_) (fun cdv A outer s H vs Q E hr h => ?_)
  · obtain ⟨a, dx, d, rfl, _⟩ := h
    rfl
  · obtain ⟨a, dx, d, rfl, hn, k⟩ := h
    refine ⟨_, (pss_cons (ps_fld (pv 0) (pv 1) rfl)
      (pss_cons (ps_fld (pv 0) (pe_lst pa_nil) rfl)
      (pss_cons (ps_fld (pv 0) (pe_lst pa_nil) rfl)
      (pss_cons (ps_fld (pv 0) pe_int rfl)
      (pss_cons (ps_fld (pv 0) pe_int rfl)
      (pss_cons (ps_fld (pv 0) pe_int rfl)
      (pss_one (ps_fld (pv 0) pe_int rfl)))))))), ?_⟩
    simp only [tSeq, gTup, gCons, gNil, tIfS, tRet, tRetN, tNext, tDrop, tAsg, gName, tTest, tB, tOp, tUn, tVar, tC, tChain, rI0, rI, rU, rEq, rNe, tAnd, tOr, tNot, tAndV, tOrV, tNotV, tIf, tFld, sFld, sFldAug, rAdd, rSub, tCall, tMeth, tMake, tNil, tCons, tLst, tTup, tCB, tBM, tBM0, rAppend, rExtend, rCat, rIxL, rIxT, tSl, rSlL, tNoPart, tPart, scal_int, scal_bl, sl0, sl1, sl2, sl3, sl4, cxK, L2.start, tAug, ipI, List.getElem?_cons_zero, List.getElem?_cons_succ, Option.some.injEq, V.int.injEq, V.ref.injEq, V.bl.injEq, HO.ins.injEq, HO.lst.injEq, exists_eq_left', exists_eq_left, exists_and_left, exists_and_right, and_assoc, List.map_cons, List.map_nil, List.cons_append, List.nil_append, List.append_nil, List.set_cons_zero, List.set_cons_succ, decide_eq_true_eq, true_and, and_true, List.length_cons, List.length_nil, Nat.reduceAdd, Nat.reduceSub, List.replicate_succ, List.replicate_zero, Bool.not_eq_true', decide_eq_false_iff_not, reduceCtorEq, Bool.false_eq_true, if_true, if_false, List.cons.injEq, T.cl_Night, T.cl_Watch, T.na_Night_depth, T.na_Night_depths, T.na_Night_plan, T.na_Night_worked, T.na_Night_call_outs, T.na_Night_in_row, T.na_Night_rested, T.na_Watch_deep, T.na_Watch_clears, T.na_Watch_may_lie, T.na_Watch_most_in_row, T.na_Watch_least_rest, T.na_Watch_hour_costs, T.na_Watch_call_costs, T.na_Watch_falls, nightF_lt, watchF_lt, nightF_get_depth, nightF_put_depth, nightF_get_depths, nightF_put_depths, nightF_get_plan, nightF_put_plan, nightF_get_worked, nightF_put_worked, nightF_get_call_outs, nightF_put_call_outs, nightF_get_in_row, nightF_put_in_row, nightF_get_rested, nightF_put_rested, nightF_no_copied, nightF_no_works, nightF_no_rests, nightF_no_lies, nightF_no_deepest, watchF_get_deep, watchF_put_deep, watchF_get_clears, watchF_put_clears, watchF_get_may_lie, watchF_put_may_lie, watchF_get_most_in_row, watchF_put_most_in_row, watchF_get_least_rest, watchF_put_least_rest, watchF_get_hour_costs, watchF_put_hour_costs, watchF_get_call_costs, watchF_put_call_costs, watchF_get_falls, watchF_put_falls, watchF_no_start_over, watchF_no_begins, watchF_no_crew, watchF_no_snow, watchF_no_check, watchF_no_cheapest, watchF_no_fewest, watchF_no_shallow, watchF_no_nights_that_can_be, watchF_no_nights_of_crew, watchF_no_is_plan, watchF_no_pass_hour, watchF_no_wrong_with_work, watchF_no_cost, nightF_ini_depth, nightF_ini_depths, nightF_ini_plan, nightF_ini_worked, nightF_ini_call_outs, nightF_ini_in_row, nightF_ini_rested, watchF_ini_deep, watchF_ini_clears, watchF_ini_may_lie, watchF_ini_most_in_row, watchF_ini_least_rest, watchF_ini_hour_costs, watchF_ini_call_costs, watchF_ini_falls, Nat.reduceLT, hn, upd_same, upd_upd]
    refine fun dl hdl => ?_
    obtain ⟨ne, hdl'⟩ := upd_none hdl
    simp only [tSeq, gTup, gCons, gNil, tIfS, tRet, tRetN, tNext, tDrop, tAsg, gName, tTest, tB, tOp, tUn, tVar, tC, tChain, rI0, rI, rU, rEq, rNe, tAnd, tOr, tNot, tAndV, tOrV, tNotV, tIf, tFld, sFld, sFldAug, rAdd, rSub, tCall, tMeth, tMake, tNil, tCons, tLst, tTup, tCB, tBM, tBM0, rAppend, rExtend, rCat, rIxL, rIxT, tSl, rSlL, tNoPart, tPart, scal_int, scal_bl, sl0, sl1, sl2, sl3, sl4, cxK, L2.start, tAug, ipI, List.getElem?_cons_zero, List.getElem?_cons_succ, Option.some.injEq, V.int.injEq, V.ref.injEq, V.bl.injEq, HO.ins.injEq, HO.lst.injEq, exists_eq_left', exists_eq_left, exists_and_left, exists_and_right, and_assoc, List.map_cons, List.map_nil, List.cons_append, List.nil_append, List.append_nil, List.set_cons_zero, List.set_cons_succ, decide_eq_true_eq, true_and, and_true, List.length_cons, List.length_nil, Nat.reduceAdd, Nat.reduceSub, List.replicate_succ, List.replicate_zero, Bool.not_eq_true', decide_eq_false_iff_not, reduceCtorEq, Bool.false_eq_true, if_true, if_false, List.cons.injEq, T.cl_Night, T.cl_Watch, T.na_Night_depth, T.na_Night_depths, T.na_Night_plan, T.na_Night_worked, T.na_Night_call_outs, T.na_Night_in_row, T.na_Night_rested, T.na_Watch_deep, T.na_Watch_clears, T.na_Watch_may_lie, T.na_Watch_most_in_row, T.na_Watch_least_rest, T.na_Watch_hour_costs, T.na_Watch_call_costs, T.na_Watch_falls, nightF_lt, watchF_lt, nightF_get_depth, nightF_put_depth, nightF_get_depths, nightF_put_depths, nightF_get_plan, nightF_put_plan, nightF_get_worked, nightF_put_worked, nightF_get_call_outs, nightF_put_call_outs, nightF_get_in_row, nightF_put_in_row, nightF_get_rested, nightF_put_rested, nightF_no_copied, nightF_no_works, nightF_no_rests, nightF_no_lies, nightF_no_deepest, watchF_get_deep, watchF_put_deep, watchF_get_clears, watchF_put_clears, watchF_get_may_lie, watchF_put_may_lie, watchF_get_most_in_row, watchF_put_most_in_row, watchF_get_least_rest, watchF_put_least_rest, watchF_get_hour_costs, watchF_put_hour_costs, watchF_get_call_costs, watchF_put_call_costs, watchF_get_falls, watchF_put_falls, watchF_no_start_over, watchF_no_begins, watchF_no_crew, watchF_no_snow, watchF_no_check, watchF_no_cheapest, watchF_no_fewest, watchF_no_shallow, watchF_no_nights_that_can_be, watchF_no_nights_of_crew, watchF_no_is_plan, watchF_no_pass_hour, watchF_no_wrong_with_work, watchF_no_cost, nightF_ini_depth, nightF_ini_depths, nightF_ini_plan, nightF_ini_worked, nightF_ini_call_outs, nightF_ini_in_row, nightF_ini_rested, watchF_ini_deep, watchF_ini_clears, watchF_ini_may_lie, watchF_ini_most_in_row, watchF_ini_least_rest, watchF_ini_hour_costs, watchF_ini_call_costs, watchF_ini_falls, Nat.reduceLT, upd_ne (Ne.symm ne), upd_same, upd_upd]
    refine fun pl hpl => ?_
    obtain ⟨ne2, hpl1⟩ := upd_none hpl
    obtain ⟨ne3, hpl2⟩ := upd_none hpl1
    obtain ⟨ne4, hpl3⟩ := upd_none hpl2
    simp only [tSeq, gTup, gCons, gNil, tIfS, tRet, tRetN, tNext, tDrop, tAsg, gName, tTest, tB, tOp, tUn, tVar, tC, tChain, rI0, rI, rU, rEq, rNe, tAnd, tOr, tNot, tAndV, tOrV, tNotV, tIf, tFld, sFld, sFldAug, rAdd, rSub, tCall, tMeth, tMake, tNil, tCons, tLst, tTup, tCB, tBM, tBM0, rAppend, rExtend, rCat, rIxL, rIxT, tSl, rSlL, tNoPart, tPart, scal_int, scal_bl, sl0, sl1, sl2, sl3, sl4, cxK, L2.start, tAug, ipI, List.getElem?_cons_zero, List.getElem?_cons_succ, Option.some.injEq, V.int.injEq, V.ref.injEq, V.bl.injEq, HO.ins.injEq, HO.lst.injEq, exists_eq_left', exists_eq_left, exists_and_left, exists_and_right, and_assoc, List.map_cons, List.map_nil, List.cons_append, List.nil_append, List.append_nil, List.set_cons_zero, List.set_cons_succ, decide_eq_true_eq, true_and, and_true, List.length_cons, List.length_nil, Nat.reduceAdd, Nat.reduceSub, List.replicate_succ, List.replicate_zero, Bool.not_eq_true', decide_eq_false_iff_not, reduceCtorEq, Bool.false_eq_true, if_true, if_false, List.cons.injEq, T.cl_Night, T.cl_Watch, T.na_Night_depth, T.na_Night_depths, T.na_Night_plan, T.na_Night_worked, T.na_Night_call_outs, T.na_Night_in_row, T.na_Night_rested, T.na_Watch_deep, T.na_Watch_clears, T.na_Watch_may_lie, T.na_Watch_most_in_row, T.na_Watch_least_rest, T.na_Watch_hour_costs, T.na_Watch_call_costs, T.na_Watch_falls, nightF_lt, watchF_lt, nightF_get_depth, nightF_put_depth, nightF_get_depths, nightF_put_depths, nightF_get_plan, nightF_put_plan, nightF_get_worked, nightF_put_worked, nightF_get_call_outs, nightF_put_call_outs, nightF_get_in_row, nightF_put_in_row, nightF_get_rested, nightF_put_rested, nightF_no_copied, nightF_no_works, nightF_no_rests, nightF_no_lies, nightF_no_deepest, watchF_get_deep, watchF_put_deep, watchF_get_clears, watchF_put_clears, watchF_get_may_lie, watchF_put_may_lie, watchF_get_most_in_row, watchF_put_most_in_row, watchF_get_least_rest, watchF_put_least_rest, watchF_get_hour_costs, watchF_put_hour_costs, watchF_get_call_costs, watchF_put_call_costs, watchF_get_falls, watchF_put_falls, watchF_no_start_over, watchF_no_begins, watchF_no_crew, watchF_no_snow, watchF_no_check, watchF_no_cheapest, watchF_no_fewest, watchF_no_shallow, watchF_no_nights_that_can_be, watchF_no_nights_of_crew, watchF_no_is_plan, watchF_no_pass_hour, watchF_no_wrong_with_work, watchF_no_cost, nightF_ini_depth, nightF_ini_depths, nightF_ini_plan, nightF_ini_worked, nightF_ini_call_outs, nightF_ini_in_row, nightF_ini_rested, watchF_ini_deep, watchF_ini_clears, watchF_ini_may_lie, watchF_ini_most_in_row, watchF_ini_least_rest, watchF_ini_hour_costs, watchF_ini_call_costs, watchF_ini_falls, Nat.reduceLT, upd_ne (Ne.symm ne), upd_ne (Ne.symm ne2), upd_same, upd_upd]
    refine k _ dl pl hdl' hpl3 ⟨⟨dx, upd_same⟩, ?_, ?_, Ne.symm ne3⟩ ?_
    · rw [upd_ne ne, upd_ne (Ne.symm ne3), upd_ne ne, upd_same]; rfl
    · rw [upd_ne ne2, upd_same]; rfl
    · exact Keep.then1 (Keep.then1 (Keep.then1 (Keep.then1 (Keep.upd1 (.inl (by simp))) (.inr hdl')) (.inl (by simp))) (.inr hpl3)) (.inl (by simp))
def sp_Night_works (K : PySem.W.Frag) (x : Adr) : Sp := fun vs H Q _ => ∃ (a dl pl : Addr) (n : NS), vs = [.ref a] ∧ NightAt x H a dl pl n ∧ n.plan.length < 1000 ∧ ∀ H' : Hp, NightAt x H' a dl pl n.works → Keep [a, pl] H H' → Q .non H'
theorem map_snoc (l : List Int) (z : Int) : List.map V.int l ++ [V.int z] = List.map V.int (l ++ [z]) := by rw [List.map_append]; rfl
theorem ok_Night_works (T : Txt K mg x) : FnOk P w K mg base CX0 1 x.f_Night_works x.fd_Night_works ["self"] (sp_Night_works K x) := by
  have nd := sc_Night_works.nd
  refine T.F_Night_works.ok sc_Night_works (fun vs H Q E h => ?_) (fun cdv A outer s H vs Q E hr h => ?_)
  · obtain ⟨a, dl, pl, n, rfl, _⟩ := h
    rfl
  · obtain ⟨a, dl, pl, n, rfl, hn, hlen, k⟩ := h
    have ne := hn.ne
    have ne2 := hn.ne2
    obtain ⟨⟨dx, hn⟩, hl, hp, two⟩ := hn
    refine ⟨_, (pss_cons (ps_expr (pe_bm PySem.F.plainAttrs_list PySem.F.slot_list_append PySem.F.type_list_append mt_append (pe_fld (pv 0) rfl) (pa_cons pe_int pa_nil)))
      (pss_cons (ps_if (pt_cmpR op_eq (pe_fld (pv 0) rfl) pe_int (nomark _))
       (pss_one (ps_fldaug (pv 0) pe_int in_add))
       pss_nil)
      (pss_cons (ps_fldaug (pv 0) pe_int in_add)
      (pss_cons (ps_fldaug (pv 0) pe_int in_add)
      (pss_one (ps_fld (pv 0) pe_int rfl)))))), ?_⟩
    simp only [tSeq, gTup, gCons, gNil, tIfS, tRet, tRetN, tNext, tDrop, tAsg, gName, tTest, tB, tOp, tUn, tVar, tC, tChain, rI0, rI, rU, rEq, rNe, tAnd, tOr, tNot, tAndV, tOrV, tNotV, tIf, tFld, sFld, sFldAug, rAdd, rSub, tCall, tMeth, tMake, tNil, tCons, tLst, tTup, tCB, tBM, tBM0, rAppend, rExtend, rCat, rIxL, rIxT, tSl, rSlL, tNoPart, tPart, scal_int, scal_bl, sl0, sl1, sl2, sl3, sl4, cxK, L2.start, tAug, ipI, List.getElem?_cons_zero, List.getElem?_cons_succ, Option.some.injEq, V.int.injEq, V.ref.injEq, V.bl.injEq, HO.ins.injEq, HO.lst.injEq, exists_eq_left', exists_eq_left, exists_and_left, exists_and_right, and_assoc, List.map_cons, List.map_nil, List.cons_append, List.nil_append, List.append_nil, List.set_cons_zero, List.set_cons_succ, decide_eq_true_eq, true_and, and_true, List.length_cons, List.length_nil, Nat.reduceAdd, Nat.reduceSub, List.replicate_succ, List.replicate_zero, Bool.not_eq_true', decide_eq_false_iff_not, reduceCtorEq, Bool.false_eq_true, if_true, if_false, List.cons.injEq, T.cl_Night, T.cl_Watch, T.na_Night_depth, T.na_Night_depths, T.na_Night_plan, T.na_Night_worked, T.na_Night_call_outs, T.na_Night_in_row, T.na_Night_rested, T.na_Watch_deep, T.na_Watch_clears, T.na_Watch_may_lie, T.na_Watch_most_in_row, T.na_Watch_least_rest, T.na_Watch_hour_costs, T.na_Watch_call_costs, T.na_Watch_falls, nightF_lt, watchF_lt, nightF_get_depth, nightF_put_depth, nightF_get_depths, nightF_put_depths, nightF_get_plan, nightF_put_plan, nightF_get_worked, nightF_put_worked, nightF_get_call_outs, nightF_put_call_outs, nightF_get_in_row, nightF_put_in_row, nightF_get_rested, nightF_put_rested, nightF_no_copied, nightF_no_works, nightF_no_rests, nightF_no_lies, nightF_no_deepest, watchF_get_deep, watchF_put_deep, watchF_get_clears, watchF_put_clears, watchF_get_may_lie, watchF_put_may_lie, watchF_get_most_in_row, watchF_put_most_in_row, watchF_get_least_rest, watchF_put_least_rest, watchF_get_hour_costs, watchF_put_hour_costs, watchF_get_call_costs, watchF_put_call_costs, watchF_get_falls, watchF_put_falls, watchF_no_start_over, watchF_no_begins, watchF_no_crew, watchF_no_snow, watchF_no_check, watchF_no_cheapest, watchF_no_fewest, watchF_no_shallow, watchF_no_nights_that_can_be, watchF_no_nights_of_crew, watchF_no_is_plan, watchF_no_pass_hour, watchF_no_wrong_with_work, watchF_no_cost, hn, hp, upd_same, upd_upd]
    refine ⟨tyL hp, (by rw [List.length_map]; exact thousand hlen), ?_⟩
    simp only [tSeq, gTup, gCons, gNil, tIfS, tRet, tRetN, tNext, tDrop, tAsg, gName, tTest, tB, tOp, tUn, tVar, tC, tChain, rI0, rI, rU, rEq, rNe, tAnd, tOr, tNot, tAndV, tOrV, tNotV, tIf, tFld, sFld, sFldAug, rAdd, rSub, tCall, tMeth, tMake, tNil, tCons, tLst, tTup, tCB, tBM, tBM0, rAppend, rExtend, rCat, rIxL, rIxT, tSl, rSlL, tNoPart, tPart, scal_int, scal_bl, sl0, sl1, sl2, sl3, sl4, cxK, L2.start, tAug, ipI, List.getElem?_cons_zero, List.getElem?_cons_succ, Option.some.injEq, V.int.injEq, V.ref.injEq, V.bl.injEq, HO.ins.injEq, HO.lst.injEq, exists_eq_left', exists_eq_left, exists_and_left, exists_and_right, and_assoc, List.map_cons, List.map_nil, List.cons_append, List.nil_append, List.append_nil, List.set_cons_zero, List.set_cons_succ, decide_eq_true_eq, true_and, and_true, List.length_cons, List.length_nil, Nat.reduceAdd, Nat.reduceSub, List.replicate_succ, List.replicate_zero, Bool.not_eq_true', decide_eq_false_iff_not, reduceCtorEq, Bool.false_eq_true, if_true, if_false, List.cons.injEq, T.cl_Night, T.cl_Watch, T.na_Night_depth, T.na_Night_depths, T.na_Night_plan, T.na_Night_worked, T.na_Night_call_outs, T.na_Night_in_row, T.na_Night_rested, T.na_Watch_deep, T.na_Watch_clears, T.na_Watch_may_lie, T.na_Watch_most_in_row, T.na_Watch_least_rest, T.na_Watch_hour_costs, T.na_Watch_call_costs, T.na_Watch_falls, nightF_lt, watchF_lt, nightF_get_depth, nightF_put_depth, nightF_get_depths, nightF_put_depths, nightF_get_plan, nightF_put_plan, nightF_get_worked, nightF_put_worked, nightF_get_call_outs, nightF_put_call_outs, nightF_get_in_row, nightF_put_in_row, nightF_get_rested, nightF_put_rested, nightF_no_copied, nightF_no_works, nightF_no_rests, nightF_no_lies, nightF_no_deepest, watchF_get_deep, watchF_put_deep, watchF_get_clears, watchF_put_clears, watchF_get_may_lie, watchF_put_may_lie, watchF_get_most_in_row, watchF_put_most_in_row, watchF_get_least_rest, watchF_put_least_rest, watchF_get_hour_costs, watchF_put_hour_costs, watchF_get_call_costs, watchF_put_call_costs, watchF_get_falls, watchF_put_falls, watchF_no_start_over, watchF_no_begins, watchF_no_crew, watchF_no_snow, watchF_no_check, watchF_no_cheapest, watchF_no_fewest, watchF_no_shallow, watchF_no_nights_that_can_be, watchF_no_nights_of_crew, watchF_no_is_plan, watchF_no_pass_hour, watchF_no_wrong_with_work, watchF_no_cost, upd_ne ne2, hn, upd_same, upd_upd]
    have hk : ∀ o u, Keep [a, pl] H (upd (upd H pl u) a o) := fun o u => Keep.then1 (Keep.upd1 (.inl (by simp))) (.inl (by simp))
    have l1 : ∀ o u, upd (upd H pl u) a o dl = some (HO.lst (n.depths.map V.int)) := fun o u => by rw [upd_ne (Ne.symm ne), upd_ne two]; exact hl
    have l2 : ∀ o, upd (upd H pl (HO.lst (List.map V.int n.plan ++ [V.int 1]))) a o pl = some (HO.lst ((n.plan ++ [1]).map V.int)) := fun o => by rw [upd_ne (Ne.symm ne2), upd_same, map_snoc]
    split
    · rename_i e
      refine k _ ⟨⟨dx, ?_⟩, l1 _ _, l2 _, two⟩ (hk _ _)
      rw [upd_same]; unfold NS.works; rw [if_pos e]; rfl
    · rename_i e
      refine k _ ⟨⟨dx, ?_⟩, l1 _ _, l2 _, two⟩ (hk _ _)
      rw [upd_same]; unfold NS.works; rw [if_neg e]; rfl
def sp_Night_rests (K : PySem.W.Frag) (x : Adr) : Sp := fun vs H Q _ => ∃ (a dl pl : Addr) (n : NS), vs = [.ref a] ∧ NightAt x H a dl pl n ∧ n.plan.length < 1000 ∧ ∀ H' : Hp, NightAt x H' a dl pl n.rests → Keep [a, pl] H H' → Q .non H'
theorem ok_Night_rests (T : Txt K mg x) : FnOk P w K mg base CX0 1 x.f_Night_rests x.fd_Night_rests ["self"] (sp_Night_rests K x) := by
  have nd := sc_Night_rests.nd
  refine T.F_Night_rests.ok sc_Night_rests (fun vs H Q E h => ?_) (fun cdv A outer s H vs Q E hr h => ?_)
  · obtain ⟨a, dl, pl, n, rfl, _⟩ := h
    rfl
  · obtain ⟨a, dl, pl, n, rfl, hn, hlen, k⟩ := h
    have ne := hn.ne
    have ne2 := hn.ne2
    obtain ⟨⟨dx, hn⟩, hl, hp, two⟩ := hn
    refine ⟨_, (pss_cons (ps_expr (pe_bm PySem.F.plainAttrs_list PySem.F.slot_list_append PySem.F.type_list_append mt_append (pe_fld (pv 0) rfl) (pa_cons pe_int pa_nil)))
      (pss_cons (ps_fld (pv 0) pe_int rfl)
      (pss_one (ps_fldaug (pv 0) pe_int in_add)))), ?_⟩
    simp only [tSeq, gTup, gCons, gNil, tIfS, tRet, tRetN, tNext, tDrop, tAsg, gName, tTest, tB, tOp, tUn, tVar, tC, tChain, rI0, rI, rU, rEq, rNe, tAnd, tOr, tNot, tAndV, tOrV, tNotV, tIf, tFld, sFld, sFldAug, rAdd, rSub, tCall, tMeth, tMake, tNil, tCons, tLst, tTup, tCB, tBM, tBM0, rAppend, rExtend, rCat, rIxL, rIxT, tSl, rSlL, tNoPart, tPart, scal_int, scal_bl, sl0, sl1, sl2, sl3, sl4, cxK, L2.start, tAug, ipI, List.getElem?_cons_zero, List.getElem?_cons_succ, Option.some.injEq, V.int.injEq, V.ref.injEq, V.bl.injEq, HO.ins.injEq, HO.lst.injEq, exists_eq_left', exists_eq_left, exists_and_left, exists_and_right, and_assoc, List.map_cons, List.map_nil, List.cons_append, List.nil_append, List.append_nil, List.set_cons_zero, List.set_cons_succ, decide_eq_true_eq, true_and, and_true, List.length_cons, List.length_nil, Nat.reduceAdd, Nat.reduceSub, List.replicate_succ, List.replicate_zero, Bool.not_eq_true', decide_eq_false_iff_not, reduceCtorEq, Bool.false_eq_true, if_true, if_false, List.cons.injEq, T.cl_Night, T.cl_Watch, T.na_Night_depth, T.na_Night_depths, T.na_Night_plan, T.na_Night_worked, T.na_Night_call_outs, T.na_Night_in_row, T.na_Night_rested, T.na_Watch_deep, T.na_Watch_clears, T.na_Watch_may_lie, T.na_Watch_most_in_row, T.na_Watch_least_rest, T.na_Watch_hour_costs, T.na_Watch_call_costs, T.na_Watch_falls, nightF_lt, watchF_lt, nightF_get_depth, nightF_put_depth, nightF_get_depths, nightF_put_depths, nightF_get_plan, nightF_put_plan, nightF_get_worked, nightF_put_worked, nightF_get_call_outs, nightF_put_call_outs, nightF_get_in_row, nightF_put_in_row, nightF_get_rested, nightF_put_rested, nightF_no_copied, nightF_no_works, nightF_no_rests, nightF_no_lies, nightF_no_deepest, watchF_get_deep, watchF_put_deep, watchF_get_clears, watchF_put_clears, watchF_get_may_lie, watchF_put_may_lie, watchF_get_most_in_row, watchF_put_most_in_row, watchF_get_least_rest, watchF_put_least_rest, watchF_get_hour_costs, watchF_put_hour_costs, watchF_get_call_costs, watchF_put_call_costs, watchF_get_falls, watchF_put_falls, watchF_no_start_over, watchF_no_begins, watchF_no_crew, watchF_no_snow, watchF_no_check, watchF_no_cheapest, watchF_no_fewest, watchF_no_shallow, watchF_no_nights_that_can_be, watchF_no_nights_of_crew, watchF_no_is_plan, watchF_no_pass_hour, watchF_no_wrong_with_work, watchF_no_cost, hn, hp, upd_same, upd_upd]
    refine ⟨tyL hp, (by rw [List.length_map]; exact thousand hlen), ?_⟩
    simp only [tSeq, gTup, gCons, gNil, tIfS, tRet, tRetN, tNext, tDrop, tAsg, gName, tTest, tB, tOp, tUn, tVar, tC, tChain, rI0, rI, rU, rEq, rNe, tAnd, tOr, tNot, tAndV, tOrV, tNotV, tIf, tFld, sFld, sFldAug, rAdd, rSub, tCall, tMeth, tMake, tNil, tCons, tLst, tTup, tCB, tBM, tBM0, rAppend, rExtend, rCat, rIxL, rIxT, tSl, rSlL, tNoPart, tPart, scal_int, scal_bl, sl0, sl1, sl2, sl3, sl4, cxK, L2.start, tAug, ipI, List.getElem?_cons_zero, List.getElem?_cons_succ, Option.some.injEq, V.int.injEq, V.ref.injEq, V.bl.injEq, HO.ins.injEq, HO.lst.injEq, exists_eq_left', exists_eq_left, exists_and_left, exists_and_right, and_assoc, List.map_cons, List.map_nil, List.cons_append, List.nil_append, List.append_nil, List.set_cons_zero, List.set_cons_succ, decide_eq_true_eq, true_and, and_true, List.length_cons, List.length_nil, Nat.reduceAdd, Nat.reduceSub, List.replicate_succ, List.replicate_zero, Bool.not_eq_true', decide_eq_false_iff_not, reduceCtorEq, Bool.false_eq_true, if_true, if_false, List.cons.injEq, T.cl_Night, T.cl_Watch, T.na_Night_depth, T.na_Night_depths, T.na_Night_plan, T.na_Night_worked, T.na_Night_call_outs, T.na_Night_in_row, T.na_Night_rested, T.na_Watch_deep, T.na_Watch_clears, T.na_Watch_may_lie, T.na_Watch_most_in_row, T.na_Watch_least_rest, T.na_Watch_hour_costs, T.na_Watch_call_costs, T.na_Watch_falls, nightF_lt, watchF_lt, nightF_get_depth, nightF_put_depth, nightF_get_depths, nightF_put_depths, nightF_get_plan, nightF_put_plan, nightF_get_worked, nightF_put_worked, nightF_get_call_outs, nightF_put_call_outs, nightF_get_in_row, nightF_put_in_row, nightF_get_rested, nightF_put_rested, nightF_no_copied, nightF_no_works, nightF_no_rests, nightF_no_lies, nightF_no_deepest, watchF_get_deep, watchF_put_deep, watchF_get_clears, watchF_put_clears, watchF_get_may_lie, watchF_put_may_lie, watchF_get_most_in_row, watchF_put_most_in_row, watchF_get_least_rest, watchF_put_least_rest, watchF_get_hour_costs, watchF_put_hour_costs, watchF_get_call_costs, watchF_put_call_costs, watchF_get_falls, watchF_put_falls, watchF_no_start_over, watchF_no_begins, watchF_no_crew, watchF_no_snow, watchF_no_check, watchF_no_cheapest, watchF_no_fewest, watchF_no_shallow, watchF_no_nights_that_can_be, watchF_no_nights_of_crew, watchF_no_is_plan, watchF_no_pass_hour, watchF_no_wrong_with_work, watchF_no_cost, upd_ne ne2, hn, upd_same, upd_upd]
    refine k _ ⟨⟨dx, ?_⟩, ?_, ?_, two⟩ (Keep.then1 (Keep.upd1 (.inl (by simp))) (.inl (by simp)))
    · rw [upd_same]; rfl
    · rw [upd_ne (Ne.symm ne), upd_ne two]; exact hl
    · rw [upd_ne (Ne.symm ne2), upd_same, map_snoc]; rfl
def sp_Night_lies (K : PySem.W.Frag) (x : Adr) : Sp := fun vs H Q _ => ∃ (a dl pl : Addr) (n : NS) (d : Int), vs = [.ref a, .int d] ∧ NightAt x H a dl pl n ∧ n.depths.length < 1000 ∧ ∀ H' : Hp, NightAt x H' a dl pl (n.lies d) → Keep [a, dl] H H' → Q .non H'
theorem ok_Night_lies (T : Txt K mg x) : FnOk P w K mg base CX0 1 x.f_Night_lies x.fd_Night_lies ["self", "depth"] (sp_Night_lies K x) := by
  have nd := sc_Night_lies.nd
  refine T.F_Night_lies.ok sc_Night_lies (fun vs H Q E h => ?_) (fun cdv A outer s H vs Q E hr h => ?_)
  · obtain ⟨a, dl, pl, n, d, rfl, _⟩ := h
    rfl
  · obtain ⟨a, dl, pl, n, d, rfl, hn, hlen, k⟩ := h
    have ne := hn.ne
    have ne2 := hn.ne2
    obtain ⟨⟨dx, hn⟩, hl, hp, two⟩ := hn
    refine ⟨_, (pss_cons (ps_fld (pv 0) (pv 1) rfl)
      (pss_one (ps_expr (pe_bm PySem.F.plainAttrs_list PySem.F.slot_list_append PySem.F.type_list_append mt_append (pe_fld (pv 0) rfl) (pa_cons (pv 1) pa_nil))))), ?_⟩
    simp only [tSeq, gTup, gCons, gNil, tIfS, tRet, tRetN, tNext, tDrop, tAsg, gName, tTest, tB, tOp, tUn, tVar, tC, tChain, rI0, rI, rU, rEq, rNe, tAnd, tOr, tNot, tAndV, tOrV, tNotV, tIf, tFld, sFld, sFldAug, rAdd, rSub, tCall, tMeth, tMake, tNil, tCons, tLst, tTup, tCB, tBM, tBM0, rAppend, rExtend, rCat, rIxL, rIxT, tSl, rSlL, tNoPart, tPart, scal_int, scal_bl, sl0, sl1, sl2, sl3, sl4, cxK, L2.start, tAug, ipI, List.getElem?_cons_zero, List.getElem?_cons_succ, Option.some.injEq, V.int.injEq, V.ref.injEq, V.bl.injEq, HO.ins.injEq, HO.lst.injEq, exists_eq_left', exists_eq_left, exists_and_left, exists_and_right, and_assoc, List.map_cons, List.map_nil, List.cons_append, List.nil_append, List.append_nil, List.set_cons_zero, List.set_cons_succ, decide_eq_true_eq, true_and, and_true, List.length_cons, List.length_nil, Nat.reduceAdd, Nat.reduceSub, List.replicate_succ, List.replicate_zero, Bool.not_eq_true', decide_eq_false_iff_not, reduceCtorEq, Bool.false_eq_true, if_true, if_false, List.cons.injEq, T.cl_Night, T.cl_Watch, T.na_Night_depth, T.na_Night_depths, T.na_Night_plan, T.na_Night_worked, T.na_Night_call_outs, T.na_Night_in_row, T.na_Night_rested, T.na_Watch_deep, T.na_Watch_clears, T.na_Watch_may_lie, T.na_Watch_most_in_row, T.na_Watch_least_rest, T.na_Watch_hour_costs, T.na_Watch_call_costs, T.na_Watch_falls, nightF_lt, watchF_lt, nightF_get_depth, nightF_put_depth, nightF_get_depths, nightF_put_depths, nightF_get_plan, nightF_put_plan, nightF_get_worked, nightF_put_worked, nightF_get_call_outs, nightF_put_call_outs, nightF_get_in_row, nightF_put_in_row, nightF_get_rested, nightF_put_rested, nightF_no_copied, nightF_no_works, nightF_no_rests, nightF_no_lies, nightF_no_deepest, watchF_get_deep, watchF_put_deep, watchF_get_clears, watchF_put_clears, watchF_get_may_lie, watchF_put_may_lie, watchF_get_most_in_row, watchF_put_most_in_row, watchF_get_least_rest, watchF_put_least_rest, watchF_get_hour_costs, watchF_put_hour_costs, watchF_get_call_costs, watchF_put_call_costs, watchF_get_falls, watchF_put_falls, watchF_no_start_over, watchF_no_begins, watchF_no_crew, watchF_no_snow, watchF_no_check, watchF_no_cheapest, watchF_no_fewest, watchF_no_shallow, watchF_no_nights_that_can_be, watchF_no_nights_of_crew, watchF_no_is_plan, watchF_no_pass_hour, watchF_no_wrong_with_work, watchF_no_cost, hn, upd_same, upd_upd]
    refine ⟨tyL (by rw [upd_ne (Ne.symm ne)]; exact hl), _, (by rw [upd_ne (Ne.symm ne)]; exact hl), (by rw [List.length_map]; exact thousand hlen), ?_⟩
    refine k _ ⟨⟨dx, ?_⟩, ?_, ?_, two⟩ (Keep.then1 (Keep.upd1 (.inl (by simp))) (.inl (by simp)))
    · rw [upd_ne ne, upd_same]; rfl
    · rw [upd_same, map_snoc]; rfl
    · rw [upd_ne (Ne.symm two), upd_ne (Ne.symm ne2)]; exact hp
end
end Snow

set_option Elab.async false
set_option linter.all false
set_option maxRecDepth 100000
set_option maxHeartbeats 2000000
namespace Snow
open PySem PySem.Spec PyProof.Rows L2
section
variable {P : Program} {w : World} {K : PySem.W.Frag} {mg : Str → Option Value} {base : Heap} {x : Adr}
def sp_Night_copied (K : PySem.W.Frag) (x : Adr) : Sp := fun vs H Q _ => ∃ (a dl pl : Addr) (n : NS), vs = [.ref a] ∧ NightAt x H a dl pl n ∧ ∀ (H' : Hp) (b dl' pl' : Addr), H b = none → H dl' = none → H pl' = none → NightAt x H' b dl' pl' n → Same H H' → Q (.ref b) H'
theorem ok_Night_copied (T : Txt K mg x) : FnOk P w K mg base CX0 3 x.f_Night_copied x.fd_Night_copied ["self"] (sp_Night_copied K x) := by
  have G_Night___init__ := ok_Night___init__ (P := P) (w := w) (base := base) T
  have nd := sc_Night_copied.nd
  refine T.F_Night_copied.ok sc_Night_copied (fun vs H Q E h => ?_) (fun cdv A outer s H vs Q E hr h => ?_)
  · obtain ⟨a, dl, pl, n, rfl, _⟩ := h
    rfl
  · obtain ⟨a, dl, pl, n, rfl, hn, k⟩ := h
    obtain ⟨⟨dx, hn⟩, hl, hp, two⟩ := hn
    refine ⟨_, (pss_cons (ps_set (i := 1) nd rfl (by first | exact Or.inl rfl | exact Or.inr rfl) (pe_make T.mk_Night G_Night___init__ (hr.mono (by decide)) rfl T.gc_Night T.b_Night___init__ .nil pass0 (pa_cons (pe_fld (pv 0) rfl) pa_nil)))
      (pss_cons (ps_fld (pv 1) (pe_callTy call_list_of (by rfl) T.bl_list boot_list (pa_cons (pe_fld (pv 0) rfl) pa_nil)) rfl)
      (pss_cons (ps_fld (pv 1) (pe_callTy call_list_of (by rfl) T.bl_list boot_list (pa_cons (pe_fld (pv 0) rfl) pa_nil)) rfl)
      (pss_cons (ps_fld (pv 1) (pe_fld (pv 0) rfl) rfl)
      (pss_cons (ps_fld (pv 1) (pe_fld (pv 0) rfl) rfl)
      (pss_cons (ps_fld (pv 1) (pe_fld (pv 0) rfl) rfl)
      (pss_cons (ps_fld (pv 1) (pe_fld (pv 0) rfl) rfl)
      (pss_one (ps_ret (pv 1)))))))))), ?_⟩
    simp only [tSeq, gTup, gCons, gNil, tIfS, tRet, tRetN, tNext, tDrop, tAsg, gName, tTest, tB, tOp, tUn, tVar, tC, tChain, rI0, rI, rU, rEq, rNe, tAnd, tOr, tNot, tAndV, tOrV, tNotV, tIf, tFld, sFld, sFldAug, rAdd, rSub, tCall, tMeth, tMake, tNil, tCons, tLst, tTup, tCB, tBM, tBM0, rAppend, rExtend, rCat, rIxL, rIxT, tSl, rSlL, tNoPart, tPart, scal_int, scal_bl, sl0, sl1, sl2, sl3, sl4, cxK, L2.start, tAug, ipI, List.getElem?_cons_zero, List.getElem?_cons_succ, Option.some.injEq, V.int.injEq, V.ref.injEq, V.bl.injEq, HO.ins.injEq, HO.lst.injEq, exists_eq_left', exists_eq_left, exists_and_left, exists_and_right, and_assoc, List.map_cons, List.map_nil, List.cons_append, List.nil_append, List.append_nil, List.set_cons_zero, List.set_cons_succ, decide_eq_true_eq, true_and, and_true, List.length_cons, List.length_nil, Nat.reduceAdd, Nat.reduceSub, List.replicate_succ, List.replicate_zero, Bool.not_eq_true', decide_eq_false_iff_not, reduceCtorEq, Bool.false_eq_true, if_true, if_false, List.cons.injEq, T.cl_Night, T.cl_Watch, T.na_Night_depth, T.na_Night_depths, T.na_Night_plan, T.na_Night_worked, T.na_Night_call_outs, T.na_Night_in_row, T.na_Night_rested, T.na_Watch_deep, T.na_Watch_clears, T.na_Watch_may_lie, T.na_Watch_most_in_row, T.na_Watch_least_rest, T.na_Watch_hour_costs, T.na_Watch_call_costs, T.na_Watch_falls, nightF_lt, watchF_lt, nightF_get_depth, nightF_put_depth, nightF_get_depths, nightF_put_depths, nightF_get_plan, nightF_put_plan, nightF_get_worked, nightF_put_worked, nightF_get_call_outs, nightF_put_call_outs, nightF_get_in_row, nightF_put_in_row, nightF_get_rested, nightF_put_rested, nightF_no_copied, nightF_no_works, nightF_no_rests, nightF_no_lies, nightF_no_deepest, watchF_get_deep, watchF_put_deep, watchF_get_clears, watchF_put_clears, watchF_get_may_lie, watchF_put_may_lie, watchF_get_most_in_row, watchF_put_most_in_row, watchF_get_least_rest, watchF_put_least_rest, watchF_get_hour_costs, watchF_put_hour_costs, watchF_get_call_costs, watchF_put_call_costs, watchF_get_falls, watchF_put_falls, watchF_no_start_over, watchF_no_begins, watchF_no_crew, watchF_no_snow, watchF_no_check, watchF_no_cheapest, watchF_no_fewest, watchF_no_shallow, watchF_no_nights_that_can_be, watchF_no_nights_of_crew, watchF_no_is_plan, watchF_no_pass_hour, watchF_no_wrong_with_work, watchF_no_cost, hn, hp, hl, upd_same, upd_upd]
    intro b db nb ndb nbb
    refine ⟨b, db, n.depth, rfl, upd_same, fun H1 d1 p1 hd1 hp1 hn1 kp => ⟨rfl, ?_⟩⟩
    have s1 : Same H H1 := fun c o e => kp c o (by rw [upd_ne (ne_of_none e nb), upd_ne (ne_of_none e ndb)]; exact e) (by simp [ne_of_none e nb])
    obtain ⟨⟨dy, hb⟩, _, _, _⟩ := hn1
    simp only [tSeq, gTup, gCons, gNil, tIfS, tRet, tRetN, tNext, tDrop, tAsg, gName, tTest, tB, tOp, tUn, tVar, tC, tChain, rI0, rI, rU, rEq, rNe, tAnd, tOr, tNot, tAndV, tOrV, tNotV, tIf, tFld, sFld, sFldAug, rAdd, rSub, tCall, tMeth, tMake, tNil, tCons, tLst, tTup, tCB, tBM, tBM0, rAppend, rExtend, rCat, rIxL, rIxT, tSl, rSlL, tNoPart, tPart, scal_int, scal_bl, sl0, sl1, sl2, sl3, sl4, cxK, L2.start, tAug, ipI, List.getElem?_cons_zero, List.getElem?_cons_succ, Option.some.injEq, V.int.injEq, V.ref.injEq, V.bl.injEq, HO.ins.injEq, HO.lst.injEq, exists_eq_left', exists_eq_left, exists_and_left, exists_and_right, and_assoc, List.map_cons, List.map_nil, List.cons_append, List.nil_append, List.append_nil, List.set_cons_zero, List.set_cons_succ, decide_eq_true_eq, true_and, and_true, List.length_cons, List.length_nil, Nat.reduceAdd, Nat.reduceSub, List.replicate_succ, List.replicate_zero, Bool.not_eq_true', decide_eq_false_iff_not, reduceCtorEq, Bool.false_eq_true, if_true, if_false, List.cons.injEq, T.cl_Night, T.cl_Watch, T.na_Night_depth, T.na_Night_depths, T.na_Night_plan, T.na_Night_worked, T.na_Night_call_outs, T.na_Night_in_row, T.na_Night_rested, T.na_Watch_deep, T.na_Watch_clears, T.na_Watch_may_lie, T.na_Watch_most_in_row, T.na_Watch_least_rest, T.na_Watch_hour_costs, T.na_Watch_call_costs, T.na_Watch_falls, nightF_lt, watchF_lt, nightF_get_depth, nightF_put_depth, nightF_get_depths, nightF_put_depths, nightF_get_plan, nightF_put_plan, nightF_get_worked, nightF_put_worked, nightF_get_call_outs, nightF_put_call_outs, nightF_get_in_row, nightF_put_in_row, nightF_get_rested, nightF_put_rested, nightF_no_copied, nightF_no_works, nightF_no_rests, nightF_no_lies, nightF_no_deepest, watchF_get_deep, watchF_put_deep, watchF_get_clears, watchF_put_clears, watchF_get_may_lie, watchF_put_may_lie, watchF_get_most_in_row, watchF_put_most_in_row, watchF_get_least_rest, watchF_put_least_rest, watchF_get_hour_costs, watchF_put_hour_costs, watchF_get_call_costs, watchF_put_call_costs, watchF_get_falls, watchF_put_falls, watchF_no_start_over, watchF_no_begins, watchF_no_crew, watchF_no_snow, watchF_no_check, watchF_no_cheapest, watchF_no_fewest, watchF_no_shallow, watchF_no_nights_that_can_be, watchF_no_nights_of_crew, watchF_no_is_plan, watchF_no_pass_hour, watchF_no_wrong_with_work, watchF_no_cost, s1 _ _ hn, tCB]
    refine ⟨_, .inl (SqL.of (s1 _ _ hl)), fun d2 hd2 => ?_⟩
    have bd2 : b ≠ d2 := ne_new hb hd2
    have s2 : Same H1 (upd H1 d2 (.lst (List.map V.int n.depths))) := same_upd hd2
    have nd2 : H d2 = none := s1.free hd2
    have ab : a ≠ b := ne_new hn nb
    have ad2 : a ≠ d2 := ne_new hn nd2
    have pb : pl ≠ b := ne_new hp nb
    have pd2 : pl ≠ d2 := ne_new hp nd2
    have hn1 := s1 _ _ hn
    simp only [tSeq, gTup, gCons, gNil, tIfS, tRet, tRetN, tNext, tDrop, tAsg, gName, tTest, tB, tOp, tUn, tVar, tC, tChain, rI0, rI, rU, rEq, rNe, tAnd, tOr, tNot, tAndV, tOrV, tNotV, tIf, tFld, sFld, sFldAug, rAdd, rSub, tCall, tMeth, tMake, tNil, tCons, tLst, tTup, tCB, tBM, tBM0, rAppend, rExtend, rCat, rIxL, rIxT, tSl, rSlL, tNoPart, tPart, scal_int, scal_bl, sl0, sl1, sl2, sl3, sl4, cxK, L2.start, tAug, ipI, List.getElem?_cons_zero, List.getElem?_cons_succ, Option.some.injEq, V.int.injEq, V.ref.injEq, V.bl.injEq, HO.ins.injEq, HO.lst.injEq, exists_eq_left', exists_eq_left, exists_and_left, exists_and_right, and_assoc, List.map_cons, List.map_nil, List.cons_append, List.nil_append, List.append_nil, List.set_cons_zero, List.set_cons_succ, decide_eq_true_eq, true_and, and_true, List.length_cons, List.length_nil, Nat.reduceAdd, Nat.reduceSub, List.replicate_succ, List.replicate_zero, Bool.not_eq_true', decide_eq_false_iff_not, reduceCtorEq, Bool.false_eq_true, if_true, if_false, List.cons.injEq, T.cl_Night, T.cl_Watch, T.na_Night_depth, T.na_Night_depths, T.na_Night_plan, T.na_Night_worked, T.na_Night_call_outs, T.na_Night_in_row, T.na_Night_rested, T.na_Watch_deep, T.na_Watch_clears, T.na_Watch_may_lie, T.na_Watch_most_in_row, T.na_Watch_least_rest, T.na_Watch_hour_costs, T.na_Watch_call_costs, T.na_Watch_falls, nightF_lt, watchF_lt, nightF_get_depth, nightF_put_depth, nightF_get_depths, nightF_put_depths, nightF_get_plan, nightF_put_plan, nightF_get_worked, nightF_put_worked, nightF_get_call_outs, nightF_put_call_outs, nightF_get_in_row, nightF_put_in_row, nightF_get_rested, nightF_put_rested, nightF_no_copied, nightF_no_works, nightF_no_rests, nightF_no_lies, nightF_no_deepest, watchF_get_deep, watchF_put_deep, watchF_get_clears, watchF_put_clears, watchF_get_may_lie, watchF_put_may_lie, watchF_get_most_in_row, watchF_put_most_in_row, watchF_get_least_rest, watchF_put_least_rest, watchF_get_hour_costs, watchF_put_hour_costs, watchF_get_call_costs, watchF_put_call_costs, watchF_get_falls, watchF_put_falls, watchF_no_start_over, watchF_no_begins, watchF_no_crew, watchF_no_snow, watchF_no_check, watchF_no_cheapest, watchF_no_fewest, watchF_no_shallow, watchF_no_nights_that_can_be, watchF_no_nights_of_crew, watchF_no_is_plan, watchF_no_pass_hour, watchF_no_wrong_with_work, watchF_no_cost, upd_ne bd2, hb, upd_ne ab, upd_ne ad2, hn1, upd_same, upd_upd]
    refine ⟨_, .inl (SqL.of (by rw [upd_ne pb, upd_ne pd2]; exact s1 _ _ hp)), fun p2 hp2 => ?_⟩
    obtain ⟨bp2, hp3⟩ := upd_none hp2
    obtain ⟨dp2, hp4⟩ := upd_none hp3
    have np2 : H p2 = none := s1.free hp4
    have ap2 : a ≠ p2 := ne_new hn np2
    simp only [tSeq, gTup, gCons, gNil, tIfS, tRet, tRetN, tNext, tDrop, tAsg, gName, tTest, tB, tOp, tUn, tVar, tC, tChain, rI0, rI, rU, rEq, rNe, tAnd, tOr, tNot, tAndV, tOrV, tNotV, tIf, tFld, sFld, sFldAug, rAdd, rSub, tCall, tMeth, tMake, tNil, tCons, tLst, tTup, tCB, tBM, tBM0, rAppend, rExtend, rCat, rIxL, rIxT, tSl, rSlL, tNoPart, tPart, scal_int, scal_bl, sl0, sl1, sl2, sl3, sl4, cxK, L2.start, tAug, ipI, List.getElem?_cons_zero, List.getElem?_cons_succ, Option.some.injEq, V.int.injEq, V.ref.injEq, V.bl.injEq, HO.ins.injEq, HO.lst.injEq, exists_eq_left', exists_eq_left, exists_and_left, exists_and_right, and_assoc, List.map_cons, List.map_nil, List.cons_append, List.nil_append, List.append_nil, List.set_cons_zero, List.set_cons_succ, decide_eq_true_eq, true_and, and_true, List.length_cons, List.length_nil, Nat.reduceAdd, Nat.reduceSub, List.replicate_succ, List.replicate_zero, Bool.not_eq_true', decide_eq_false_iff_not, reduceCtorEq, Bool.false_eq_true, if_true, if_false, List.cons.injEq, T.cl_Night, T.cl_Watch, T.na_Night_depth, T.na_Night_depths, T.na_Night_plan, T.na_Night_worked, T.na_Night_call_outs, T.na_Night_in_row, T.na_Night_rested, T.na_Watch_deep, T.na_Watch_clears, T.na_Watch_may_lie, T.na_Watch_most_in_row, T.na_Watch_least_rest, T.na_Watch_hour_costs, T.na_Watch_call_costs, T.na_Watch_falls, nightF_lt, watchF_lt, nightF_get_depth, nightF_put_depth, nightF_get_depths, nightF_put_depths, nightF_get_plan, nightF_put_plan, nightF_get_worked, nightF_put_worked, nightF_get_call_outs, nightF_put_call_outs, nightF_get_in_row, nightF_put_in_row, nightF_get_rested, nightF_put_rested, nightF_no_copied, nightF_no_works, nightF_no_rests, nightF_no_lies, nightF_no_deepest, watchF_get_deep, watchF_put_deep, watchF_get_clears, watchF_put_clears, watchF_get_may_lie, watchF_put_may_lie, watchF_get_most_in_row, watchF_put_most_in_row, watchF_get_least_rest, watchF_put_least_rest, watchF_get_hour_costs, watchF_put_hour_costs, watchF_get_call_costs, watchF_put_call_costs, watchF_get_falls, watchF_put_falls, watchF_no_start_over, watchF_no_begins, watchF_no_crew, watchF_no_snow, watchF_no_check, watchF_no_cheapest, watchF_no_fewest, watchF_no_shallow, watchF_no_nights_that_can_be, watchF_no_nights_of_crew, watchF_no_is_plan, watchF_no_pass_hour, watchF_no_wrong_with_work, watchF_no_cost, upd_ne (Ne.symm bp2), upd_ne bd2, hb, upd_ne ab, upd_ne ad2, upd_ne ap2, hn1, upd_same, upd_upd]
    refine k _ b d2 p2 nb nd2 np2 ⟨⟨dy, ?_⟩, ?_, ?_, Ne.symm dp2⟩ ?_
    · rw [upd_same]; rfl
    · rw [upd_ne (Ne.symm bd2), upd_ne (Ne.symm dp2), upd_ne (Ne.symm bd2), upd_same]
    · rw [upd_ne bp2, upd_same]
    · exact Same.upd (Same.upd (Same.upd (Same.upd s1 nd2) nb) np2) nb
def sp_Night_deepest (K : PySem.W.Frag) (x : Adr) : Sp := fun vs H Q _ => ∃ (a dl pl : Addr) (n : NS), vs = [.ref a] ∧ NightAt x H a dl pl n ∧ n.depths.length < 1000 ∧ ∀ H' : Hp, Same H H' → Q (.int (most0 n.depths)) H'
theorem ok_Night_deepest (T : Txt K mg x) : FnOk P w K mg base CX0 1 x.f_Night_deepest x.fd_Night_deepest ["self"] (sp_Night_deepest K x) := by
  have nd := sc_Night_deepest.nd
  refine T.F_Night_deepest.ok sc_Night_deepest (fun vs H Q E h => ?_) (fun cdv A outer s H vs Q E hr h => ?_)
  · obtain ⟨a, dl, pl, n, rfl, _⟩ := h
    rfl
  · obtain ⟨a, dl, pl, n, rfl, hn, hlen, k⟩ := h
    obtain ⟨⟨dx, hn⟩, hl, hp, two⟩ := hn
    refine ⟨_, (pss_one (ps_ret (pe_callB (cr_max rfl) (by rfl) T.bl_max boot_max (pa_cons (pe_op op_cat (pe_lst (pa_cons pe_int pa_nil)) (pe_fld (pv 0) rfl)) pa_nil)))), ?_⟩
    simp only [tSeq, gTup, gCons, gNil, tIfS, tRet, tRetN, tNext, tDrop, tAsg, gName, tTest, tB, tOp, tUn, tVar, tC, tChain, rI0, rI, rU, rEq, rNe, tAnd, tOr, tNot, tAndV, tOrV, tNotV, tIf, tFld, sFld, sFldAug, rAdd, rSub, tCall, tMeth, tMake, tNil, tCons, tLst, tTup, tCB, tBM, tBM0, rAppend, rExtend, rCat, rIxL, rIxT, tSl, rSlL, tNoPart, tPart, scal_int, scal_bl, sl0, sl1, sl2, sl3, sl4, cxK, L2.start, tAug, ipI, List.getElem?_cons_zero, List.getElem?_cons_succ, Option.some.injEq, V.int.injEq, V.ref.injEq, V.bl.injEq, HO.ins.injEq, HO.lst.injEq, exists_eq_left', exists_eq_left, exists_and_left, exists_and_right, and_assoc, List.map_cons, List.map_nil, List.cons_append, List.nil_append, List.append_nil, List.set_cons_zero, List.set_cons_succ, decide_eq_true_eq, true_and, and_true, List.length_cons, List.length_nil, Nat.reduceAdd, Nat.reduceSub, List.replicate_succ, List.replicate_zero, Bool.not_eq_true', decide_eq_false_iff_not, reduceCtorEq, Bool.false_eq_true, if_true, if_false, List.cons.injEq, T.cl_Night, T.cl_Watch, T.na_Night_depth, T.na_Night_depths, T.na_Night_plan, T.na_Night_worked, T.na_Night_call_outs, T.na_Night_in_row, T.na_Night_rested, T.na_Watch_deep, T.na_Watch_clears, T.na_Watch_may_lie, T.na_Watch_most_in_row, T.na_Watch_least_rest, T.na_Watch_hour_costs, T.na_Watch_call_costs, T.na_Watch_falls, nightF_lt, watchF_lt, nightF_get_depth, nightF_put_depth, nightF_get_depths, nightF_put_depths, nightF_get_plan, nightF_put_plan, nightF_get_worked, nightF_put_worked, nightF_get_call_outs, nightF_put_call_outs, nightF_get_in_row, nightF_put_in_row, nightF_get_rested, nightF_put_rested, nightF_no_copied, nightF_no_works, nightF_no_rests, nightF_no_lies, nightF_no_deepest, watchF_get_deep, watchF_put_deep, watchF_get_clears, watchF_put_clears, watchF_get_may_lie, watchF_put_may_lie, watchF_get_most_in_row, watchF_put_most_in_row, watchF_get_least_rest, watchF_put_least_rest, watchF_get_hour_costs, watchF_put_hour_costs, watchF_get_call_costs, watchF_put_call_costs, watchF_get_falls, watchF_put_falls, watchF_no_start_over, watchF_no_begins, watchF_no_crew, watchF_no_snow, watchF_no_check, watchF_no_cheapest, watchF_no_fewest, watchF_no_shallow, watchF_no_nights_that_can_be, watchF_no_nights_of_crew, watchF_no_is_plan, watchF_no_pass_hour, watchF_no_wrong_with_work, watchF_no_cost, hn, hp, hl, upd_same, upd_upd]
    intro p hp1
    have s1 : Same H (upd H p (.lst [V.int 0])) := same_upd hp1
    simp only [tSeq, gTup, gCons, gNil, tIfS, tRet, tRetN, tNext, tDrop, tAsg, gName, tTest, tB, tOp, tUn, tVar, tC, tChain, rI0, rI, rU, rEq, rNe, tAnd, tOr, tNot, tAndV, tOrV, tNotV, tIf, tFld, sFld, sFldAug, rAdd, rSub, tCall, tMeth, tMake, tNil, tCons, tLst, tTup, tCB, tBM, tBM0, rAppend, rExtend, rCat, rIxL, rIxT, tSl, rSlL, tNoPart, tPart, scal_int, scal_bl, sl0, sl1, sl2, sl3, sl4, cxK, L2.start, tAug, ipI, List.getElem?_cons_zero, List.getElem?_cons_succ, Option.some.injEq, V.int.injEq, V.ref.injEq, V.bl.injEq, HO.ins.injEq, HO.lst.injEq, exists_eq_left', exists_eq_left, exists_and_left, exists_and_right, and_assoc, List.map_cons, List.map_nil, List.cons_append, List.nil_append, List.append_nil, List.set_cons_zero, List.set_cons_succ, decide_eq_true_eq, true_and, and_true, List.length_cons, List.length_nil, Nat.reduceAdd, Nat.reduceSub, List.replicate_succ, List.replicate_zero, Bool.not_eq_true', decide_eq_false_iff_not, reduceCtorEq, Bool.false_eq_true, if_true, if_false, List.cons.injEq, T.cl_Night, T.cl_Watch, T.na_Night_depth, T.na_Night_depths, T.na_Night_plan, T.na_Night_worked, T.na_Night_call_outs, T.na_Night_in_row, T.na_Night_rested, T.na_Watch_deep, T.na_Watch_clears, T.na_Watch_may_lie, T.na_Watch_most_in_row, T.na_Watch_least_rest, T.na_Watch_hour_costs, T.na_Watch_call_costs, T.na_Watch_falls, nightF_lt, watchF_lt, nightF_get_depth, nightF_put_depth, nightF_get_depths, nightF_put_depths, nightF_get_plan, nightF_put_plan, nightF_get_worked, nightF_put_worked, nightF_get_call_outs, nightF_put_call_outs, nightF_get_in_row, nightF_put_in_row, nightF_get_rested, nightF_put_rested, nightF_no_copied, nightF_no_works, nightF_no_rests, nightF_no_lies, nightF_no_deepest, watchF_get_deep, watchF_put_deep, watchF_get_clears, watchF_put_clears, watchF_get_may_lie, watchF_put_may_lie, watchF_get_most_in_row, watchF_put_most_in_row, watchF_get_least_rest, watchF_put_least_rest, watchF_get_hour_costs, watchF_put_hour_costs, watchF_get_call_costs, watchF_put_call_costs, watchF_get_falls, watchF_put_falls, watchF_no_start_over, watchF_no_begins, watchF_no_crew, watchF_no_snow, watchF_no_check, watchF_no_cheapest, watchF_no_fewest, watchF_no_shallow, watchF_no_nights_that_can_be, watchF_no_nights_of_crew, watchF_no_is_plan, watchF_no_pass_hour, watchF_no_wrong_with_work, watchF_no_cost, s1 _ _ hn, upd_same]
    have big : (1048576 : Nat) ≤ sizeLine := by decide
    refine ⟨_, s1 _ _ hl, by rw [List.length_map]; omega, fun q hq => ⟨q, 0 :: n.depths, rfl, SqL.of upd_same, Nat.succ_pos _, fun m h1 h2 => ?_⟩⟩
    rw [most0_is h1 h2]
    exact k _ (Same.upd s1 (Same.free s1 hq))
end
end Snow

set_option Elab.async false
set_option linter.all false
set_option maxRecDepth 100000
set_option maxHeartbeats 2000000
namespace Snow
open PySem PySem.Spec PyProof.Rows L2
section
variable {P : Program} {w : World} {K : PySem.W.Frag} {mg : Str → Option Value} {base : Heap} {x : Adr}
def WS.fresh (d c m : Int) : WS := ⟨d, c, m, 1, 1, 0, 0, []⟩
def sp_Watch_start_over (K : PySem.W.Frag) (x : Adr) : Sp := fun vs H Q _ => ∃ (a dx : Addr) (fs : List (Str × V)) (d c m : Int), vs = [.ref a, .int d, .int c, .int m] ∧ H a = some (.ins x.c_Watch dx fs) ∧ (fs = [] ∨ ∃ w fl, fs = watchF w fl) ∧
  ∀ (H' : Hp) (fl : Addr), H fl = none → WatchAt x H' a fl (WS.fresh d c m) → Keep [a] H H' → Q .non H'
theorem ok_Watch_start_over (T : Txt K mg x) : FnOk P w K mg base CX0 1 x.f_Watch_start_over x.fd_Watch_start_over ["self", "deep", "clears", "may_lie"] (sp_Watch_start_over K x) := by
  have nd := sc_Watch_start_over.nd
  refine T.F_Watch_start_over.ok sc_Watch_start_over (fun vs H Q E h => ?_) (fun cdv A outer s H vs Q E hr h => ?_)
  · obtain ⟨a, dx, fs, d, c, m, rfl, _⟩ := h
    rfl
  · obtain ⟨a, dx, fs, d, c, m, rfl, hn, hfs, k⟩ := h
    refine ⟨_, (pss_cons (ps_fld (pv 0) (pv 1) rfl)
      (pss_cons (ps_fld (pv 0) (pv 2) rfl)
      (pss_cons (ps_fld (pv 0) (pv 3) rfl)
      (pss_cons (ps_fld (pv 0) pe_int rfl)
      (pss_cons (ps_fld (pv 0) pe_int rfl)
      (pss_cons (ps_fld (pv 0) pe_int rfl)
      (pss_cons (ps_fld (pv 0) pe_int rfl)
      (pss_one (ps_fld (pv 0) (pe_lst pa_nil) rfl))))))))), ?_⟩
    rcases hfs with rfl | ⟨w, fl0, rfl⟩
    · simp only [tSeq, gTup, gCons, gNil, tIfS, tRet, tRetN, tNext, tDrop, tAsg, gName, tTest, tB, tOp, tUn, tVar, tC, tChain, rI0, rI, rU, rEq, rNe, tAnd, tOr, tNot, tAndV, tOrV, tNotV, tIf, tFld, sFld, sFldAug, rAdd, rSub, tCall, tMeth, tMake, tNil, tCons, tLst, tTup, tCB, tBM, tBM0, rAppend, rExtend, rCat, rIxL, rIxT, tSl, rSlL, tNoPart, tPart, scal_int, scal_bl, sl0, sl1, sl2, sl3, sl4, cxK, L2.start, tAug, ipI, List.getElem?_cons_zero, List.getElem?_cons_succ, Option.some.injEq, V.int.injEq, V.ref.injEq, V.bl.injEq, HO.ins.injEq, HO.lst.injEq, exists_eq_left', exists_eq_left, exists_and_left, exists_and_right, and_assoc, List.map_cons, List.map_nil, List.cons_append, List.nil_append, List.append_nil, List.set_cons_zero, List.set_cons_succ, decide_eq_true_eq, true_and, and_true, List.length_cons, List.length_nil, Nat.reduceAdd, Nat.reduceSub, List.replicate_succ, List.replicate_zero, Bool.not_eq_true', decide_eq_false_iff_not, reduceCtorEq, Bool.false_eq_true, if_true, if_false, List.cons.injEq, T.cl_Night, T.cl_Watch, T.na_Night_depth, T.na_Night_depths, T.na_Night_plan, T.na_Night_worked, T.na_Night_call_outs, T.na_Night_in_row, T.na_Night_rested, T.na_Watch_deep, T.na_Watch_clears, T.na_Watch_may_lie, T.na_Watch_most_in_row, T.na_Watch_least_rest, T.na_Watch_hour_costs, T.na_Watch_call_costs, T.na_Watch_falls, nightF_lt, watchF_lt, nightF_get_depth, nightF_put_depth, nightF_get_depths, nightF_put_depths, nightF_get_plan, nightF_put_plan, nightF_get_worked, nightF_put_worked, nightF_get_call_outs, nightF_put_call_outs, nightF_get_in_row, nightF_put_in_row, nightF_get_rested, nightF_put_rested, nightF_no_copied, nightF_no_works, nightF_no_rests, nightF_no_lies, nightF_no_deepest, watchF_get_deep, watchF_put_deep, watchF_get_clears, watchF_put_clears, watchF_get_may_lie, watchF_put_may_lie, watchF_get_most_in_row, watchF_put_most_in_row, watchF_get_least_rest, watchF_put_least_rest, watchF_get_hour_costs, watchF_put_hour_costs, watchF_get_call_costs, watchF_put_call_costs, watchF_get_falls, watchF_put_falls, watchF_no_start_over, watchF_no_begins, watchF_no_crew, watchF_no_snow, watchF_no_check, watchF_no_cheapest, watchF_no_fewest, watchF_no_shallow, watchF_no_nights_that_can_be, watchF_no_nights_of_crew, watchF_no_is_plan, watchF_no_pass_hour, watchF_no_wrong_with_work, watchF_no_cost, nightF_ini_depth, nightF_ini_depths, nightF_ini_plan, nightF_ini_worked, nightF_ini_call_outs, nightF_ini_in_row, nightF_ini_rested, watchF_ini_deep, watchF_ini_clears, watchF_ini_may_lie, watchF_ini_most_in_row, watchF_ini_least_rest, watchF_ini_hour_costs, watchF_ini_call_costs, watchF_ini_falls, Nat.reduceLT, hn, upd_same, upd_upd]
      refine fun fl hfl => ?_
      have ne : a ≠ fl := fun q => by
        rw [q, upd] at hfl
        simp at hfl
      have hfl' : H fl = none := by
        rw [upd_ne (Ne.symm ne)] at hfl; exact hfl
      simp only [tSeq, gTup, gCons, gNil, tIfS, tRet, tRetN, tNext, tDrop, tAsg, gName, tTest, tB, tOp, tUn, tVar, tC, tChain, rI0, rI, rU, rEq, rNe, tAnd, tOr, tNot, tAndV, tOrV, tNotV, tIf, tFld, sFld, sFldAug, rAdd, rSub, tCall, tMeth, tMake, tNil, tCons, tLst, tTup, tCB, tBM, tBM0, rAppend, rExtend, rCat, rIxL, rIxT, tSl, rSlL, tNoPart, tPart, scal_int, scal_bl, sl0, sl1, sl2, sl3, sl4, cxK, L2.start, tAug, ipI, List.getElem?_cons_zero, List.getElem?_cons_succ, Option.some.injEq, V.int.injEq, V.ref.injEq, V.bl.injEq, HO.ins.injEq, HO.lst.injEq, exists_eq_left', exists_eq_left, exists_and_left, exists_and_right, and_assoc, List.map_cons, List.map_nil, List.cons_append, List.nil_append, List.append_nil, List.set_cons_zero, List.set_cons_succ, decide_eq_true_eq, true_and, and_true, List.length_cons, List.length_nil, Nat.reduceAdd, Nat.reduceSub, List.replicate_succ, List.replicate_zero, Bool.not_eq_true', decide_eq_false_iff_not, reduceCtorEq, Bool.false_eq_true, if_true, if_false, List.cons.injEq, T.cl_Night, T.cl_Watch, T.na_Night_depth, T.na_Night_depths, T.na_Night_plan, T.na_Night_worked, T.na_Night_call_outs, T.na_Night_in_row, T.na_Night_rested, T.na_Watch_deep, T.na_Watch_clears, T.na_Watch_may_lie, T.na_Watch_most_in_row, T.na_Watch_least_rest, T.na_Watch_hour_costs, T.na_Watch_call_costs, T.na_Watch_falls, nightF_lt, watchF_lt, nightF_get_depth, nightF_put_depth, nightF_get_depths, nightF_put_depths, nightF_get_plan, nightF_put_plan, nightF_get_worked, nightF_put_worked, nightF_get_call_outs, nightF_put_call_outs, nightF_get_in_row, nightF_put_in_row, nightF_get_rested, nightF_put_rested, nightF_no_copied, nightF_no_works, nightF_no_rests, nightF_no_lies, nightF_no_deepest, watchF_get_deep, watchF_put_deep, watchF_get_clears, watchF_put_clears, watchF_get_may_lie, watchF_put_may_lie, watchF_get_most_in_row, watchF_put_most_in_row, watchF_get_least_rest, watchF_put_least_rest, watchF_get_hour_costs, watchF_put_hour_costs, watchF_get_call_costs, watchF_put_call_costs, watchF_get_falls, watchF_put_falls, watchF_no_start_over, watchF_no_begins, watchF_no_crew, watchF_no_snow, watchF_no_check, watchF_no_cheapest, watchF_no_fewest, watchF_no_shallow, watchF_no_nights_that_can_be, watchF_no_nights_of_crew, watchF_no_is_plan, watchF_no_pass_hour, watchF_no_wrong_with_work, watchF_no_cost, nightF_ini_depth, nightF_ini_depths, nightF_ini_plan, nightF_ini_worked, nightF_ini_call_outs, nightF_ini_in_row, nightF_ini_rested, watchF_ini_deep, watchF_ini_clears, watchF_ini_may_lie, watchF_ini_most_in_row, watchF_ini_least_rest, watchF_ini_hour_costs, watchF_ini_call_costs, watchF_ini_falls, Nat.reduceLT, upd_ne ne, upd_same, upd_upd]
      refine k _ fl hfl' ⟨⟨dx, upd_same⟩, ?_⟩ ?_
      · rw [upd_ne (Ne.symm ne), upd_same]; rfl
      · exact Keep.then1 (Keep.then1 (Keep.upd1 (.inl (by simp))) (.inr hfl')) (.inl (by simp))
    · simp only [tSeq, gTup, gCons, gNil, tIfS, tRet, tRetN, tNext, tDrop, tAsg, gName, tTest, tB, tOp, tUn, tVar, tC, tChain, rI0, rI, rU, rEq, rNe, tAnd, tOr, tNot, tAndV, tOrV, tNotV, tIf, tFld, sFld, sFldAug, rAdd, rSub, tCall, tMeth, tMake, tNil, tCons, tLst, tTup, tCB, tBM, tBM0, rAppend, rExtend, rCat, rIxL, rIxT, tSl, rSlL, tNoPart, tPart, scal_int, scal_bl, sl0, sl1, sl2, sl3, sl4, cxK, L2.start, tAug, ipI, List.getElem?_cons_zero, List.getElem?_cons_succ, Option.some.injEq, V.int.injEq, V.ref.injEq, V.bl.injEq, HO.ins.injEq, HO.lst.injEq, exists_eq_left', exists_eq_left, exists_and_left, exists_and_right, and_assoc, List.map_cons, List.map_nil, List.cons_append, List.nil_append, List.append_nil, List.set_cons_zero, List.set_cons_succ, decide_eq_true_eq, true_and, and_true, List.length_cons, List.length_nil, Nat.reduceAdd, Nat.reduceSub, List.replicate_succ, List.replicate_zero, Bool.not_eq_true', decide_eq_false_iff_not, reduceCtorEq, Bool.false_eq_true, if_true, if_false, List.cons.injEq, T.cl_Night, T.cl_Watch, T.na_Night_depth, T.na_Night_depths, T.na_Night_plan, T.na_Night_worked, T.na_Night_call_outs, T.na_Night_in_row, T.na_Night_rested, T.na_Watch_deep, T.na_Watch_clears, T.na_Watch_may_lie, T.na_Watch_most_in_row, T.na_Watch_least_rest, T.na_Watch_hour_costs, T.na_Watch_call_costs, T.na_Watch_falls, nightF_lt, watchF_lt, nightF_get_depth, nightF_put_depth, nightF_get_depths, nightF_put_depths, nightF_get_plan, nightF_put_plan, nightF_get_worked, nightF_put_worked, nightF_get_call_outs, nightF_put_call_outs, nightF_get_in_row, nightF_put_in_row, nightF_get_rested, nightF_put_rested, nightF_no_copied, nightF_no_works, nightF_no_rests, nightF_no_lies, nightF_no_deepest, watchF_get_deep, watchF_put_deep, watchF_get_clears, watchF_put_clears, watchF_get_may_lie, watchF_put_may_lie, watchF_get_most_in_row, watchF_put_most_in_row, watchF_get_least_rest, watchF_put_least_rest, watchF_get_hour_costs, watchF_put_hour_costs, watchF_get_call_costs, watchF_put_call_costs, watchF_get_falls, watchF_put_falls, watchF_no_start_over, watchF_no_begins, watchF_no_crew, watchF_no_snow, watchF_no_check, watchF_no_cheapest, watchF_no_fewest, watchF_no_shallow, watchF_no_nights_that_can_be, watchF_no_nights_of_crew, watchF_no_is_plan, watchF_no_pass_hour, watchF_no_wrong_with_work, watchF_no_cost, nightF_ini_depth, nightF_ini_depths, nightF_ini_plan, nightF_ini_worked, nightF_ini_call_outs, nightF_ini_in_row, nightF_ini_rested, watchF_ini_deep, watchF_ini_clears, watchF_ini_may_lie, watchF_ini_most_in_row, watchF_ini_least_rest, watchF_ini_hour_costs, watchF_ini_call_costs, watchF_ini_falls, Nat.reduceLT, hn, upd_same, upd_upd]
      refine fun fl hfl => ?_
      have ne : a ≠ fl := fun q => by
        rw [q, upd] at hfl
        simp at hfl
      have hfl' : H fl = none := by
        rw [upd_ne (Ne.symm ne)] at hfl; exact hfl
      simp only [tSeq, gTup, gCons, gNil, tIfS, tRet, tRetN, tNext, tDrop, tAsg, gName, tTest, tB, tOp, tUn, tVar, tC, tChain, rI0, rI, rU, rEq, rNe, tAnd, tOr, tNot, tAndV, tOrV, tNotV, tIf, tFld, sFld, sFldAug, rAdd, rSub, tCall, tMeth, tMake, tNil, tCons, tLst, tTup, tCB, tBM, tBM0, rAppend, rExtend, rCat, rIxL, rIxT, tSl, rSlL, tNoPart, tPart, scal_int, scal_bl, sl0, sl1, sl2, sl3, sl4, cxK, L2.start, tAug, ipI, List.getElem?_cons_zero, List.getElem?_cons_succ, Option.some.injEq, V.int.injEq, V.ref.injEq, V.bl.injEq, HO.ins.injEq, HO.lst.injEq, exists_eq_left', exists_eq_left, exists_and_left, exists_and_right, and_assoc, List.map_cons, List.map_nil, List.cons_append, List.nil_append, List.append_nil, List.set_cons_zero, List.set_cons_succ, decide_eq_true_eq, true_and, and_true, List.length_cons, List.length_nil, Nat.reduceAdd, Nat.reduceSub, List.replicate_succ, List.replicate_zero, Bool.not_eq_true', decide_eq_false_iff_not, reduceCtorEq, Bool.false_eq_true, if_true, if_false, List.cons.injEq, T.cl_Night, T.cl_Watch, T.na_Night_depth, T.na_Night_depths, T.na_Night_plan, T.na_Night_worked, T.na_Night_call_outs, T.na_Night_in_row, T.na_Night_rested, T.na_Watch_deep, T.na_Watch_clears, T.na_Watch_may_lie, T.na_Watch_most_in_row, T.na_Watch_least_rest, T.na_Watch_hour_costs, T.na_Watch_call_costs, T.na_Watch_falls, nightF_lt, watchF_lt, nightF_get_depth, nightF_put_depth, nightF_get_depths, nightF_put_depths, nightF_get_plan, nightF_put_plan, nightF_get_worked, nightF_put_worked, nightF_get_call_outs, nightF_put_call_outs, nightF_get_in_row, nightF_put_in_row, nightF_get_rested, nightF_put_rested, nightF_no_copied, nightF_no_works, nightF_no_rests, nightF_no_lies, nightF_no_deepest, watchF_get_deep, watchF_put_deep, watchF_get_clears, watchF_put_clears, watchF_get_may_lie, watchF_put_may_lie, watchF_get_most_in_row, watchF_put_most_in_row, watchF_get_least_rest, watchF_put_least_rest, watchF_get_hour_costs, watchF_put_hour_costs, watchF_get_call_costs, watchF_put_call_costs, watchF_get_falls, watchF_put_falls, watchF_no_start_over, watchF_no_begins, watchF_no_crew, watchF_no_snow, watchF_no_check, watchF_no_cheapest, watchF_no_fewest, watchF_no_shallow, watchF_no_nights_that_can_be, watchF_no_nights_of_crew, watchF_no_is_plan, watchF_no_pass_hour, watchF_no_wrong_with_work, watchF_no_cost, nightF_ini_depth, nightF_ini_depths, nightF_ini_plan, nightF_ini_worked, nightF_ini_call_outs, nightF_ini_in_row, nightF_ini_rested, watchF_ini_deep, watchF_ini_clears, watchF_ini_may_lie, watchF_ini_most_in_row, watchF_ini_least_rest, watchF_ini_hour_costs, watchF_ini_call_costs, watchF_ini_falls, Nat.reduceLT, upd_ne ne, upd_same, upd_upd]
      refine k _ fl hfl' ⟨⟨dx, upd_same⟩, ?_⟩ ?_
      · rw [upd_ne (Ne.symm ne), upd_same]; rfl
      · exact Keep.then1 (Keep.then1 (Keep.upd1 (.inl (by simp))) (.inr hfl')) (.inl (by simp))
def sp_Watch___init__ (K : PySem.W.Frag) (x : Adr) : Sp := fun vs H Q _ => ∃ (a dx : Addr), vs = [.ref a] ∧ H a = some (.ins x.c_Watch dx []) ∧ ∀ (H' : Hp) (fl : Addr), H fl = none → WatchAt x H' a fl (WS.fresh 0 1 0) → Keep [a] H H' → Q .non H'
theorem ok_Watch___init__ (T : Txt K mg x) : FnOk P w K mg base CX0 2 x.f_Watch___init__ x.fd_Watch___init__ ["self"] (sp_Watch___init__ K x) := by
  have G_Watch_start_over := ok_Watch_start_over (P := P) (w := w) (base := base) T
  have nd := sc_Watch___init__.nd
  refine T.F_Watch___init__.ok sc_Watch___init__ (fun vs H Q E h => ?_) (fun cdv A outer s H vs Q E hr h => ?_)
  · obtain ⟨a, dx, rfl, _⟩ := h
    rfl
  · obtain ⟨a, dx, rfl, hn, k⟩ := h
    refine ⟨_, (pss_one (ps_expr (pe_meth (pv 0) T.cl_Watch T.mt_Watch_start_over G_Watch_start_over (hr.mono (by decide)) T.b_Watch_start_over .nil pass0 (pa_cons pe_int (pa_cons pe_int (pa_cons pe_int pa_nil)))))), ?_⟩
    simp only [tSeq, gTup, gCons, gNil, tIfS, tRet, tRetN, tNext, tDrop, tAsg, gName, tTest, tB, tOp, tUn, tVar, tC, tChain, rI0, rI, rU, rEq, rNe, tAnd, tOr, tNot, tAndV, tOrV, tNotV, tIf, tFld, sFld, sFldAug, rAdd, rSub, tCall, tMeth, tMake, tNil, tCons, tLst, tTup, tCB, tBM, tBM0, rAppend, rExtend, rCat, rIxL, rIxT, tSl, rSlL, tNoPart, tPart, scal_int, scal_bl, sl0, sl1, sl2, sl3, sl4, cxK, L2.start, tAug, ipI, List.getElem?_cons_zero, List.getElem?_cons_succ, Option.some.injEq, V.int.injEq, V.ref.injEq, V.bl.injEq, HO.ins.injEq, HO.lst.injEq, exists_eq_left', exists_eq_left, exists_and_left, exists_and_right, and_assoc, List.map_cons, List.map_nil, List.cons_append, List.nil_append, List.append_nil, List.set_cons_zero, List.set_cons_succ, decide_eq_true_eq, true_and, and_true, List.length_cons, List.length_nil, Nat.reduceAdd, Nat.reduceSub, List.replicate_succ, List.replicate_zero, Bool.not_eq_true', decide_eq_false_iff_not, reduceCtorEq, Bool.false_eq_true, if_true, if_false, List.cons.injEq, T.cl_Night, T.cl_Watch, T.na_Night_depth, T.na_Night_depths, T.na_Night_plan, T.na_Night_worked, T.na_Night_call_outs, T.na_Night_in_row, T.na_Night_rested, T.na_Watch_deep, T.na_Watch_clears, T.na_Watch_may_lie, T.na_Watch_most_in_row, T.na_Watch_least_rest, T.na_Watch_hour_costs, T.na_Watch_call_costs, T.na_Watch_falls, nightF_lt, watchF_lt, nightF_get_depth, nightF_put_depth, nightF_get_depths, nightF_put_depths, nightF_get_plan, nightF_put_plan, nightF_get_worked, nightF_put_worked, nightF_get_call_outs, nightF_put_call_outs, nightF_get_in_row, nightF_put_in_row, nightF_get_rested, nightF_put_rested, nightF_no_copied, nightF_no_works, nightF_no_rests, nightF_no_lies, nightF_no_deepest, watchF_get_deep, watchF_put_deep, watchF_get_clears, watchF_put_clears, watchF_get_may_lie, watchF_put_may_lie, watchF_get_most_in_row, watchF_put_most_in_row, watchF_get_least_rest, watchF_put_least_rest, watchF_get_hour_costs, watchF_put_hour_costs, watchF_get_call_costs, watchF_put_call_costs, watchF_get_falls, watchF_put_falls, watchF_no_start_over, watchF_no_begins, watchF_no_crew, watchF_no_snow, watchF_no_check, watchF_no_cheapest, watchF_no_fewest, watchF_no_shallow, watchF_no_nights_that_can_be, watchF_no_nights_of_crew, watchF_no_is_plan, watchF_no_pass_hour, watchF_no_wrong_with_work, watchF_no_cost, nightF_ini_depth, nightF_ini_depths, nightF_ini_plan, nightF_ini_worked, nightF_ini_call_outs, nightF_ini_in_row, nightF_ini_rested, watchF_ini_deep, watchF_ini_clears, watchF_ini_may_lie, watchF_ini_most_in_row, watchF_ini_least_rest, watchF_ini_hour_costs, watchF_ini_call_costs, watchF_ini_falls, Nat.reduceLT, hn]
    refine ⟨rfl, a, dx, [], 0, 1, 0, rfl, hn, .inl rfl, k⟩
def sp_Watch_begins (K : PySem.W.Frag) (x : Adr) : Sp := fun vs H Q _ => ∃ (a fl : Addr) (w : WS) (d c m : Int), vs = [.ref a, .int d, .int c, .int m] ∧ WatchAt x H a fl w ∧
  ∀ (H' : Hp) (fl' p : Addr), (fl' = fl ∨ H fl' = none) → WatchAt x H' a fl' (beginsH w d c m).1 → H p = none → H' p = some (.lst ((beginsH w d c m).2.map V.int)) → p ≠ fl' → Keep [a] H H' → Q (.ref p) H'
theorem ok_Watch_begins (T : Txt K mg x) : FnOk P w K mg base CX0 2 x.f_Watch_begins x.fd_Watch_begins ["self", "deep", "clears", "may_lie"] (sp_Watch_begins K x) := by
  have G_Watch_start_over := ok_Watch_start_over (P := P) (w := w) (base := base) T
  have nd := sc_Watch_begins.nd
  refine T.F_Watch_begins.ok sc_Watch_begins (fun vs H Q E h => ?_) (fun cdv A outer s H vs Q E hr h => ?_)
  · obtain ⟨a, fl, w, d, c, m, rfl, _⟩ := h
    rfl
  · obtain ⟨a, fl, w, d, c, m, rfl, hn, k⟩ := h
    have ne := hn.ne
    have hn0 := hn
    obtain ⟨⟨dx, hn⟩, hl⟩ := hn
    refine ⟨_, (pss_cons (ps_if (pt_not (PW.pt (pw_and (pt_chain op_le op_le pe_int (pv 1) (pe_gint rfl T.g_MOST_DEPTH)) (pw_and (pt_chain op_le op_le pe_int (pv 2) (pe_gint rfl T.g_MOST_DEPTH)) (pw_and1 (pt_chain op_le op_le pe_int (pv 3) (pe_gint rfl T.g_MOST_DEPTH)))))))
       (pss_one (ps_ret (pe_lst (pa_cons (pe_gint rfl T.g_NOT_AS_TOLD) pa_nil))))
       pss_nil)
      (pss_cons (ps_expr (pe_meth (pv 0) T.cl_Watch T.mt_Watch_start_over G_Watch_start_over (hr.mono (by decide)) T.b_Watch_start_over .nil pass0 (pa_cons (pv 1) (pa_cons (pv 2) (pa_cons (pv 3) pa_nil)))))
      (pss_one (ps_ret (pe_lst (pa_cons pe_int pa_nil)))))), ?_⟩
    simp only [tSeq, gTup, gCons, gNil, tIfS, tRet, tRetN, tNext, tDrop, tAsg, gName, tTest, tB, tOp, tUn, tVar, tC, tChain, rI0, rI, rU, rEq, rNe, tAnd, tOr, tNot, tAndV, tOrV, tNotV, tIf, tFld, sFld, sFldAug, rAdd, rSub, tCall, tMeth, tMake, tNil, tCons, tLst, tTup, tCB, tBM, tBM0, rAppend, rExtend, rCat, rIxL, rIxT, tSl, rSlL, tNoPart, tPart, scal_int, scal_bl, sl0, sl1, sl2, sl3, sl4, cxK, L2.start, tAug, ipI, List.getElem?_cons_zero, List.getElem?_cons_succ, Option.some.injEq, V.int.injEq, V.ref.injEq, V.bl.injEq, HO.ins.injEq, HO.lst.injEq, exists_eq_left', exists_eq_left, exists_and_left, exists_and_right, and_assoc, List.map_cons, List.map_nil, List.cons_append, List.nil_append, List.append_nil, List.set_cons_zero, List.set_cons_succ, decide_eq_true_eq, true_and, and_true, List.length_cons, List.length_nil, Nat.reduceAdd, Nat.reduceSub, List.replicate_succ, List.replicate_zero, Bool.not_eq_true', decide_eq_false_iff_not, reduceCtorEq, Bool.false_eq_true, if_true, if_false, List.cons.injEq, T.cl_Night, T.cl_Watch, T.na_Night_depth, T.na_Night_depths, T.na_Night_plan, T.na_Night_worked, T.na_Night_call_outs, T.na_Night_in_row, T.na_Night_rested, T.na_Watch_deep, T.na_Watch_clears, T.na_Watch_may_lie, T.na_Watch_most_in_row, T.na_Watch_least_rest, T.na_Watch_hour_costs, T.na_Watch_call_costs, T.na_Watch_falls, nightF_lt, watchF_lt, nightF_get_depth, nightF_put_depth, nightF_get_depths, nightF_put_depths, nightF_get_plan, nightF_put_plan, nightF_get_worked, nightF_put_worked, nightF_get_call_outs, nightF_put_call_outs, nightF_get_in_row, nightF_put_in_row, nightF_get_rested, nightF_put_rested, nightF_no_copied, nightF_no_works, nightF_no_rests, nightF_no_lies, nightF_no_deepest, watchF_get_deep, watchF_put_deep, watchF_get_clears, watchF_put_clears, watchF_get_may_lie, watchF_put_may_lie, watchF_get_most_in_row, watchF_put_most_in_row, watchF_get_least_rest, watchF_put_least_rest, watchF_get_hour_costs, watchF_put_hour_costs, watchF_get_call_costs, watchF_put_call_costs, watchF_get_falls, watchF_put_falls, watchF_no_start_over, watchF_no_begins, watchF_no_crew, watchF_no_snow, watchF_no_check, watchF_no_cheapest, watchF_no_fewest, watchF_no_shallow, watchF_no_nights_that_can_be, watchF_no_nights_of_crew, watchF_no_is_plan, watchF_no_pass_hour, watchF_no_wrong_with_work, watchF_no_cost, nightF_ini_depth, nightF_ini_depths, nightF_ini_plan, nightF_ini_worked, nightF_ini_call_outs, nightF_ini_in_row, nightF_ini_rested, watchF_ini_deep, watchF_ini_clears, watchF_ini_may_lie, watchF_ini_most_in_row, watchF_ini_least_rest, watchF_ini_hour_costs, watchF_ini_call_costs, watchF_ini_falls, Nat.reduceLT, hn]
    have no : ¬ ((0 ≤ d ∧ d ≤ 1000) ∧ (1 ≤ c ∧ c ≤ 1000) ∧ (0 ≤ m ∧ m ≤ 1000)) → ∀ p : Addr, H p = none → Q (V.ref p) (upd H p (HO.lst [V.int (-1)])) := fun hc p hp => by
      have e : beginsH w d c m = (w, [-1]) := by unfold beginsH; rw [if_neg hc]
      rw [e] at k
      exact k _ fl p (.inl rfl) (hn0.keep (L := [p]) (Keep.upd1 (.inl (by simp))) (by simp [ne_new hn hp]) (by simp [ne_new hl hp])) hp upd_same (Ne.symm (ne_new hl hp)) (Keep.upd1 (.inr hp))
    repeat' split
    all_goals first | exact no (by omega) | skip
    have e : beginsH w d c m = (WS.fresh d c m, [0]) := by unfold beginsH; rw [if_pos (by omega)]; rfl
    rw [e] at k
    refine ⟨a, dx, _, d, c, m, rfl, hn, .inr ⟨w, fl, rfl⟩, fun H1 fl' hf hw kp => ?_⟩
    intro p hp
    have hp' : H p = none := by
      cases q : H p with
      | none => rfl
      | some o =>
        by_cases e : p = a
        · subst e
          obtain ⟨⟨d1, h1⟩, _⟩ := hw
          rw [h1] at hp; cases hp
        · rw [kp p o q (by simp [e])] at hp; cases hp
    obtain ⟨⟨d1, h1⟩, h2⟩ := hw
    have w1 : WatchAt x H1 a fl' (WS.fresh d c m) := ⟨⟨d1, h1⟩, h2⟩
    exact k _ fl' p (.inr hf) (w1.keep (L := [p]) (Keep.upd1 (.inl (by simp))) (by simp [ne_new h1 hp]) (by simp [ne_new h2 hp])) hp' upd_same (Ne.symm (ne_new h2 hp)) (kp.then1 (.inr hp'))
def sp_Watch_crew (K : PySem.W.Frag) (x : Adr) : Sp := fun vs H Q _ => ∃ (a fl : Addr) (w : WS) (r s h c : Int), vs = [.ref a, .int r, .int s, .int h, .int c] ∧ WatchAt x H a fl w ∧
  ∀ (H' : Hp) (p : Addr), WatchAt x H' a fl (crewH w r s h c).1 → H p = none → H' p = some (.lst ((crewH w r s h c).2.map V.int)) → Keep [a] H H' → Q (.ref p) H'
theorem ok_Watch_crew (T : Txt K mg x) : FnOk P w K mg base CX0 1 x.f_Watch_crew x.fd_Watch_crew ["self", "in_row", "rest", "hour_costs", "call_costs"] (sp_Watch_crew K x) := by
  have nd := sc_Watch_crew.nd
  refine T.F_Watch_crew.ok sc_Watch_crew (fun vs H Q E h => ?_) (fun cdv A outer s H vs Q E hr h => ?_)
  · obtain ⟨a, fl, w, d, c, m, j, rfl, _⟩ := h
    rfl
  · obtain ⟨a, fl, w, r, s, h, c, rfl, hn, k⟩ := h
    have ne := hn.ne
    have hn0 := hn
    obtain ⟨⟨dx, hn⟩, hl⟩ := hn
    refine ⟨_, (pss_cons (ps_if (pt_not (PW.pt (pw_and (pt_chain op_le op_le pe_int (pv 1) (pe_gint rfl T.g_MOST_CREW_HOURS)) (pw_and1 (pt_chain op_le op_le pe_int (pv 2) (pe_gint rfl T.g_MOST_CREW_HOURS))))))
       (pss_one (ps_ret (pe_lst (pa_cons (pe_gint rfl T.g_NOT_AS_TOLD) pa_nil))))
       pss_nil)
      (pss_cons (ps_if (pt_not (PW.pt (pw_and (pt_chain op_le op_le pe_int (pv 3) (pe_gint rfl T.g_MOST_COST)) (pw_and1 (pt_chain op_le op_le pe_int (pv 4) (pe_gint rfl T.g_MOST_COST))))))
       (pss_one (ps_ret (pe_lst (pa_cons (pe_gint rfl T.g_NOT_AS_TOLD) pa_nil))))
       pss_nil)
      (pss_cons (ps_fld (pv 0) (pv 1) rfl)
      (pss_cons (ps_fld (pv 0) (pv 2) rfl)
      (pss_cons (ps_fld (pv 0) (pv 3) rfl)
      (pss_cons (ps_fld (pv 0) (pv 4) rfl)
      (pss_one (ps_ret (pe_lst (pa_cons pe_int pa_nil)))))))))), ?_⟩
    simp only [tSeq, gTup, gCons, gNil, tIfS, tRet, tRetN, tNext, tDrop, tAsg, gName, tTest, tB, tOp, tUn, tVar, tC, tChain, rI0, rI, rU, rEq, rNe, tAnd, tOr, tNot, tAndV, tOrV, tNotV, tIf, tFld, sFld, sFldAug, rAdd, rSub, tCall, tMeth, tMake, tNil, tCons, tLst, tTup, tCB, tBM, tBM0, rAppend, rExtend, rCat, rIxL, rIxT, tSl, rSlL, tNoPart, tPart, scal_int, scal_bl, sl0, sl1, sl2, sl3, sl4, cxK, L2.start, tAug, ipI, List.getElem?_cons_zero, List.getElem?_cons_succ, Option.some.injEq, V.int.injEq, V.ref.injEq, V.bl.injEq, HO.ins.injEq, HO.lst.injEq, exists_eq_left', exists_eq_left, exists_and_left, exists_and_right, and_assoc, List.map_cons, List.map_nil, List.cons_append, List.nil_append, List.append_nil, List.set_cons_zero, List.set_cons_succ, decide_eq_true_eq, true_and, and_true, List.length_cons, List.length_nil, Nat.reduceAdd, Nat.reduceSub, List.replicate_succ, List.replicate_zero, Bool.not_eq_true', decide_eq_false_iff_not, reduceCtorEq, Bool.false_eq_true, if_true, if_false, List.cons.injEq, T.cl_Night, T.cl_Watch, T.na_Night_depth, T.na_Night_depths, T.na_Night_plan, T.na_Night_worked, T.na_Night_call_outs, T.na_Night_in_row, T.na_Night_rested, T.na_Watch_deep, T.na_Watch_clears, T.na_Watch_may_lie, T.na_Watch_most_in_row, T.na_Watch_least_rest, T.na_Watch_hour_costs, T.na_Watch_call_costs, T.na_Watch_falls, nightF_lt, watchF_lt, nightF_get_depth, nightF_put_depth, nightF_get_depths, nightF_put_depths, nightF_get_plan, nightF_put_plan, nightF_get_worked, nightF_put_worked, nightF_get_call_outs, nightF_put_call_outs, nightF_get_in_row, nightF_put_in_row, nightF_get_rested, nightF_put_rested, nightF_no_copied, nightF_no_works, nightF_no_rests, nightF_no_lies, nightF_no_deepest, watchF_get_deep, watchF_put_deep, watchF_get_clears, watchF_put_clears, watchF_get_may_lie, watchF_put_may_lie, watchF_get_most_in_row, watchF_put_most_in_row, watchF_get_least_rest, watchF_put_least_rest, watchF_get_hour_costs, watchF_put_hour_costs, watchF_get_call_costs, watchF_put_call_costs, watchF_get_falls, watchF_put_falls, watchF_no_start_over, watchF_no_begins, watchF_no_crew, watchF_no_snow, watchF_no_check, watchF_no_cheapest, watchF_no_fewest, watchF_no_shallow, watchF_no_nights_that_can_be, watchF_no_nights_of_crew, watchF_no_is_plan, watchF_no_pass_hour, watchF_no_wrong_with_work, watchF_no_cost, nightF_ini_depth, nightF_ini_depths, nightF_ini_plan, nightF_ini_worked, nightF_ini_call_outs, nightF_ini_in_row, nightF_ini_rested, watchF_ini_deep, watchF_ini_clears, watchF_ini_may_lie, watchF_ini_most_in_row, watchF_ini_least_rest, watchF_ini_hour_costs, watchF_ini_call_costs, watchF_ini_falls, Nat.reduceLT, hn, upd_same, upd_upd]
    have no : ¬ (((1 ≤ r ∧ r ≤ 10) ∧ (1 ≤ s ∧ s ≤ 10)) ∧ (0 ≤ h ∧ h ≤ 1000) ∧ (0 ≤ c ∧ c ≤ 1000)) → ∀ p : Addr, H p = none → Q (V.ref p) (upd H p (HO.lst [V.int (-1)])) := fun hc p hp => by
      have e : crewH w r s h c = (w, [-1]) := by unfold crewH; rw [if_neg hc]
      rw [e] at k
      exact k _ p (hn0.keep (L := [p]) (Keep.upd1 (.inl (by simp))) (by simp [ne_new hn hp]) (by simp [ne_new hl hp])) hp upd_same (Keep.upd1 (.inr hp))
    repeat' split
    all_goals first | exact no (by omega) | skip
    have e : crewH w r s h c = ({ w with row := r, rest := s, hour := h, call := c }, [0]) := by unfold crewH; rw [if_pos (by omega)]
    rw [e] at k
    intro p hp
    have ap : a ≠ p := fun q => by rw [← q, upd_same] at hp; cases hp
    have hp' : H p = none := by rw [upd_ne (Ne.symm ap)] at hp; exact hp
    refine k _ p ⟨⟨dx, ?_⟩, ?_⟩ hp' upd_same ((Keep.upd1 (.inl (by simp))).then1 (.inr hp'))
    · rw [upd_ne ap, upd_same]
    · rw [upd_ne (ne_new hl hp'), upd_ne (Ne.symm ne)]; exact hl
def sp_Watch_snow (K : PySem.W.Frag) (x : Adr) : Sp := fun vs H Q _ => ∃ (a fl : Addr) (w : WS) (m : Int), vs = [.ref a, .int m] ∧ WatchAt x H a fl w ∧ w.falls.length < 1000 ∧ 
  ∀ (H' : Hp) (p : Addr), WatchAt x H' a fl (snowH w m).1 → H p = none → H' p = some (.lst ((snowH w m).2.map V.int)) → Keep [a, fl] H H' → Q (.ref p) H'
theorem ok_Watch_snow (T : Txt K mg x) : FnOk P w K mg base CX0 1 x.f_Watch_snow x.fd_Watch_snow ["self", "much"] (sp_Watch_snow K x) := by
  have nd := sc_Watch_snow.nd
  refine T.F_Watch_snow.ok sc_Watch_snow (fun vs H Q E h => ?_) (fun cdv A outer s H vs Q E hr h => ?_)
  · obtain ⟨a, fl, w, m, rfl, _⟩ := h
    rfl
  · obtain ⟨a, fl, w, m, rfl, hn, hlen, k⟩ := h
    have ne := hn.ne
    have hn0 := hn
    obtain ⟨⟨dx, hn⟩, hl⟩ := hn
    refine ⟨_, (pss_cons (ps_if (pt_not (pt_chain op_le op_le pe_int (pv 1) (pe_gint rfl T.g_MOST_FALL)))
       (pss_one (ps_ret (pe_lst (pa_cons (pe_gint rfl T.g_NOT_AS_TOLD) pa_nil))))
       pss_nil)
      (pss_cons (ps_if (pt_cmpR op_eq (pe_callB call_len_seq (by rfl) T.bl_len PySem.boot_len (pa_cons (pe_fld (pv 0) rfl) pa_nil)) (pe_gint rfl T.g_MOST_HOURS) (nomark _))
       (pss_one (ps_ret (pe_lst (pa_cons (pe_gint rfl T.g_NO_HOUR_LEFT) pa_nil))))
       pss_nil)
      (pss_cons (ps_expr (pe_bm PySem.F.plainAttrs_list PySem.F.slot_list_append PySem.F.type_list_append mt_append (pe_fld (pv 0) rfl) (pa_cons (pv 1) pa_nil)))
      (pss_one (ps_ret (pe_lst (pa_cons (pe_op op_sub (pe_callB call_len_seq (by rfl) T.bl_len PySem.boot_len (pa_cons (pe_fld (pv 0) rfl) pa_nil)) pe_int) pa_nil))))))), ?_⟩
    simp only [tSeq, gTup, gCons, gNil, tIfS, tRet, tRetN, tNext, tDrop, tAsg, gName, tTest, tB, tOp, tUn, tVar, tC, tChain, rI0, rI, rU, rEq, rNe, tAnd, tOr, tNot, tAndV, tOrV, tNotV, tIf, tFld, sFld, sFldAug, rAdd, rSub, tCall, tMeth, tMake, tNil, tCons, tLst, tTup, tCB, tBM, tBM0, rAppend, rExtend, rCat, rIxL, rIxT, tSl, rSlL, tNoPart, tPart, scal_int, scal_bl, sl0, sl1, sl2, sl3, sl4, cxK, L2.start, tAug, ipI, List.getElem?_cons_zero, List.getElem?_cons_succ, Option.some.injEq, V.int.injEq, V.ref.injEq, V.bl.injEq, HO.ins.injEq, HO.lst.injEq, exists_eq_left', exists_eq_left, exists_and_left, exists_and_right, and_assoc, List.map_cons, List.map_nil, List.cons_append, List.nil_append, List.append_nil, List.set_cons_zero, List.set_cons_succ, decide_eq_true_eq, true_and, and_true, List.length_cons, List.length_nil, Nat.reduceAdd, Nat.reduceSub, List.replicate_succ, List.replicate_zero, Bool.not_eq_true', decide_eq_false_iff_not, reduceCtorEq, Bool.false_eq_true, if_true, if_false, List.cons.injEq, T.cl_Night, T.cl_Watch, T.na_Night_depth, T.na_Night_depths, T.na_Night_plan, T.na_Night_worked, T.na_Night_call_outs, T.na_Night_in_row, T.na_Night_rested, T.na_Watch_deep, T.na_Watch_clears, T.na_Watch_may_lie, T.na_Watch_most_in_row, T.na_Watch_least_rest, T.na_Watch_hour_costs, T.na_Watch_call_costs, T.na_Watch_falls, nightF_lt, watchF_lt, nightF_get_depth, nightF_put_depth, nightF_get_depths, nightF_put_depths, nightF_get_plan, nightF_put_plan, nightF_get_worked, nightF_put_worked, nightF_get_call_outs, nightF_put_call_outs, nightF_get_in_row, nightF_put_in_row, nightF_get_rested, nightF_put_rested, nightF_no_copied, nightF_no_works, nightF_no_rests, nightF_no_lies, nightF_no_deepest, watchF_get_deep, watchF_put_deep, watchF_get_clears, watchF_put_clears, watchF_get_may_lie, watchF_put_may_lie, watchF_get_most_in_row, watchF_put_most_in_row, watchF_get_least_rest, watchF_put_least_rest, watchF_get_hour_costs, watchF_put_hour_costs, watchF_get_call_costs, watchF_put_call_costs, watchF_get_falls, watchF_put_falls, watchF_no_start_over, watchF_no_begins, watchF_no_crew, watchF_no_snow, watchF_no_check, watchF_no_cheapest, watchF_no_fewest, watchF_no_shallow, watchF_no_nights_that_can_be, watchF_no_nights_of_crew, watchF_no_is_plan, watchF_no_pass_hour, watchF_no_wrong_with_work, watchF_no_cost, nightF_ini_depth, nightF_ini_depths, nightF_ini_plan, nightF_ini_worked, nightF_ini_call_outs, nightF_ini_in_row, nightF_ini_rested, watchF_ini_deep, watchF_ini_clears, watchF_ini_may_lie, watchF_ini_most_in_row, watchF_ini_least_rest, watchF_ini_hour_costs, watchF_ini_call_costs, watchF_ini_falls, Nat.reduceLT, hn, upd_same, upd_upd]
    have no : ¬ (0 ≤ m ∧ m ≤ 100) → ∀ p : Addr, H p = none → Q (V.ref p) (upd H p (HO.lst [V.int (-1)])) := fun hc p hp => by
      have e : snowH w m = (w, [-1]) := by unfold snowH; rw [if_neg hc]
      rw [e] at k
      exact k _ p (hn0.keep (L := [p]) (Keep.upd1 (.inl (by simp))) (by simp [ne_new hn hp]) (by simp [ne_new hl hp])) hp upd_same (Keep.upd1 (.inr hp))
    split
    · split
      · exact no (by omega)
      · refine ⟨_, .inl (SqL.of hl), ?_⟩
        rw [List.length_map]
        split
        · rename_i h10
          intro p hp
          have e : snowH w m = (w, [-5]) := by unfold snowH; rw [if_pos (by omega), if_pos h10]
          rw [e] at k
          exact k _ p (hn0.keep (L := [p]) (Keep.upd1 (.inl (by simp))) (by simp [ne_new hn hp]) (by simp [ne_new hl hp])) hp upd_same (Keep.upd1 (.inr hp))
        · rename_i h10
          have e : snowH w m = ({ w with falls := w.falls ++ [m] }, [(w.falls.length : Int)]) := by unfold snowH; rw [if_pos (by omega), if_neg h10]
          rw [e] at k
          refine ⟨tyL hl, _, hl, by rw [List.length_map]; exact thousand hlen, ?_⟩
          simp only [tSeq, gTup, gCons, gNil, tIfS, tRet, tRetN, tNext, tDrop, tAsg, gName, tTest, tB, tOp, tUn, tVar, tC, tChain, rI0, rI, rU, rEq, rNe, tAnd, tOr, tNot, tAndV, tOrV, tNotV, tIf, tFld, sFld, sFldAug, rAdd, rSub, tCall, tMeth, tMake, tNil, tCons, tLst, tTup, tCB, tBM, tBM0, rAppend, rExtend, rCat, rIxL, rIxT, tSl, rSlL, tNoPart, tPart, scal_int, scal_bl, sl0, sl1, sl2, sl3, sl4, cxK, L2.start, tAug, ipI, List.getElem?_cons_zero, List.getElem?_cons_succ, Option.some.injEq, V.int.injEq, V.ref.injEq, V.bl.injEq, HO.ins.injEq, HO.lst.injEq, exists_eq_left', exists_eq_left, exists_and_left, exists_and_right, and_assoc, List.map_cons, List.map_nil, List.cons_append, List.nil_append, List.append_nil, List.set_cons_zero, List.set_cons_succ, decide_eq_true_eq, true_and, and_true, List.length_cons, List.length_nil, Nat.reduceAdd, Nat.reduceSub, List.replicate_succ, List.replicate_zero, Bool.not_eq_true', decide_eq_false_iff_not, reduceCtorEq, Bool.false_eq_true, if_true, if_false, List.cons.injEq, T.cl_Night, T.cl_Watch, T.na_Night_depth, T.na_Night_depths, T.na_Night_plan, T.na_Night_worked, T.na_Night_call_outs, T.na_Night_in_row, T.na_Night_rested, T.na_Watch_deep, T.na_Watch_clears, T.na_Watch_may_lie, T.na_Watch_most_in_row, T.na_Watch_least_rest, T.na_Watch_hour_costs, T.na_Watch_call_costs, T.na_Watch_falls, nightF_lt, watchF_lt, nightF_get_depth, nightF_put_depth, nightF_get_depths, nightF_put_depths, nightF_get_plan, nightF_put_plan, nightF_get_worked, nightF_put_worked, nightF_get_call_outs, nightF_put_call_outs, nightF_get_in_row, nightF_put_in_row, nightF_get_rested, nightF_put_rested, nightF_no_copied, nightF_no_works, nightF_no_rests, nightF_no_lies, nightF_no_deepest, watchF_get_deep, watchF_put_deep, watchF_get_clears, watchF_put_clears, watchF_get_may_lie, watchF_put_may_lie, watchF_get_most_in_row, watchF_put_most_in_row, watchF_get_least_rest, watchF_put_least_rest, watchF_get_hour_costs, watchF_put_hour_costs, watchF_get_call_costs, watchF_put_call_costs, watchF_get_falls, watchF_put_falls, watchF_no_start_over, watchF_no_begins, watchF_no_crew, watchF_no_snow, watchF_no_check, watchF_no_cheapest, watchF_no_fewest, watchF_no_shallow, watchF_no_nights_that_can_be, watchF_no_nights_of_crew, watchF_no_is_plan, watchF_no_pass_hour, watchF_no_wrong_with_work, watchF_no_cost, upd_ne ne, hn]
          refine ⟨_, .inl (SqL.of upd_same), fun p hp => ?_⟩
          have fp : fl ≠ p := fun q => by rw [← q, upd_same] at hp; cases hp
          have hp' : H p = none := by rw [upd_ne (Ne.symm fp)] at hp; exact hp
          refine k _ p ⟨⟨dx, ?_⟩, ?_⟩ hp' ?_ ((Keep.upd1 (.inl (by simp))).then1 (.inr hp'))
          · rw [upd_ne (ne_new hn hp'), upd_ne ne]; exact hn
          · rw [upd_ne fp, upd_same]
            show some (HO.lst (List.map V.int w.falls ++ [V.int m])) = some (HO.lst (List.map V.int (w.falls ++ [m])))
            rw [List.map_append]; rfl
          · rw [upd_same]
            have q : (((List.map V.int w.falls ++ [V.int m]).length : Nat) : Int) - 1 = (w.falls.length : Int) := by
              rw [List.length_append, List.length_map]
              show ((w.falls.length + 1 : Nat) : Int) - 1 = _
              omega
            rw [q]; rfl
    · exact no (by omega)
end
end Snow

set_option Elab.async false
set_option linter.all false
set_option maxRecDepth 100000
set_option maxHeartbeats 2000000
namespace Snow
open PySem PySem.Spec PyProof.Rows L2
section
variable {P : Program} {w : World} {K : PySem.W.Frag} {mg : Str → Option Value} {base : Heap} {x : Adr}
def sp_Watch_wrong_with_work (K : PySem.W.Frag) (x : Adr) : Sp := fun vs H Q _ => ∃ (a fl b dl pl : Addr) (w : WS) (n : NS), vs = [.ref a, .ref b] ∧ WatchAt x H a fl w ∧ NightAt x H b dl pl n ∧ Q (.int (tired w n)) H
theorem ok_Watch_wrong_with_work (T : Txt K mg x) : FnOk P w K mg base CX0 1 x.f_Watch_wrong_with_work x.fd_Watch_wrong_with_work ["self", "night"] (sp_Watch_wrong_with_work K x) := by
  have nd := sc_Watch_wrong_with_work.nd
  refine T.F_Watch_wrong_with_work.ok sc_Watch_wrong_with_work (fun vs H Q E h => ?_) (fun cdv A outer s H vs Q E hr h => ?_)
  · obtain ⟨a, fl, b, dl, pl, w, n, rfl, _⟩ := h
    rfl
  · obtain ⟨a, fl, b, dl, pl, w, n, rfl, ⟨⟨dx, hw⟩, hl⟩, ⟨⟨dy, hn⟩, hm, hm2, two⟩, k⟩ := h
    refine ⟨_, (pss_cons (ps_if (pt_cmpR op_eq (pe_fld (pv 1) rfl) (pe_fld (pv 0) rfl) (nomark _))
       (pss_one (ps_ret (pe_gint rfl T.g_TOO_LONG)))
       pss_nil)
      (pss_cons (ps_if (PW.pt (pw_and (pt_cmpR op_eq (pe_fld (pv 1) rfl) pe_int (nomark _)) (pw_and (pt_cmpR op_gt (pe_fld (pv 1) rfl) pe_int (nomark _)) (pw_and1 (pt_cmpR op_lt (pe_fld (pv 1) rfl) (pe_fld (pv 0) rfl) (nomark _))))))
       (pss_one (ps_ret (pe_gint rfl T.g_TOO_SOON)))
       pss_nil)
      (pss_one (ps_ret (pe_gint rfl T.g_NOTHING_WRONG))))), ?_⟩
    simp only [tSeq, gTup, gCons, gNil, tIfS, tRet, tRetN, tNext, tDrop, tAsg, gName, tTest, tB, tOp, tUn, tVar, tC, tChain, rI0, rI, rU, rEq, rNe, tAnd, tOr, tNot, tAndV, tOrV, tNotV, tIf, tFld, sFld, sFldAug, rAdd, rSub, tCall, tMeth, tMake, tNil, tCons, tLst, tTup, tCB, tBM, tBM0, rAppend, rExtend, rCat, rIxL, rIxT, tSl, rSlL, tNoPart, tPart, scal_int, scal_bl, sl0, sl1, sl2, sl3, sl4, cxK, L2.start, tAug, ipI, List.getElem?_cons_zero, List.getElem?_cons_succ, Option.some.injEq, V.int.injEq, V.ref.injEq, V.bl.injEq, HO.ins.injEq, HO.lst.injEq, exists_eq_left', exists_eq_left, exists_and_left, exists_and_right, and_assoc, List.map_cons, List.map_nil, List.cons_append, List.nil_append, List.append_nil, List.set_cons_zero, List.set_cons_succ, decide_eq_true_eq, true_and, and_true, List.length_cons, List.length_nil, Nat.reduceAdd, Nat.reduceSub, List.replicate_succ, List.replicate_zero, Bool.not_eq_true', decide_eq_false_iff_not, reduceCtorEq, Bool.false_eq_true, if_true, if_false, List.cons.injEq, T.cl_Night, T.cl_Watch, T.na_Night_depth, T.na_Night_depths, T.na_Night_plan, T.na_Night_worked, T.na_Night_call_outs, T.na_Night_in_row, T.na_Night_rested, T.na_Watch_deep, T.na_Watch_clears, T.na_Watch_may_lie, T.na_Watch_most_in_row, T.na_Watch_least_rest, T.na_Watch_hour_costs, T.na_Watch_call_costs, T.na_Watch_falls, nightF_lt, watchF_lt, nightF_get_depth, nightF_put_depth, nightF_get_depths, nightF_put_depths, nightF_get_plan, nightF_put_plan, nightF_get_worked, nightF_put_worked, nightF_get_call_outs, nightF_put_call_outs, nightF_get_in_row, nightF_put_in_row, nightF_get_rested, nightF_put_rested, nightF_no_copied, nightF_no_works, nightF_no_rests, nightF_no_lies, nightF_no_deepest, watchF_get_deep, watchF_put_deep, watchF_get_clears, watchF_put_clears, watchF_get_may_lie, watchF_put_may_lie, watchF_get_most_in_row, watchF_put_most_in_row, watchF_get_least_rest, watchF_put_least_rest, watchF_get_hour_costs, watchF_put_hour_costs, watchF_get_call_costs, watchF_put_call_costs, watchF_get_falls, watchF_put_falls, watchF_no_start_over, watchF_no_begins, watchF_no_crew, watchF_no_snow, watchF_no_check, watchF_no_cheapest, watchF_no_fewest, watchF_no_shallow, watchF_no_nights_that_can_be, watchF_no_nights_of_crew, watchF_no_is_plan, watchF_no_pass_hour, watchF_no_wrong_with_work, watchF_no_cost, hw, hn]
    unfold tired at k
    repeat' split
    · rename_i h1; rw [if_pos h1] at k; exact k
    · rename_i h1 h2 h3 h4; rw [if_neg h1, if_pos ⟨h2, h3, h4⟩] at k; exact k
    · rename_i h1 h2 h3 h4; rw [if_neg h1, if_neg fun q => h4 q.2.2] at k; exact k
    · rename_i h1 h2 h3; rw [if_neg h1, if_neg fun q => h3 q.2.1] at k; exact k
    · rename_i h1 h2; rw [if_neg h1, if_neg fun q => h2 q.1] at k; exact k
def sp_Watch_cost (K : PySem.W.Frag) (x : Adr) : Sp := fun vs H Q _ => ∃ (a fl b dl pl : Addr) (w : WS) (n : NS), vs = [.ref a, .ref b] ∧ WatchAt x H a fl w ∧ NightAt x H b dl pl n ∧ (0 ≤ w.hour ∧ w.hour ≤ 1000) ∧ (0 ≤ w.call ∧ w.call ≤ 1000) ∧ Q (.int (costH w n)) H
theorem ok_Watch_cost (T : Txt K mg x) : FnOk P w K mg base CX0 1 x.f_Watch_cost x.fd_Watch_cost ["self", "night"] (sp_Watch_cost K x) := by
  have nd := sc_Watch_cost.nd
  refine T.F_Watch_cost.ok sc_Watch_cost (fun vs H Q E h => ?_) (fun cdv A outer s H vs Q E hr h => ?_)
  · obtain ⟨a, fl, b, dl, pl, w, n, rfl, _⟩ := h
    rfl
  · obtain ⟨a, fl, b, dl, pl, w, n, rfl, ⟨⟨dx, hw⟩, hl⟩, ⟨⟨dy, hn⟩, hm, hm2, two⟩, h1, h2, k⟩ := h
    refine ⟨_, (pss_one (ps_ret (pe_op op_add (pe_op op_mul (pe_fld (pv 1) rfl) (pe_fld (pv 0) rfl)) (pe_op op_mul (pe_fld (pv 1) rfl) (pe_fld (pv 0) rfl))))), ?_⟩
    simp only [tSeq, gTup, gCons, gNil, tIfS, tRet, tRetN, tNext, tDrop, tAsg, gName, tTest, tB, tOp, tUn, tVar, tC, tChain, rI0, rI, rU, rEq, rNe, tAnd, tOr, tNot, tAndV, tOrV, tNotV, tIf, tFld, sFld, sFldAug, rAdd, rSub, tCall, tMeth, tMake, tNil, tCons, tLst, tTup, tCB, tBM, tBM0, rAppend, rExtend, rCat, rIxL, rIxT, tSl, rSlL, tNoPart, tPart, scal_int, scal_bl, sl0, sl1, sl2, sl3, sl4, cxK, L2.start, tAug, ipI, List.getElem?_cons_zero, List.getElem?_cons_succ, Option.some.injEq, V.int.injEq, V.ref.injEq, V.bl.injEq, HO.ins.injEq, HO.lst.injEq, exists_eq_left', exists_eq_left, exists_and_left, exists_and_right, and_assoc, List.map_cons, List.map_nil, List.cons_append, List.nil_append, List.append_nil, List.set_cons_zero, List.set_cons_succ, decide_eq_true_eq, true_and, and_true, List.length_cons, List.length_nil, Nat.reduceAdd, Nat.reduceSub, List.replicate_succ, List.replicate_zero, Bool.not_eq_true', decide_eq_false_iff_not, reduceCtorEq, Bool.false_eq_true, if_true, if_false, List.cons.injEq, T.cl_Night, T.cl_Watch, T.na_Night_depth, T.na_Night_depths, T.na_Night_plan, T.na_Night_worked, T.na_Night_call_outs, T.na_Night_in_row, T.na_Night_rested, T.na_Watch_deep, T.na_Watch_clears, T.na_Watch_may_lie, T.na_Watch_most_in_row, T.na_Watch_least_rest, T.na_Watch_hour_costs, T.na_Watch_call_costs, T.na_Watch_falls, nightF_lt, watchF_lt, nightF_get_depth, nightF_put_depth, nightF_get_depths, nightF_put_depths, nightF_get_plan, nightF_put_plan, nightF_get_worked, nightF_put_worked, nightF_get_call_outs, nightF_put_call_outs, nightF_get_in_row, nightF_put_in_row, nightF_get_rested, nightF_put_rested, nightF_no_copied, nightF_no_works, nightF_no_rests, nightF_no_lies, nightF_no_deepest, watchF_get_deep, watchF_put_deep, watchF_get_clears, watchF_put_clears, watchF_get_may_lie, watchF_put_may_lie, watchF_get_most_in_row, watchF_put_most_in_row, watchF_get_least_rest, watchF_put_least_rest, watchF_get_hour_costs, watchF_put_hour_costs, watchF_get_call_costs, watchF_put_call_costs, watchF_get_falls, watchF_put_falls, watchF_no_start_over, watchF_no_begins, watchF_no_crew, watchF_no_snow, watchF_no_check, watchF_no_cheapest, watchF_no_fewest, watchF_no_shallow, watchF_no_nights_that_can_be, watchF_no_nights_of_crew, watchF_no_is_plan, watchF_no_pass_hour, watchF_no_wrong_with_work, watchF_no_cost, hw, hn]
    exact ⟨.inr ⟨by omega, by omega⟩, .inr ⟨by omega, by omega⟩, k⟩
def sp_Watch_pass_hour (K : PySem.W.Frag) (x : Adr) : Sp := fun vs H Q _ => ∃ (a fl b dl pl : Addr) (w : WS) (n : NS) (f p : Int), vs = [.ref a, .ref b, .int f, .int p] ∧ WatchAt x H a fl w ∧ NightAt x H b dl pl n ∧ n.depths.length < 1000 ∧ n.plan.length < 1000 ∧ fl ≠ dl ∧ fl ≠ pl ∧
  ∀ H' : Hp, NightAt x H' b dl pl (passH w n f p).1 → Keep [b, dl, pl] H H' → Q (.int (passH w n f p).2) H'
theorem ok_Watch_pass_hour (T : Txt K mg x) : FnOk P w K mg base CX0 2 x.f_Watch_pass_hour x.fd_Watch_pass_hour ["self", "night", "fall", "works"] (sp_Watch_pass_hour K x) := by
  have G_Watch_wrong_with_work := ok_Watch_wrong_with_work (P := P) (w := w) (base := base) T
  have G_Night_works := ok_Night_works (P := P) (w := w) (base := base) T
  have G_Night_rests := ok_Night_rests (P := P) (w := w) (base := base) T
  have G_Night_lies := ok_Night_lies (P := P) (w := w) (base := base) T
  have nd := sc_Watch_pass_hour.nd
  refine T.F_Watch_pass_hour.ok sc_Watch_pass_hour (fun vs H Q E h => ?_) (fun cdv A outer s H vs Q E hr h => ?_)
  · obtain ⟨a, fl, b, dl, pl, w, n, f, p, rfl, _⟩ := h
    rfl
  · obtain ⟨a, fl, b, dl, pl, w, n, f, p, rfl, hw0, hn0, hlen, hlen2, hfd, hfp, k⟩ := h
    have hab := nw_ne hn0 hw0
    obtain ⟨⟨dx, hw⟩, hl⟩ := hw0
    have hw0 : WatchAt x H a fl w := ⟨⟨dx, hw⟩, hl⟩
    obtain ⟨⟨dy, hn⟩, hm, hm2, two⟩ := hn0
    have hn0 : NightAt x H b dl pl n := ⟨⟨dy, hn⟩, hm, hm2, two⟩
    have had : a ≠ dl := ne_of hw hm (by intro q; cases q)
    have hap : a ≠ pl := ne_of hw hm2 (by intro q; cases q)
    refine ⟨_, (pss_cons (ps_set (i := 4) nd rfl (by first | exact Or.inl rfl | exact Or.inr rfl) (pe_op op_add (pe_fld (pv 1) rfl) (pv 2)))
      (pss_cons (ps_if (pt_cmpR op_eq (pv 3) pe_int (nomark _))
       (pss_cons (ps_set (i := 5) nd rfl (by first | exact Or.inl rfl | exact Or.inr rfl) (pe_meth (pv 0) T.cl_Watch T.mt_Watch_wrong_with_work G_Watch_wrong_with_work (hr.mono (by decide)) T.b_Watch_wrong_with_work .nil pass0 (pa_cons (pv 1) pa_nil)))
       (pss_cons (ps_if (pt_cmpR op_ne (pv 5) (pe_gint rfl T.g_NOTHING_WRONG) (nomark _))
        (pss_one (ps_ret (pv 5)))
        pss_nil)
       (pss_cons (ps_expr (pe_meth0 (pv 1) T.cl_Night T.mt_Night_works G_Night_works (hr.mono (by decide)) T.b_Night_works .nil pass0))
       (pss_one (ps_set (i := 4) nd rfl (by first | exact Or.inl rfl | exact Or.inr rfl) (pe_callB (call_max2 rfl) (by rfl) T.bl_max boot_max (pa_cons pe_int (pa_cons (pe_op op_sub (pv 4) (pe_fld (pv 0) rfl)) pa_nil))))))))
       (pss_one (ps_expr (pe_meth0 (pv 1) T.cl_Night T.mt_Night_rests G_Night_rests (hr.mono (by decide)) T.b_Night_rests .nil pass0))))
      (pss_cons (ps_expr (pe_meth (pv 1) T.cl_Night T.mt_Night_lies G_Night_lies (hr.mono (by decide)) T.b_Night_lies .nil pass0 (pa_cons (pv 4) pa_nil)))
      (pss_one (ps_ret (pe_ifExp (pt_cmpR op_gt (pv 4) (pe_fld (pv 0) rfl) (nomark _)) (pe_gint rfl T.g_TOO_DEEP) (pe_gint rfl T.g_NOTHING_WRONG))))))), ?_⟩
    simp only [tSeq, gTup, gCons, gNil, tIfS, tRet, tRetN, tNext, tDrop, tAsg, gName, tTest, tB, tOp, tUn, tVar, tC, tChain, rI0, rI, rU, rEq, rNe, tAnd, tOr, tNot, tAndV, tOrV, tNotV, tIf, tFld, sFld, sFldAug, rAdd, rSub, tCall, tMeth, tMake, tNil, tCons, tLst, tTup, tCB, tBM, tBM0, rAppend, rExtend, rCat, rIxL, rIxT, tSl, rSlL, tNoPart, tPart, scal_int, scal_bl, sl0, sl1, sl2, sl3, sl4, cxK, L2.start, tAug, ipI, List.getElem?_cons_zero, List.getElem?_cons_succ, Option.some.injEq, V.int.injEq, V.ref.injEq, V.bl.injEq, HO.ins.injEq, HO.lst.injEq, exists_eq_left', exists_eq_left, exists_and_left, exists_and_right, and_assoc, List.map_cons, List.map_nil, List.cons_append, List.nil_append, List.append_nil, List.set_cons_zero, List.set_cons_succ, decide_eq_true_eq, true_and, and_true, List.length_cons, List.length_nil, Nat.reduceAdd, Nat.reduceSub, List.replicate_succ, List.replicate_zero, Bool.not_eq_true', decide_eq_false_iff_not, reduceCtorEq, Bool.false_eq_true, if_true, if_false, List.cons.injEq, T.cl_Night, T.cl_Watch, T.na_Night_depth, T.na_Night_depths, T.na_Night_plan, T.na_Night_worked, T.na_Night_call_outs, T.na_Night_in_row, T.na_Night_rested, T.na_Watch_deep, T.na_Watch_clears, T.na_Watch_may_lie, T.na_Watch_most_in_row, T.na_Watch_least_rest, T.na_Watch_hour_costs, T.na_Watch_call_costs, T.na_Watch_falls, nightF_lt, watchF_lt, nightF_get_depth, nightF_put_depth, nightF_get_depths, nightF_put_depths, nightF_get_plan, nightF_put_plan, nightF_get_worked, nightF_put_worked, nightF_get_call_outs, nightF_put_call_outs, nightF_get_in_row, nightF_put_in_row, nightF_get_rested, nightF_put_rested, nightF_no_copied, nightF_no_works, nightF_no_rests, nightF_no_lies, nightF_no_deepest, watchF_get_deep, watchF_put_deep, watchF_get_clears, watchF_put_clears, watchF_get_may_lie, watchF_put_may_lie, watchF_get_most_in_row, watchF_put_most_in_row, watchF_get_least_rest, watchF_put_least_rest, watchF_get_hour_costs, watchF_put_hour_costs, watchF_get_call_costs, watchF_put_call_costs, watchF_get_falls, watchF_put_falls, watchF_no_start_over, watchF_no_begins, watchF_no_crew, watchF_no_snow, watchF_no_check, watchF_no_cheapest, watchF_no_fewest, watchF_no_shallow, watchF_no_nights_that_can_be, watchF_no_nights_of_crew, watchF_no_is_plan, watchF_no_pass_hour, watchF_no_wrong_with_work, watchF_no_cost, hw, hn]
    -- how deep it lies behind the hour, and whether that is too deep
    have fin : ∀ (n1 : NS) (H1 : Hp) (d : Int), n1.depths = n.depths → NightAt x H1 b dl pl n1 → Keep [b, pl] H H1 → passH w n f p = (n1.lies d, deepWrong w d) → sp_Night_lies K x [V.ref b, V.int d] H1
        (fun _ H1 => ∃ y y1 y2, H1 a = some (HO.ins y y1 y2) ∧ Cls K y ∧ NoAttr K y (Str.ofString "may_lie") ∧ ∃ z, List.lookup (Str.ofString "may_lie") y2 = some z ∧ ∃ z1, z = V.int z1 ∧ if z1 < d then Q (V.int 3) H1 else Q (V.int 0) H1) E0 := by
      intro n1 H1 d hd h1 kp e
      refine ⟨b, dl, pl, n1, d, rfl, h1, by rw [hd]; exact hlen, fun H2 h2 kp2 => ?_⟩
      have ha : H2 a = some (.ins x.c_Watch dx (watchF w fl)) := kp2 _ _ (kp _ _ hw (by simp [hab, hap])) (by simp [hab, had])
      simp only [tSeq, gTup, gCons, gNil, tIfS, tRet, tRetN, tNext, tDrop, tAsg, gName, tTest, tB, tOp, tUn, tVar, tC, tChain, rI0, rI, rU, rEq, rNe, tAnd, tOr, tNot, tAndV, tOrV, tNotV, tIf, tFld, sFld, sFldAug, rAdd, rSub, tCall, tMeth, tMake, tNil, tCons, tLst, tTup, tCB, tBM, tBM0, rAppend, rExtend, rCat, rIxL, rIxT, tSl, rSlL, tNoPart, tPart, scal_int, scal_bl, sl0, sl1, sl2, sl3, sl4, cxK, L2.start, tAug, ipI, List.getElem?_cons_zero, List.getElem?_cons_succ, Option.some.injEq, V.int.injEq, V.ref.injEq, V.bl.injEq, HO.ins.injEq, HO.lst.injEq, exists_eq_left', exists_eq_left, exists_and_left, exists_and_right, and_assoc, List.map_cons, List.map_nil, List.cons_append, List.nil_append, List.append_nil, List.set_cons_zero, List.set_cons_succ, decide_eq_true_eq, true_and, and_true, List.length_cons, List.length_nil, Nat.reduceAdd, Nat.reduceSub, List.replicate_succ, List.replicate_zero, Bool.not_eq_true', decide_eq_false_iff_not, reduceCtorEq, Bool.false_eq_true, if_true, if_false, List.cons.injEq, T.cl_Night, T.cl_Watch, T.na_Night_depth, T.na_Night_depths, T.na_Night_plan, T.na_Night_worked, T.na_Night_call_outs, T.na_Night_in_row, T.na_Night_rested, T.na_Watch_deep, T.na_Watch_clears, T.na_Watch_may_lie, T.na_Watch_most_in_row, T.na_Watch_least_rest, T.na_Watch_hour_costs, T.na_Watch_call_costs, T.na_Watch_falls, nightF_lt, watchF_lt, nightF_get_depth, nightF_put_depth, nightF_get_depths, nightF_put_depths, nightF_get_plan, nightF_put_plan, nightF_get_worked, nightF_put_worked, nightF_get_call_outs, nightF_put_call_outs, nightF_get_in_row, nightF_put_in_row, nightF_get_rested, nightF_put_rested, nightF_no_copied, nightF_no_works, nightF_no_rests, nightF_no_lies, nightF_no_deepest, watchF_get_deep, watchF_put_deep, watchF_get_clears, watchF_put_clears, watchF_get_may_lie, watchF_put_may_lie, watchF_get_most_in_row, watchF_put_most_in_row, watchF_get_least_rest, watchF_put_least_rest, watchF_get_hour_costs, watchF_put_hour_costs, watchF_get_call_costs, watchF_put_call_costs, watchF_get_falls, watchF_put_falls, watchF_no_start_over, watchF_no_begins, watchF_no_crew, watchF_no_snow, watchF_no_check, watchF_no_cheapest, watchF_no_fewest, watchF_no_shallow, watchF_no_nights_that_can_be, watchF_no_nights_of_crew, watchF_no_is_plan, watchF_no_pass_hour, watchF_no_wrong_with_work, watchF_no_cost, ha]
      rw [e] at k
      have kk := k H2 h2 (Keep.trans (fun c o e0 n0 => kp c o e0 (by simp at n0; simp [n0.1, n0.2.2])) kp2 (fun y hy => .inl (by simp at hy; rcases hy with hy | hy <;> simp [hy])))
      unfold deepWrong at kk
      split
      · rename_i hh; rw [if_pos hh] at kk; exact kk
      · rename_i hh; rw [if_neg hh] at kk; exact kk
    split
    · rename_i h1
      refine ⟨a, fl, b, dl, pl, w, n, rfl, hw0, hn0, rfl, ?_⟩
      by_cases ht : tired w n = 0
      · rw [if_neg (by simp [ht])]
        refine ⟨dy, _, hn, rfl, b, dl, pl, n, rfl, hn0, hlen2, fun H1 g1 kp => ?_⟩
        have ha : H1 a = some (.ins x.c_Watch dx (watchF w fl)) := kp _ _ hw (by simp [hab, hap])
        have g0 := g1
        obtain ⟨⟨dz, g1⟩, g2⟩ := g1
        simp only [tSeq, gTup, gCons, gNil, tIfS, tRet, tRetN, tNext, tDrop, tAsg, gName, tTest, tB, tOp, tUn, tVar, tC, tChain, rI0, rI, rU, rEq, rNe, tAnd, tOr, tNot, tAndV, tOrV, tNotV, tIf, tFld, sFld, sFldAug, rAdd, rSub, tCall, tMeth, tMake, tNil, tCons, tLst, tTup, tCB, tBM, tBM0, rAppend, rExtend, rCat, rIxL, rIxT, tSl, rSlL, tNoPart, tPart, scal_int, scal_bl, sl0, sl1, sl2, sl3, sl4, cxK, L2.start, tAug, ipI, List.getElem?_cons_zero, List.getElem?_cons_succ, Option.some.injEq, V.int.injEq, V.ref.injEq, V.bl.injEq, HO.ins.injEq, HO.lst.injEq, exists_eq_left', exists_eq_left, exists_and_left, exists_and_right, and_assoc, List.map_cons, List.map_nil, List.cons_append, List.nil_append, List.append_nil, List.set_cons_zero, List.set_cons_succ, decide_eq_true_eq, true_and, and_true, List.length_cons, List.length_nil, Nat.reduceAdd, Nat.reduceSub, List.replicate_succ, List.replicate_zero, Bool.not_eq_true', decide_eq_false_iff_not, reduceCtorEq, Bool.false_eq_true, if_true, if_false, List.cons.injEq, T.cl_Night, T.cl_Watch, T.na_Night_depth, T.na_Night_depths, T.na_Night_plan, T.na_Night_worked, T.na_Night_call_outs, T.na_Night_in_row, T.na_Night_rested, T.na_Watch_deep, T.na_Watch_clears, T.na_Watch_may_lie, T.na_Watch_most_in_row, T.na_Watch_least_rest, T.na_Watch_hour_costs, T.na_Watch_call_costs, T.na_Watch_falls, nightF_lt, watchF_lt, nightF_get_depth, nightF_put_depth, nightF_get_depths, nightF_put_depths, nightF_get_plan, nightF_put_plan, nightF_get_worked, nightF_put_worked, nightF_get_call_outs, nightF_put_call_outs, nightF_get_in_row, nightF_put_in_row, nightF_get_rested, nightF_put_rested, nightF_no_copied, nightF_no_works, nightF_no_rests, nightF_no_lies, nightF_no_deepest, watchF_get_deep, watchF_put_deep, watchF_get_clears, watchF_put_clears, watchF_get_may_lie, watchF_put_may_lie, watchF_get_most_in_row, watchF_put_most_in_row, watchF_get_least_rest, watchF_put_least_rest, watchF_get_hour_costs, watchF_put_hour_costs, watchF_get_call_costs, watchF_put_call_costs, watchF_get_falls, watchF_put_falls, watchF_no_start_over, watchF_no_begins, watchF_no_crew, watchF_no_snow, watchF_no_check, watchF_no_cheapest, watchF_no_fewest, watchF_no_shallow, watchF_no_nights_that_can_be, watchF_no_nights_of_crew, watchF_no_is_plan, watchF_no_pass_hour, watchF_no_wrong_with_work, watchF_no_cost, ha, g1]
        exact fin n.works H1 (max0 (n.depth + f - w.clears)) rfl g0 kp (by unfold passH; rw [if_pos h1, if_neg (by simp [ht])])
      · rw [if_pos (by simp [ht])]
        have e : passH w n f p = (n, tired w n) := by unfold passH; rw [if_pos h1, if_pos ht]
        rw [e] at k
        exact k H hn0 (Keep.refl _ _)
    · rename_i h1
      refine ⟨b, dl, pl, n, rfl, hn0, hlen2, fun H1 g1 kp => ?_⟩
      have ha : H1 a = some (.ins x.c_Watch dx (watchF w fl)) := kp _ _ hw (by simp [hab, hap])
      have g0 := g1
      obtain ⟨⟨dz, g1⟩, g2⟩ := g1
      refine ⟨dz, _, g1, rfl, ?_⟩
      exact fin n.rests H1 (n.depth + f) rfl g0 kp (by unfold passH; rw [if_neg h1])
def sp_Watch_is_plan (K : PySem.W.Frag) (x : Adr) : Sp := fun vs H Q _ => ∃ (a fl l : Addr) (w : WS) (ns : List Int), vs = [.ref a, .ref l] ∧ WatchAt x H a fl w ∧ SqL K H l (ns.map V.int) ∧ ns.length < 1000 ∧
  ∀ H' : Hp, Same H H' → Q (.bl (isPlan w ns)) H'
theorem ok_Watch_is_plan (T : Txt K mg x) : FnOk P w K mg base CX0 1 x.f_Watch_is_plan x.fd_Watch_is_plan ["self", "numbers"] (sp_Watch_is_plan K x) := by
  have nd := sc_Watch_is_plan.nd
  refine T.F_Watch_is_plan.ok sc_Watch_is_plan (fun vs H Q E h => ?_) (fun cdv A outer s H vs Q E hr h => ?_)
  · obtain ⟨a, fl, l, w, ns, rfl, _⟩ := h
    rfl
  · obtain ⟨a, fl, l, w, ns, rfl, ⟨⟨dx, hw⟩, hl⟩, hs, hlen, k⟩ := h
    refine ⟨_, (pss_one (ps_ret (pe_and (pe_cmpR op_eq (pe_callB call_len_seq (by rfl) T.bl_len PySem.boot_len (pa_cons (pv 1) pa_nil)) (pe_callB call_len_seq (by rfl) T.bl_len PySem.boot_len (pa_cons (pe_fld (pv 0) rfl) pa_nil)) (nomark _)) (pe_one (pe_callB (cr_all rfl) (by rfl) T.bl_all boot_all (pa_cons (pe_lc (own := [("number", 2)]) rfl nd (pi_list (pv 1)) (blkOk_by (N := ["self", "numbers", "number"]) (sc := defScope s_Watch_is_plan) (by decide +kernel)) (fun _ _ _ _ _ => (pg_name (i := 2) nd rfl (by first | exact Or.inl rfl | exact Or.inr rfl))) (fun _ _ _ _ _ => pts_nil) (fun _ _ _ _ _ => (pe_cmpR (op_in_K (K := K) rfl) (pv 2) (pe_tup (pa_cons pe_int (pa_cons pe_int pa_nil))) (by with_unfolding_all rfl)))) pa_nil)))))), ?_⟩
    simp only [tSeq, gTup, gCons, gNil, tIfS, tRet, tRetN, tNext, tDrop, tAsg, gName, tTest, tB, tOp, tUn, tVar, tC, tChain, rI0, rI, rU, rEq, rNe, tAnd, tOr, tNot, tAndV, tOrV, tNotV, tIf, tFld, sFld, sFldAug, rAdd, rSub, tCall, tMeth, tMake, tNil, tCons, tLst, tTup, tCB, tBM, tBM0, rAppend, rExtend, rCat, rIxL, rIxT, tSl, rSlL, tNoPart, tPart, scal_int, scal_bl, sl0, sl1, sl2, sl3, sl4, cxK, L2.start, tAug, ipI, List.getElem?_cons_zero, List.getElem?_cons_succ, Option.some.injEq, V.int.injEq, V.ref.injEq, V.bl.injEq, HO.ins.injEq, HO.lst.injEq, exists_eq_left', exists_eq_left, exists_and_left, exists_and_right, and_assoc, List.map_cons, List.map_nil, List.cons_append, List.nil_append, List.append_nil, List.set_cons_zero, List.set_cons_succ, decide_eq_true_eq, true_and, and_true, List.length_cons, List.length_nil, Nat.reduceAdd, Nat.reduceSub, List.replicate_succ, List.replicate_zero, Bool.not_eq_true', decide_eq_false_iff_not, reduceCtorEq, Bool.false_eq_true, if_true, if_false, List.cons.injEq, T.cl_Night, T.cl_Watch, T.na_Night_depth, T.na_Night_depths, T.na_Night_plan, T.na_Night_worked, T.na_Night_call_outs, T.na_Night_in_row, T.na_Night_rested, T.na_Watch_deep, T.na_Watch_clears, T.na_Watch_may_lie, T.na_Watch_most_in_row, T.na_Watch_least_rest, T.na_Watch_hour_costs, T.na_Watch_call_costs, T.na_Watch_falls, nightF_lt, watchF_lt, nightF_get_depth, nightF_put_depth, nightF_get_depths, nightF_put_depths, nightF_get_plan, nightF_put_plan, nightF_get_worked, nightF_put_worked, nightF_get_call_outs, nightF_put_call_outs, nightF_get_in_row, nightF_put_in_row, nightF_get_rested, nightF_put_rested, nightF_no_copied, nightF_no_works, nightF_no_rests, nightF_no_lies, nightF_no_deepest, watchF_get_deep, watchF_put_deep, watchF_get_clears, watchF_put_clears, watchF_get_may_lie, watchF_put_may_lie, watchF_get_most_in_row, watchF_put_most_in_row, watchF_get_least_rest, watchF_put_least_rest, watchF_get_hour_costs, watchF_put_hour_costs, watchF_get_call_costs, watchF_put_call_costs, watchF_get_falls, watchF_put_falls, watchF_no_start_over, watchF_no_begins, watchF_no_crew, watchF_no_snow, watchF_no_check, watchF_no_cheapest, watchF_no_fewest, watchF_no_shallow, watchF_no_nights_that_can_be, watchF_no_nights_of_crew, watchF_no_is_plan, watchF_no_pass_hour, watchF_no_wrong_with_work, watchF_no_cost, hw]
    refine ⟨_, .inl hs, _, .inl (SqL.of hl), ?_⟩
    rw [List.length_map, List.length_map]
    split
    · rename_i hll
      refine ⟨_, rfl, l, rfl, ⟨_, hs⟩, fun D hD => lc_list (K := K) (a := l) (xs := ns.map V.int) (fun i H' => Same H H' ∧ H' D = some (.lst ((ns.take i).map fun z => V.bl (decide (z = 0 ∨ z = 1))))) ⟨?_, upd_same⟩ (fun i H' _ q => q.1.seq hs) ?_ ?_⟩
      · intro b o e
        rw [upd_ne (ne_of_none e hD)]; exact e
      · rintro i y H' hi ⟨s1, hd⟩
        obtain ⟨z, hz, rfl⟩ := map_at hi
        refine ⟨rfl, ?_⟩
        simp only [tYes, if_true, tSeq, gTup, gCons, gNil, tIfS, tRet, tRetN, tNext, tDrop, tAsg, gName, tTest, tB, tOp, tUn, tVar, tC, tChain, rI0, rI, rU, rEq, rNe, tAnd, tOr, tNot, tAndV, tOrV, tNotV, tIf, tFld, sFld, sFldAug, rAdd, rSub, tCall, tMeth, tMake, tNil, tCons, tLst, tTup, tCB, tBM, tBM0, rAppend, rExtend, rCat, rIxL, rIxT, tSl, rSlL, tNoPart, tPart, scal_int, scal_bl, sl0, sl1, sl2, sl3, sl4, cxK, L2.start, tAug, ipI, List.getElem?_cons_zero, List.getElem?_cons_succ, Option.some.injEq, V.int.injEq, V.ref.injEq, V.bl.injEq, HO.ins.injEq, HO.lst.injEq, exists_eq_left', exists_eq_left, exists_and_left, exists_and_right, and_assoc, List.map_cons, List.map_nil, List.cons_append, List.nil_append, List.append_nil, List.set_cons_zero, List.set_cons_succ, decide_eq_true_eq, true_and, and_true, List.length_cons, List.length_nil, Nat.reduceAdd, Nat.reduceSub, List.replicate_succ, List.replicate_zero, Bool.not_eq_true', decide_eq_false_iff_not, reduceCtorEq, Bool.false_eq_true, if_true, if_false, List.cons.injEq]
        refine ⟨_, rfl, fun p hp => ⟨p, _, rfl, .inr (SqT.of upd_same), rfl, rfl, (ns.take i).map (fun z => V.bl (decide (z = 0 ∨ z = 1))), ?_, ?_, ?_, ?_⟩⟩
        · rw [upd_ne (ne_of_none hd hp)]; exact hd
        · rw [List.length_map, List.length_take]; exact thousand (Nat.lt_of_le_of_lt (Nat.min_le_right _ _) hlen)
        · intro b o e
          rw [upd_ne (ne_of_none e hD), upd_ne (ne_of_none (s1 _ _ e) hp)]; exact s1 _ _ e
        · rw [upd_same, take_snoc hz, List.map_append]
          have q : inV (V.int z) [V.int 0, V.int 1] = decide (z = 0 ∨ z = 1) := by
            show ((0 == z) || ((1 == z) || false)) = _
            rw [Bool.or_false, Bool.eq_iff_iff, Bool.or_eq_true, decide_eq_true_eq, beq_iff_eq, beq_iff_eq]
            omega
          rw [if_neg Bool.false_ne_true, q]; rfl
      · rintro H' ⟨s1, hd⟩
        rw [List.length_map, List.take_length] at hd
        refine ⟨D, ns.map fun z => decide (z = 0 ∨ z = 1), rfl, SqL.of ?_, ?_⟩
        · rw [hd, List.map_map]; rfl
        · have q : isPlan w ns = (ns.map fun z => decide (z = 0 ∨ z = 1)).all id := by
            unfold isPlan
            rw [List.all_map, show (ns.length == w.falls.length) = true from by rw [beq_iff_eq]; omega]
            rfl
          rw [← q]
          exact k H' s1
    · rename_i hll
      have q : isPlan w ns = false := by
        unfold isPlan
        rw [show (ns.length == w.falls.length) = false from by rw [beq_eq_false_iff_ne]; omega]
        rfl
      rw [q] at k
      exact k H (Same.refl H)
end
end Snow

set_option Elab.async false
set_option linter.all false
set_option maxRecDepth 100000
set_option maxHeartbeats 2000000
namespace Snow
open PySem PySem.Spec PyProof.Rows L2
section
variable {P : Program} {w : World} {K : PySem.W.Frag} {mg : Str → Option Value} {base : Heap} {x : Adr}
theorem drop_at {α : Type} : ∀ {l : List α} {i : Nat} {y : α}, l[i]? = some y → l.drop i = y :: l.drop (i + 1)
  | [], i, y, h => by simp at h
  | a :: l, 0, y, h => by
    have e : a = y := Option.some.inj h
    subst e
    rfl
  | a :: l, i + 1, y, h => drop_at (l := l) (i := i) (y := y) h
theorem hoursH_nil (w : WS) (i : Nat) (n : NS) (l : List Int) : hoursH w i n l [] = (n, none) := by
  cases l <;> rfl
theorem pass_len {w : WS} {n : NS} {f z : Int} (h : (passH w n f z).2 = 0) : (passH w n f z).1.depths.length = n.depths.length + 1 := by
  unfold passH at h ⊢
  split
  · rename_i h1
    rw [if_pos h1] at h
    split
    · rename_i h2
      rw [if_pos h2] at h
      exact absurd h h2
    · show (n.depths ++ [_]).length = _
      rw [List.length_append]; rfl
  · show (n.depths ++ [_]).length = _
    rw [List.length_append]; rfl
theorem pass_len2 {w : WS} {n : NS} {f z : Int} (h : (passH w n f z).2 = 0) : (passH w n f z).1.plan.length = n.plan.length + 1 := by
  unfold passH at h ⊢
  split
  · rename_i h1
    rw [if_pos h1] at h
    split
    · rename_i h2
      rw [if_pos h2] at h
      exact absurd h h2
    · show (n.plan ++ [_]).length = _
      rw [List.length_append]; rfl
  · show (n.plan ++ [_]).length = _
    rw [List.length_append]; rfl
def sp_Watch_check (K : PySem.W.Frag) (x : Adr) : Sp := fun vs H Q _ => ∃ (a fl l : Addr) (w : WS) (ns : List Int), vs = [.ref a, .ref l] ∧ WatchAt x H a fl w ∧ SqL K H l (ns.map V.int) ∧ ns.length < 1000 ∧ (0 ≤ w.hour ∧ w.hour ≤ 1000) ∧ (0 ≤ w.call ∧ w.call ≤ 1000) ∧
  ∀ (H' : Hp) (p : Addr), Same H H' → H p = none → H' p = some (.lst ((checkH w ns).map V.int)) → Q (.ref p) H'
theorem ok_Watch_check (T : Txt K mg x) : FnOk P w K mg base CX0 3 x.f_Watch_check x.fd_Watch_check ["self", "plan"] (sp_Watch_check K x) := by
  have G_Watch_is_plan := ok_Watch_is_plan (P := P) (w := w) (base := base) T
  have G_Night___init__ := ok_Night___init__ (P := P) (w := w) (base := base) T
  have G_Watch_pass_hour := ok_Watch_pass_hour (P := P) (w := w) (base := base) T
  have G_Watch_cost := ok_Watch_cost (P := P) (w := w) (base := base) T
  have nd := sc_Watch_check.nd
  refine T.F_Watch_check.ok sc_Watch_check (fun vs H Q E h => ?_) (fun cdv A outer s H vs Q E hr h => ?_)
  · obtain ⟨a, fl, l, w, ns, rfl, _⟩ := h
    rfl
  · obtain ⟨a, fl, l, w, ns, rfl, hw0, hs, hlen, hh, hc, k⟩ := h
    have hw1 := hw0
    obtain ⟨⟨dx, hw⟩, hl⟩ := hw1
    refine ⟨_, (pss_cons (ps_if (pt_not (pt_truth (pe_meth (pv 0) T.cl_Watch T.mt_Watch_is_plan G_Watch_is_plan (hr.mono (by decide)) T.b_Watch_is_plan .nil pass0 (pa_cons (pv 1) pa_nil)) (fun _ => rfl)))
       (pss_one (ps_ret (pe_lst (pa_cons (pe_gint rfl T.g_NOT_AS_TOLD) pa_nil))))
       pss_nil)
      (pss_cons (ps_set (i := 2) nd rfl (by first | exact Or.inl rfl | exact Or.inr rfl) (pe_make T.mk_Night G_Night___init__ (hr.mono (by decide)) rfl T.gc_Night T.b_Night___init__ .nil pass0 (pa_cons (pe_fld (pv 0) rfl) pa_nil)))
      (pss_cons (ps_for PassesOwn.never rfl (pi_enum rfl T.bl_enumerate (pa_cons (pv 1) pa_nil)) (pg_tup (n := 2) rfl (pgs_cons (pg_name (i := 3) nd rfl (by first | exact Or.inl rfl | exact Or.inr rfl)) (pgs_cons (pg_name (i := 4) nd rfl (by first | exact Or.inl rfl | exact Or.inr rfl)) pgs_nil)))
       (pss_cons (ps_set (i := 5) nd rfl (by first | exact Or.inl rfl | exact Or.inr rfl) (pe_meth (pv 0) T.cl_Watch T.mt_Watch_pass_hour G_Watch_pass_hour (hr.mono (by decide)) T.b_Watch_pass_hour .nil pass0 (pa_cons (pv 2) (pa_cons (pe_ix ix_list (pe_fld (pv 0) rfl) (pv 3) (fun _ _ => rfl)) (pa_cons (pv 4) pa_nil)))))
       (pss_one (ps_if (pt_cmpR op_ne (pv 5) (pe_gint rfl T.g_NOTHING_WRONG) (nomark _))
        (pss_one (ps_ret (pe_lst (pa_cons (pe_gint rfl T.g_CANNOT_BE) (pa_cons (pv 3) (pa_cons (pv 5) pa_nil))))))
        pss_nil))))
      (pss_one (ps_ret (pe_op op_cat (pe_lst (pa_cons (pe_meth (pv 0) T.cl_Watch T.mt_Watch_cost G_Watch_cost (hr.mono (by decide)) T.b_Watch_cost .nil pass0 (pa_cons (pv 2) pa_nil)) (pa_cons (pe_fld (pv 2) rfl) (pa_cons (pe_fld (pv 2) rfl) pa_nil)))) (pe_fld (pv 2) rfl))))))), ?_⟩
    simp only [tSeq, gTup, gCons, gNil, tIfS, tRet, tRetN, tNext, tDrop, tAsg, gName, tTest, tB, tOp, tUn, tVar, tC, tChain, rI0, rI, rU, rEq, rNe, tAnd, tOr, tNot, tAndV, tOrV, tNotV, tIf, tFld, sFld, sFldAug, rAdd, rSub, tCall, tMeth, tMake, tNil, tCons, tLst, tTup, tCB, tBM, tBM0, rAppend, rExtend, rCat, rIxL, rIxT, tSl, rSlL, tNoPart, tPart, scal_int, scal_bl, sl0, sl1, sl2, sl3, sl4, cxK, L2.start, tAug, ipI, List.getElem?_cons_zero, List.getElem?_cons_succ, Option.some.injEq, V.int.injEq, V.ref.injEq, V.bl.injEq, HO.ins.injEq, HO.lst.injEq, exists_eq_left', exists_eq_left, exists_and_left, exists_and_right, and_assoc, List.map_cons, List.map_nil, List.cons_append, List.nil_append, List.append_nil, List.set_cons_zero, List.set_cons_succ, decide_eq_true_eq, true_and, and_true, List.length_cons, List.length_nil, Nat.reduceAdd, Nat.reduceSub, List.replicate_succ, List.replicate_zero, Bool.not_eq_true', decide_eq_false_iff_not, reduceCtorEq, Bool.false_eq_true, if_true, if_false, List.cons.injEq, T.cl_Night, T.cl_Watch, T.na_Night_depth, T.na_Night_depths, T.na_Night_plan, T.na_Night_worked, T.na_Night_call_outs, T.na_Night_in_row, T.na_Night_rested, T.na_Watch_deep, T.na_Watch_clears, T.na_Watch_may_lie, T.na_Watch_most_in_row, T.na_Watch_least_rest, T.na_Watch_hour_costs, T.na_Watch_call_costs, T.na_Watch_falls, nightF_lt, watchF_lt, nightF_get_depth, nightF_put_depth, nightF_get_depths, nightF_put_depths, nightF_get_plan, nightF_put_plan, nightF_get_worked, nightF_put_worked, nightF_get_call_outs, nightF_put_call_outs, nightF_get_in_row, nightF_put_in_row, nightF_get_rested, nightF_put_rested, nightF_no_copied, nightF_no_works, nightF_no_rests, nightF_no_lies, nightF_no_deepest, watchF_get_deep, watchF_put_deep, watchF_get_clears, watchF_put_clears, watchF_get_may_lie, watchF_put_may_lie, watchF_get_most_in_row, watchF_put_most_in_row, watchF_get_least_rest, watchF_put_least_rest, watchF_get_hour_costs, watchF_put_hour_costs, watchF_get_call_costs, watchF_put_call_costs, watchF_get_falls, watchF_put_falls, watchF_no_start_over, watchF_no_begins, watchF_no_crew, watchF_no_snow, watchF_no_check, watchF_no_cheapest, watchF_no_fewest, watchF_no_shallow, watchF_no_nights_that_can_be, watchF_no_nights_of_crew, watchF_no_is_plan, watchF_no_pass_hour, watchF_no_wrong_with_work, watchF_no_cost, hw]
    refine ⟨a, fl, l, w, ns, rfl, hw0, hs, hlen, fun H1 s1 => ?_⟩
    refine ⟨_, rfl, ?_⟩
    split
    · rename_i hp
      intro p hp1
      have e : checkH w ns = [-1] := by unfold checkH; rw [if_neg (by rw [hp]; decide)]
      rw [e] at k
      exact k _ p (fun c o e => by rw [upd_ne (ne_of_none (s1 _ _ e) hp1)]; exact s1 _ _ e) (s1.free hp1) upd_same
    · rename_i hp
      have hp : isPlan w ns = true := by simpa using hp
      have hpl : ns.length = w.falls.length := by
        unfold isPlan at hp
        rw [Bool.and_eq_true] at hp
        exact eq_of_beq hp.1
      simp only [tSeq, gTup, gCons, gNil, tIfS, tRet, tRetN, tNext, tDrop, tAsg, gName, tTest, tB, tOp, tUn, tVar, tC, tChain, rI0, rI, rU, rEq, rNe, tAnd, tOr, tNot, tAndV, tOrV, tNotV, tIf, tFld, sFld, sFldAug, rAdd, rSub, tCall, tMeth, tMake, tNil, tCons, tLst, tTup, tCB, tBM, tBM0, rAppend, rExtend, rCat, rIxL, rIxT, tSl, rSlL, tNoPart, tPart, scal_int, scal_bl, sl0, sl1, sl2, sl3, sl4, cxK, L2.start, tAug, ipI, List.getElem?_cons_zero, List.getElem?_cons_succ, Option.some.injEq, V.int.injEq, V.ref.injEq, V.bl.injEq, HO.ins.injEq, HO.lst.injEq, exists_eq_left', exists_eq_left, exists_and_left, exists_and_right, and_assoc, List.map_cons, List.map_nil, List.cons_append, List.nil_append, List.append_nil, List.set_cons_zero, List.set_cons_succ, decide_eq_true_eq, true_and, and_true, List.length_cons, List.length_nil, Nat.reduceAdd, Nat.reduceSub, List.replicate_succ, List.replicate_zero, Bool.not_eq_true', decide_eq_false_iff_not, reduceCtorEq, Bool.false_eq_true, if_true, if_false, List.cons.injEq, T.cl_Night, T.cl_Watch, T.na_Night_depth, T.na_Night_depths, T.na_Night_plan, T.na_Night_worked, T.na_Night_call_outs, T.na_Night_in_row, T.na_Night_rested, T.na_Watch_deep, T.na_Watch_clears, T.na_Watch_may_lie, T.na_Watch_most_in_row, T.na_Watch_least_rest, T.na_Watch_hour_costs, T.na_Watch_call_costs, T.na_Watch_falls, nightF_lt, watchF_lt, nightF_get_depth, nightF_put_depth, nightF_get_depths, nightF_put_depths, nightF_get_plan, nightF_put_plan, nightF_get_worked, nightF_put_worked, nightF_get_call_outs, nightF_put_call_outs, nightF_get_in_row, nightF_put_in_row, nightF_get_rested, nightF_put_rested, nightF_no_copied, nightF_no_works, nightF_no_rests, nightF_no_lies, nightF_no_deepest, watchF_get_deep, watchF_put_deep, watchF_get_clears, watchF_put_clears, watchF_get_may_lie, watchF_put_may_lie, watchF_get_most_in_row, watchF_put_most_in_row, watchF_get_least_rest, watchF_put_least_rest, watchF_get_hour_costs, watchF_put_hour_costs, watchF_get_call_costs, watchF_put_call_costs, watchF_get_falls, watchF_put_falls, watchF_no_start_over, watchF_no_begins, watchF_no_crew, watchF_no_snow, watchF_no_check, watchF_no_cheapest, watchF_no_fewest, watchF_no_shallow, watchF_no_nights_that_can_be, watchF_no_nights_of_crew, watchF_no_is_plan, watchF_no_pass_hour, watchF_no_wrong_with_work, watchF_no_cost, s1 _ _ hw]
      intro b db hb hdb hbb
      refine ⟨b, db, w.deep, rfl, upd_same, fun H2 dl pl hdl hpl hn kp => ⟨rfl, ?_⟩⟩
      have nb : H b = none := s1.free hb
      have ndl : H dl = none := s1.free (upd_none (upd_none hdl).2).2
      have npl : H pl = none := s1.free (upd_none (upd_none hpl).2).2
      have s2 : Same H H2 := fun c o e => kp c o (by rw [upd_ne (ne_of_none (s1 _ _ e) hb), upd_ne (ne_of_none (s1 _ _ e) hdb)]; exact s1 _ _ e) (by simp [ne_of_none e nb])
      refine ⟨_, rfl, l, _, rfl, s2.seq hs, ?_⟩
      refine for_enum (K := K) (a := l) (xs := ns.map V.int) (fun i σ H' => ∃ (v3 v4 v5 : Option V) (n : NS), σ = [some (.ref a), some (.ref l), some (.ref b), v3, v4, v5] ∧ Same H H' ∧ NightAt x H' b dl pl n ∧ n.depths.length = i ∧ n.plan.length = i ∧ i ≤ ns.length ∧
        hoursH w 0 (NS.new w.deep) w.falls ns = hoursH w i n (w.falls.drop i) (ns.drop i)) ⟨none, none, none, _, rfl, s2, hn, rfl, rfl, Nat.zero_le _, rfl⟩ (fun i σ H' _ q => ?_) ?_ ?_
      · obtain ⟨_, _, _, _, _, s3, _⟩ := q
        exact s3.seq hs
      · rintro i y σ H' tp hi ⟨v3, v4, v5, n, rfl, s3, hn, hnl, hnp, hil, he⟩ hT
        obtain ⟨z, hz, rfl⟩ := map_at hi
        have hlt : i < ns.length := (List.getElem?_eq_some_iff.mp hz).1
        obtain ⟨f, hf⟩ : ∃ f, w.falls[i]? = some f := ⟨_, List.getElem?_eq_getElem (by omega)⟩
        have s4 : Same H (upd H' tp (.tup [.int (i : Nat), .int z])) := fun c o e => by rw [upd_ne (ne_of_none (s3 _ _ e) hT)]; exact s3 _ _ e
        have hn4 : NightAt x (upd H' tp (.tup [.int (i : Nat), .int z])) b dl pl n := hn.same (same_upd hT)
        simp only [tSeq, gTup, gCons, gNil, tIfS, tRet, tRetN, tNext, tDrop, tAsg, gName, tTest, tB, tOp, tUn, tVar, tC, tChain, rI0, rI, rU, rEq, rNe, tAnd, tOr, tNot, tAndV, tOrV, tNotV, tIf, tFld, sFld, sFldAug, rAdd, rSub, tCall, tMeth, tMake, tNil, tCons, tLst, tTup, tCB, tBM, tBM0, rAppend, rExtend, rCat, rIxL, rIxT, tSl, rSlL, tNoPart, tPart, scal_int, scal_bl, sl0, sl1, sl2, sl3, sl4, cxK, L2.start, tAug, ipI, List.getElem?_cons_zero, List.getElem?_cons_succ, Option.some.injEq, V.int.injEq, V.ref.injEq, V.bl.injEq, HO.ins.injEq, HO.lst.injEq, exists_eq_left', exists_eq_left, exists_and_left, exists_and_right, and_assoc, List.map_cons, List.map_nil, List.cons_append, List.nil_append, List.append_nil, List.set_cons_zero, List.set_cons_succ, decide_eq_true_eq, true_and, and_true, List.length_cons, List.length_nil, Nat.reduceAdd, Nat.reduceSub, List.replicate_succ, List.replicate_zero, Bool.not_eq_true', decide_eq_false_iff_not, reduceCtorEq, Bool.false_eq_true, if_true, if_false, List.cons.injEq, T.cl_Night, T.cl_Watch, T.na_Night_depth, T.na_Night_depths, T.na_Night_plan, T.na_Night_worked, T.na_Night_call_outs, T.na_Night_in_row, T.na_Night_rested, T.na_Watch_deep, T.na_Watch_clears, T.na_Watch_may_lie, T.na_Watch_most_in_row, T.na_Watch_least_rest, T.na_Watch_hour_costs, T.na_Watch_call_costs, T.na_Watch_falls, nightF_lt, watchF_lt, nightF_get_depth, nightF_put_depth, nightF_get_depths, nightF_put_depths, nightF_get_plan, nightF_put_plan, nightF_get_worked, nightF_put_worked, nightF_get_call_outs, nightF_put_call_outs, nightF_get_in_row, nightF_put_in_row, nightF_get_rested, nightF_put_rested, nightF_no_copied, nightF_no_works, nightF_no_rests, nightF_no_lies, nightF_no_deepest, watchF_get_deep, watchF_put_deep, watchF_get_clears, watchF_put_clears, watchF_get_may_lie, watchF_put_may_lie, watchF_get_most_in_row, watchF_put_most_in_row, watchF_get_least_rest, watchF_put_least_rest, watchF_get_hour_costs, watchF_put_hour_costs, watchF_get_call_costs, watchF_put_call_costs, watchF_get_falls, watchF_put_falls, watchF_no_start_over, watchF_no_begins, watchF_no_crew, watchF_no_snow, watchF_no_check, watchF_no_cheapest, watchF_no_fewest, watchF_no_shallow, watchF_no_nights_that_can_be, watchF_no_nights_of_crew, watchF_no_is_plan, watchF_no_pass_hour, watchF_no_wrong_with_work, watchF_no_cost, s4 _ _ hw]
        refine ⟨_, SqT.of upd_same, rfl, ?_⟩
        simp only [tSeq, gTup, gCons, gNil, tIfS, tRet, tRetN, tNext, tDrop, tAsg, gName, tTest, tB, tOp, tUn, tVar, tC, tChain, rI0, rI, rU, rEq, rNe, tAnd, tOr, tNot, tAndV, tOrV, tNotV, tIf, tFld, sFld, sFldAug, rAdd, rSub, tCall, tMeth, tMake, tNil, tCons, tLst, tTup, tCB, tBM, tBM0, rAppend, rExtend, rCat, rIxL, rIxT, tSl, rSlL, tNoPart, tPart, scal_int, scal_bl, sl0, sl1, sl2, sl3, sl4, cxK, L2.start, tAug, ipI, List.getElem?_cons_zero, List.getElem?_cons_succ, Option.some.injEq, V.int.injEq, V.ref.injEq, V.bl.injEq, HO.ins.injEq, HO.lst.injEq, exists_eq_left', exists_eq_left, exists_and_left, exists_and_right, and_assoc, List.map_cons, List.map_nil, List.cons_append, List.nil_append, List.append_nil, List.set_cons_zero, List.set_cons_succ, decide_eq_true_eq, true_and, and_true, List.length_cons, List.length_nil, Nat.reduceAdd, Nat.reduceSub, List.replicate_succ, List.replicate_zero, Bool.not_eq_true', decide_eq_false_iff_not, reduceCtorEq, Bool.false_eq_true, if_true, if_false, List.cons.injEq, T.cl_Night, T.cl_Watch, T.na_Night_depth, T.na_Night_depths, T.na_Night_plan, T.na_Night_worked, T.na_Night_call_outs, T.na_Night_in_row, T.na_Night_rested, T.na_Watch_deep, T.na_Watch_clears, T.na_Watch_may_lie, T.na_Watch_most_in_row, T.na_Watch_least_rest, T.na_Watch_hour_costs, T.na_Watch_call_costs, T.na_Watch_falls, nightF_lt, watchF_lt, nightF_get_depth, nightF_put_depth, nightF_get_depths, nightF_put_depths, nightF_get_plan, nightF_put_plan, nightF_get_worked, nightF_put_worked, nightF_get_call_outs, nightF_put_call_outs, nightF_get_in_row, nightF_put_in_row, nightF_get_rested, nightF_put_rested, nightF_no_copied, nightF_no_works, nightF_no_rests, nightF_no_lies, nightF_no_deepest, watchF_get_deep, watchF_put_deep, watchF_get_clears, watchF_put_clears, watchF_get_may_lie, watchF_put_may_lie, watchF_get_most_in_row, watchF_put_most_in_row, watchF_get_least_rest, watchF_put_least_rest, watchF_get_hour_costs, watchF_put_hour_costs, watchF_get_call_costs, watchF_put_call_costs, watchF_get_falls, watchF_put_falls, watchF_no_start_over, watchF_no_begins, watchF_no_crew, watchF_no_snow, watchF_no_check, watchF_no_cheapest, watchF_no_fewest, watchF_no_shallow, watchF_no_nights_that_can_be, watchF_no_nights_of_crew, watchF_no_is_plan, watchF_no_pass_hour, watchF_no_wrong_with_work, watchF_no_cost, s4 _ _ hw]
        refine ⟨_, SqL.of (s4 _ _ hl), _, atI_nat (by rw [List.getElem?_map, hf]; rfl), ?_⟩
        refine ⟨a, fl, b, dl, pl, w, n, f, z, rfl, ⟨⟨dx, s4 _ _ hw⟩, s4 _ _ hl⟩, hn4, by omega, by omega, ne_of_none hl ndl, ne_of_none hl npl, fun H5 hn5 kp5 => ?_⟩
        have s5 : Same H H5 := fun c o e => kp5 c o (s4 c o e) (by simp [ne_of_none e nb, ne_of_none e ndl, ne_of_none e npl])
        have ed : hoursH w i n (w.falls.drop i) (ns.drop i) = if (passH w n f z).2 ≠ 0 then ((passH w n f z).1, some (i, (passH w n f z).2)) else hoursH w (i + 1) (passH w n f z).1 (w.falls.drop (i + 1)) (ns.drop (i + 1)) := by
          rw [drop_at hf, drop_at hz]; rfl
        simp only [tSeq, gTup, gCons, gNil, tIfS, tRet, tRetN, tNext, tDrop, tAsg, gName, tTest, tB, tOp, tUn, tVar, tC, tChain, rI0, rI, rU, rEq, rNe, tAnd, tOr, tNot, tAndV, tOrV, tNotV, tIf, tFld, sFld, sFldAug, rAdd, rSub, tCall, tMeth, tMake, tNil, tCons, tLst, tTup, tCB, tBM, tBM0, rAppend, rExtend, rCat, rIxL, rIxT, tSl, rSlL, tNoPart, tPart, scal_int, scal_bl, sl0, sl1, sl2, sl3, sl4, cxK, L2.start, tAug, ipI, List.getElem?_cons_zero, List.getElem?_cons_succ, Option.some.injEq, V.int.injEq, V.ref.injEq, V.bl.injEq, HO.ins.injEq, HO.lst.injEq, exists_eq_left', exists_eq_left, exists_and_left, exists_and_right, and_assoc, List.map_cons, List.map_nil, List.cons_append, List.nil_append, List.append_nil, List.set_cons_zero, List.set_cons_succ, decide_eq_true_eq, true_and, and_true, List.length_cons, List.length_nil, Nat.reduceAdd, Nat.reduceSub, List.replicate_succ, List.replicate_zero, Bool.not_eq_true', decide_eq_false_iff_not, reduceCtorEq, Bool.false_eq_true, if_true, if_false, List.cons.injEq, T.cl_Night, T.cl_Watch, T.na_Night_depth, T.na_Night_depths, T.na_Night_plan, T.na_Night_worked, T.na_Night_call_outs, T.na_Night_in_row, T.na_Night_rested, T.na_Watch_deep, T.na_Watch_clears, T.na_Watch_may_lie, T.na_Watch_most_in_row, T.na_Watch_least_rest, T.na_Watch_hour_costs, T.na_Watch_call_costs, T.na_Watch_falls, nightF_lt, watchF_lt, nightF_get_depth, nightF_put_depth, nightF_get_depths, nightF_put_depths, nightF_get_plan, nightF_put_plan, nightF_get_worked, nightF_put_worked, nightF_get_call_outs, nightF_put_call_outs, nightF_get_in_row, nightF_put_in_row, nightF_get_rested, nightF_put_rested, nightF_no_copied, nightF_no_works, nightF_no_rests, nightF_no_lies, nightF_no_deepest, watchF_get_deep, watchF_put_deep, watchF_get_clears, watchF_put_clears, watchF_get_may_lie, watchF_put_may_lie, watchF_get_most_in_row, watchF_put_most_in_row, watchF_get_least_rest, watchF_put_least_rest, watchF_get_hour_costs, watchF_put_hour_costs, watchF_get_call_costs, watchF_put_call_costs, watchF_get_falls, watchF_put_falls, watchF_no_start_over, watchF_no_begins, watchF_no_crew, watchF_no_snow, watchF_no_check, watchF_no_cheapest, watchF_no_fewest, watchF_no_shallow, watchF_no_nights_that_can_be, watchF_no_nights_of_crew, watchF_no_is_plan, watchF_no_pass_hour, watchF_no_wrong_with_work, watchF_no_cost]
        split
        · rename_i hne
          have hne : (passH w n f z).2 ≠ 0 := fun q => hne (by rw [q])
          rw [if_pos hne] at ed
          intro p hp5
          have e : checkH w ns = [-6, (i : Int), (passH w n f z).2] := by
            unfold checkH
            rw [if_pos hp, he, ed]
          rw [e] at k
          exact k _ p (fun c o e => by rw [upd_ne (ne_of_none (s5 _ _ e) hp5)]; exact s5 _ _ e) (s5.free hp5) upd_same
        · rename_i hne
          have hne : (passH w n f z).2 = 0 := by simpa using hne
          rw [if_neg (by simp [hne])] at ed
          exact ⟨s5, _, hn5, by rw [pass_len hne, hnl], by rw [pass_len2 hne, hnp], hlt, by rw [he, ed]⟩
      · rintro σ H' ⟨v3, v4, v5, n, rfl, s3, hn, hnl, hnp, hil, he⟩
        rw [List.length_map] at hnl hnp he
        have hn0 := hn
        obtain ⟨⟨d9, g1⟩, g2, _⟩ := hn
        simp only [tSeq, gTup, gCons, gNil, tIfS, tRet, tRetN, tNext, tDrop, tAsg, gName, tTest, tB, tOp, tUn, tVar, tC, tChain, rI0, rI, rU, rEq, rNe, tAnd, tOr, tNot, tAndV, tOrV, tNotV, tIf, tFld, sFld, sFldAug, rAdd, rSub, tCall, tMeth, tMake, tNil, tCons, tLst, tTup, tCB, tBM, tBM0, rAppend, rExtend, rCat, rIxL, rIxT, tSl, rSlL, tNoPart, tPart, scal_int, scal_bl, sl0, sl1, sl2, sl3, sl4, cxK, L2.start, tAug, ipI, List.getElem?_cons_zero, List.getElem?_cons_succ, Option.some.injEq, V.int.injEq, V.ref.injEq, V.bl.injEq, HO.ins.injEq, HO.lst.injEq, exists_eq_left', exists_eq_left, exists_and_left, exists_and_right, and_assoc, List.map_cons, List.map_nil, List.cons_append, List.nil_append, List.append_nil, List.set_cons_zero, List.set_cons_succ, decide_eq_true_eq, true_and, and_true, List.length_cons, List.length_nil, Nat.reduceAdd, Nat.reduceSub, List.replicate_succ, List.replicate_zero, Bool.not_eq_true', decide_eq_false_iff_not, reduceCtorEq, Bool.false_eq_true, if_true, if_false, List.cons.injEq, T.cl_Night, T.cl_Watch, T.na_Night_depth, T.na_Night_depths, T.na_Night_plan, T.na_Night_worked, T.na_Night_call_outs, T.na_Night_in_row, T.na_Night_rested, T.na_Watch_deep, T.na_Watch_clears, T.na_Watch_may_lie, T.na_Watch_most_in_row, T.na_Watch_least_rest, T.na_Watch_hour_costs, T.na_Watch_call_costs, T.na_Watch_falls, nightF_lt, watchF_lt, nightF_get_depth, nightF_put_depth, nightF_get_depths, nightF_put_depths, nightF_get_plan, nightF_put_plan, nightF_get_worked, nightF_put_worked, nightF_get_call_outs, nightF_put_call_outs, nightF_get_in_row, nightF_put_in_row, nightF_get_rested, nightF_put_rested, nightF_no_copied, nightF_no_works, nightF_no_rests, nightF_no_lies, nightF_no_deepest, watchF_get_deep, watchF_put_deep, watchF_get_clears, watchF_put_clears, watchF_get_may_lie, watchF_put_may_lie, watchF_get_most_in_row, watchF_put_most_in_row, watchF_get_least_rest, watchF_put_least_rest, watchF_get_hour_costs, watchF_put_hour_costs, watchF_get_call_costs, watchF_put_call_costs, watchF_get_falls, watchF_put_falls, watchF_no_start_over, watchF_no_begins, watchF_no_crew, watchF_no_snow, watchF_no_check, watchF_no_cheapest, watchF_no_fewest, watchF_no_shallow, watchF_no_nights_that_can_be, watchF_no_nights_of_crew, watchF_no_is_plan, watchF_no_pass_hour, watchF_no_wrong_with_work, watchF_no_cost, s3 _ _ hw, g1]
        refine ⟨a, fl, b, dl, pl, w, n, rfl, ⟨⟨dx, s3 _ _ hw⟩, s3 _ _ hl⟩, hn0, hh, hc, ?_⟩
        simp only [tSeq, gTup, gCons, gNil, tIfS, tRet, tRetN, tNext, tDrop, tAsg, gName, tTest, tB, tOp, tUn, tVar, tC, tChain, rI0, rI, rU, rEq, rNe, tAnd, tOr, tNot, tAndV, tOrV, tNotV, tIf, tFld, sFld, sFldAug, rAdd, rSub, tCall, tMeth, tMake, tNil, tCons, tLst, tTup, tCB, tBM, tBM0, rAppend, rExtend, rCat, rIxL, rIxT, tSl, rSlL, tNoPart, tPart, scal_int, scal_bl, sl0, sl1, sl2, sl3, sl4, cxK, L2.start, tAug, ipI, List.getElem?_cons_zero, List.getElem?_cons_succ, Option.some.injEq, V.int.injEq, V.ref.injEq, V.bl.injEq, HO.ins.injEq, HO.lst.injEq, exists_eq_left', exists_eq_left, exists_and_left, exists_and_right, and_assoc, List.map_cons, List.map_nil, List.cons_append, List.nil_append, List.append_nil, List.set_cons_zero, List.set_cons_succ, decide_eq_true_eq, true_and, and_true, List.length_cons, List.length_nil, Nat.reduceAdd, Nat.reduceSub, List.replicate_succ, List.replicate_zero, Bool.not_eq_true', decide_eq_false_iff_not, reduceCtorEq, Bool.false_eq_true, if_true, if_false, List.cons.injEq, T.cl_Night, T.cl_Watch, T.na_Night_depth, T.na_Night_depths, T.na_Night_plan, T.na_Night_worked, T.na_Night_call_outs, T.na_Night_in_row, T.na_Night_rested, T.na_Watch_deep, T.na_Watch_clears, T.na_Watch_may_lie, T.na_Watch_most_in_row, T.na_Watch_least_rest, T.na_Watch_hour_costs, T.na_Watch_call_costs, T.na_Watch_falls, nightF_lt, watchF_lt, nightF_get_depth, nightF_put_depth, nightF_get_depths, nightF_put_depths, nightF_get_plan, nightF_put_plan, nightF_get_worked, nightF_put_worked, nightF_get_call_outs, nightF_put_call_outs, nightF_get_in_row, nightF_put_in_row, nightF_get_rested, nightF_put_rested, nightF_no_copied, nightF_no_works, nightF_no_rests, nightF_no_lies, nightF_no_deepest, watchF_get_deep, watchF_put_deep, watchF_get_clears, watchF_put_clears, watchF_get_may_lie, watchF_put_may_lie, watchF_get_most_in_row, watchF_put_most_in_row, watchF_get_least_rest, watchF_put_least_rest, watchF_get_hour_costs, watchF_put_hour_costs, watchF_get_call_costs, watchF_put_call_costs, watchF_get_falls, watchF_put_falls, watchF_no_start_over, watchF_no_begins, watchF_no_crew, watchF_no_snow, watchF_no_check, watchF_no_cheapest, watchF_no_fewest, watchF_no_shallow, watchF_no_nights_that_can_be, watchF_no_nights_of_crew, watchF_no_is_plan, watchF_no_pass_hour, watchF_no_wrong_with_work, watchF_no_cost, g1]
        intro q hq
        have s6 : Same H' (upd H' q (.lst [V.int (costH w n), V.int n.worked, V.int n.outs])) := fun c o e => by rw [upd_ne (ne_of_none e hq)]; exact e
        simp only [tSeq, gTup, gCons, gNil, tIfS, tRet, tRetN, tNext, tDrop, tAsg, gName, tTest, tB, tOp, tUn, tVar, tC, tChain, rI0, rI, rU, rEq, rNe, tAnd, tOr, tNot, tAndV, tOrV, tNotV, tIf, tFld, sFld, sFldAug, rAdd, rSub, tCall, tMeth, tMake, tNil, tCons, tLst, tTup, tCB, tBM, tBM0, rAppend, rExtend, rCat, rIxL, rIxT, tSl, rSlL, tNoPart, tPart, scal_int, scal_bl, sl0, sl1, sl2, sl3, sl4, cxK, L2.start, tAug, ipI, List.getElem?_cons_zero, List.getElem?_cons_succ, Option.some.injEq, V.int.injEq, V.ref.injEq, V.bl.injEq, HO.ins.injEq, HO.lst.injEq, exists_eq_left', exists_eq_left, exists_and_left, exists_and_right, and_assoc, List.map_cons, List.map_nil, List.cons_append, List.nil_append, List.append_nil, List.set_cons_zero, List.set_cons_succ, decide_eq_true_eq, true_and, and_true, List.length_cons, List.length_nil, Nat.reduceAdd, Nat.reduceSub, List.replicate_succ, List.replicate_zero, Bool.not_eq_true', decide_eq_false_iff_not, reduceCtorEq, Bool.false_eq_true, if_true, if_false, List.cons.injEq, T.cl_Night, T.cl_Watch, T.na_Night_depth, T.na_Night_depths, T.na_Night_plan, T.na_Night_worked, T.na_Night_call_outs, T.na_Night_in_row, T.na_Night_rested, T.na_Watch_deep, T.na_Watch_clears, T.na_Watch_may_lie, T.na_Watch_most_in_row, T.na_Watch_least_rest, T.na_Watch_hour_costs, T.na_Watch_call_costs, T.na_Watch_falls, nightF_lt, watchF_lt, nightF_get_depth, nightF_put_depth, nightF_get_depths, nightF_put_depths, nightF_get_plan, nightF_put_plan, nightF_get_worked, nightF_put_worked, nightF_get_call_outs, nightF_put_call_outs, nightF_get_in_row, nightF_put_in_row, nightF_get_rested, nightF_put_rested, nightF_no_copied, nightF_no_works, nightF_no_rests, nightF_no_lies, nightF_no_deepest, watchF_get_deep, watchF_put_deep, watchF_get_clears, watchF_put_clears, watchF_get_may_lie, watchF_put_may_lie, watchF_get_most_in_row, watchF_put_most_in_row, watchF_get_least_rest, watchF_put_least_rest, watchF_get_hour_costs, watchF_put_hour_costs, watchF_get_call_costs, watchF_put_call_costs, watchF_get_falls, watchF_put_falls, watchF_no_start_over, watchF_no_begins, watchF_no_crew, watchF_no_snow, watchF_no_check, watchF_no_cheapest, watchF_no_fewest, watchF_no_shallow, watchF_no_nights_that_can_be, watchF_no_nights_of_crew, watchF_no_is_plan, watchF_no_pass_hour, watchF_no_wrong_with_work, watchF_no_cost, s6 _ _ g1]
        refine ⟨_, upd_same, _, s6 _ _ g2, ?_, fun p hp6 => ?_⟩
        · rw [List.length_map]
          show 3 + n.depths.length ≤ sizeLine
          have : (2000 : Nat) ≤ sizeLine := by decide
          omega
        · have e : checkH w ns = [costH w n, n.worked, n.outs] ++ n.depths := by
            unfold checkH
            rw [if_pos hp, he, List.drop_length, hoursH_nil]
          rw [e] at k
          have hp7 := (upd_none hp6).2
          refine k _ p (fun c o e => ?_) (s3.free hp7) ?_
          · rw [upd_ne (ne_of_none (s6 _ _ (s3 _ _ e)) hp6)]; exact s6 _ _ (s3 _ _ e)
          · rw [upd_same, List.map_append]; rfl
end
end Snow

set_option Elab.async false
set_option linter.all false
set_option maxRecDepth 100000
set_option maxHeartbeats 2000000
namespace Snow
open PySem PySem.Spec PyProof.Rows L2
section
variable {P : Program} {w : World} {K : PySem.W.Frag} {mg : Str → Option Value} {base : Heap} {x : Adr}
/-- a night and where it stands -/
structure NA where
  a : Addr
  dl : Addr
  pl : Addr
  n : NS
def refsOf (ts : List NA) : List V := ts.map fun t => V.ref t.a
def nsOf (ts : List NA) : List NS := ts.map NA.n
def AllAt (x : Adr) (H : Hp) (ts : List NA) : Prop := ∀ t ∈ ts, NightAt x H t.a t.dl t.pl t.n
def Off (q : Addr) (ts : List NA) : Prop := ∀ t ∈ ts, t.a ≠ q ∧ t.dl ≠ q ∧ t.pl ≠ q
theorem refs_snoc (ts : List NA) (t : NA) : refsOf ts ++ [V.ref t.a] = refsOf (ts ++ [t]) := by
  unfold refsOf; rw [List.map_append]; rfl
theorem refs_len (ts : List NA) : (refsOf ts).length = ts.length := by unfold refsOf; rw [List.length_map]
theorem ns_len (ts : List NA) : (nsOf ts).length = ts.length := by unfold nsOf; rw [List.length_map]
/-- a list of nights -/
def NightsAt (x : Adr) (H : Hp) (q : Addr) (ns : List NS) : Prop := ∃ us : List NA, H q = some (.lst (refsOf us)) ∧ AllAt x H us ∧ nsOf us = ns
theorem AllAt.keep {x : Adr} {H H' : Hp} {q : Addr} {ts : List NA} (h : AllAt x H ts) (k : Keep [q] H H') (o : Off q ts) : AllAt x H' ts := fun t ht => by
  obtain ⟨h1, h2, h3⟩ := o t ht
  exact (h t ht).keep k (by simp [h1]) (by simp [h2]) (by simp [h3])
theorem AllAt.same {x : Adr} {H H' : Hp} {ts : List NA} (h : AllAt x H ts) (k : Same H H') : AllAt x H' ts := fun t ht => (h t ht).same k
theorem AllAt.off {x : Adr} {H : Hp} {q : Addr} {ts : List NA} (h : AllAt x H ts) (k : H q = none) : Off q ts := fun t ht => by
  obtain ⟨⟨dx, e⟩, l, m, _⟩ := h t ht
  exact ⟨ne_new e k, ne_new l k, ne_new m k⟩
/-- the two ways to go on from a night -/
def innerT (K : PySem.W.Frag) (x : Adr) : TS := tFor (iTup K (tTup (tCons (tC (V.int 0)) (tCons (tC (V.int 1)) tNil)))) (gName 5)
  (tSeq (tAsg (tMeth x.c_Night (Str.ofString "copied") (sp_Night_copied K x) [] E0 (tVar 4) tNil) (gName 6))
    (tIfS (tTest (tOp (rIn K false) (tMeth x.c_Watch (Str.ofString "pass_hour") (sp_Watch_pass_hour K x) [] E0 (tVar 0) (tCons (tVar 6) (tCons (tVar 2) (tCons (tVar 5) tNil)))) (tTup (tCons (tC (V.int 0)) (tCons (tC (V.int 3)) tNil)))))
      (tDrop (tBM K "list" rAppend (tVar 3) (tCons (tVar 6) tNil))) tNext))
/-- what the list has grown to -/
def Grown (x : Adr) (Hb H : Hp) (q : Addr) (us : List NA) (ns : List NS) : Prop := Keep [q] Hb H ∧ ∃ us' : List NA, H q = some (.lst (refsOf (us ++ us'))) ∧ AllAt x H us' ∧ Off q us' ∧ nsOf us' = ns
theorem flatZ_len (w : WS) (f : Int) (n : NS) : ∀ l : List Int, (l.flatMap (stepZ w f n)).length ≤ l.length
  | [] => Nat.le_refl _
  | z :: l => by
    rw [List.flatMap_cons, List.length_append, List.length_cons]
    have := stepZ_len w f n z
    have := flatZ_len w f n l
    omega
theorem inner_ok (T : Txt K mg x) {D : Ends} {a l q b fl dl pl : Addr} {f : Int} {v5 v6 : Option V} {H : Hp} {w : WS} {n : NS} {us : List NA} (hw : WatchAt x H a fl w) (hn : NightAt x H b dl pl n) (hlen : n.depths.length < 1000) (hlen2 : n.plan.length < 1000)
    (hq : H q = some (.lst (refsOf us))) (haq : a ≠ q) (hfq : fl ≠ q) (hbq : b ≠ q) (hdq : dl ≠ q) (hpq : pl ≠ q) (hus : us.length < 10000)
    (hd : ∀ (v5 v6 : Option V) (H' : Hp), Grown x H H' q us (stepN w f n) → D.nx [some (.ref a), some (.ref l), some (.int f), some (.ref q), some (.ref b), v5, v6] H') :
    innerT K x D [some (.ref a), some (.ref l), some (.int f), some (.ref q), some (.ref b), v5, v6] H := by
  unfold innerT
  have big : (1048576 : Nat) ≤ sizeLine := by decide
  refine ⟨by decide, fun tp htp => ⟨tp, rfl, ⟨_, SqT.of upd_same⟩, ?_⟩⟩
  have s0 : Same H (upd H tp (.tup [V.int 0, V.int 1])) := same_upd htp
  have qtp : q ≠ tp := ne_new hq htp
  refine for_tup (K := K) (a := tp) (xs := [V.int 0, V.int 1]) (fun m σ H' => ∃ v5 v6, σ = [some (.ref a), some (.ref l), some (.int f), some (.ref q), some (.ref b), v5, v6] ∧ H' tp = some (.tup [V.int 0, V.int 1]) ∧ Grown x H H' q us ((([0, 1] : List Int).take m).flatMap (stepZ w f n)))
    ⟨v5, v6, rfl, upd_same, Same.keep _ s0, [], ?_, fun t ht => (by cases ht), fun t ht => (by cases ht), rfl⟩ ?_ ?_ ?_
  · rw [List.append_nil]; exact s0 _ _ hq
  · rintro i σ H' _ ⟨_, _, _, h, _⟩
    exact SqT.of h
  · rintro i y σ H' hi ⟨v5, v6, rfl, ht, kp, us', hq', hat, hoff, hns⟩
    obtain ⟨z, hz, rfl⟩ : ∃ z : Int, ([0, 1] : List Int)[i]? = some z ∧ y = V.int z := map_at (f := V.int) (l := [0, 1]) hi
    simp only [tSeq, gTup, gCons, gNil, tIfS, tRet, tRetN, tNext, tDrop, tAsg, gName, tTest, tB, tOp, tUn, tVar, tC, tChain, rI0, rI, rU, rEq, rNe, tAnd, tOr, tNot, tAndV, tOrV, tNotV, tIf, tFld, sFld, sFldAug, rAdd, rSub, tCall, tMeth, tMake, tNil, tCons, tLst, tTup, tCB, tBM, tBM0, rAppend, rExtend, rCat, rIxL, rIxT, tSl, rSlL, tNoPart, tPart, scal_int, scal_bl, sl0, sl1, sl2, sl3, sl4, cxK, L2.start, tAug, ipI, List.getElem?_cons_zero, List.getElem?_cons_succ, Option.some.injEq, V.int.injEq, V.ref.injEq, V.bl.injEq, HO.ins.injEq, HO.lst.injEq, exists_eq_left', exists_eq_left, exists_and_left, exists_and_right, and_assoc, List.map_cons, List.map_nil, List.cons_append, List.nil_append, List.append_nil, List.set_cons_zero, List.set_cons_succ, decide_eq_true_eq, true_and, and_true, List.length_cons, List.length_nil, Nat.reduceAdd, Nat.reduceSub, List.replicate_succ, List.replicate_zero, Bool.not_eq_true', decide_eq_false_iff_not, reduceCtorEq, Bool.false_eq_true, if_true, if_false, List.cons.injEq, T.cl_Night, T.cl_Watch, T.na_Night_depth, T.na_Night_depths, T.na_Night_plan, T.na_Night_worked, T.na_Night_call_outs, T.na_Night_in_row, T.na_Night_rested, T.na_Watch_deep, T.na_Watch_clears, T.na_Watch_may_lie, T.na_Watch_most_in_row, T.na_Watch_least_rest, T.na_Watch_hour_costs, T.na_Watch_call_costs, T.na_Watch_falls, nightF_lt, watchF_lt, nightF_get_depth, nightF_put_depth, nightF_get_depths, nightF_put_depths, nightF_get_plan, nightF_put_plan, nightF_get_worked, nightF_put_worked, nightF_get_call_outs, nightF_put_call_outs, nightF_get_in_row, nightF_put_in_row, nightF_get_rested, nightF_put_rested, nightF_no_copied, nightF_no_works, nightF_no_rests, nightF_no_lies, nightF_no_deepest, watchF_get_deep, watchF_put_deep, watchF_get_clears, watchF_put_clears, watchF_get_may_lie, watchF_put_may_lie, watchF_get_most_in_row, watchF_put_most_in_row, watchF_get_least_rest, watchF_put_least_rest, watchF_get_hour_costs, watchF_put_hour_costs, watchF_get_call_costs, watchF_put_call_costs, watchF_get_falls, watchF_put_falls, watchF_no_start_over, watchF_no_begins, watchF_no_crew, watchF_no_snow, watchF_no_check, watchF_no_cheapest, watchF_no_fewest, watchF_no_shallow, watchF_no_nights_that_can_be, watchF_no_nights_of_crew, watchF_no_is_plan, watchF_no_pass_hour, watchF_no_wrong_with_work, watchF_no_cost]
    have hn' : NightAt x H' b dl pl n := hn.keep kp (by simp [hbq]) (by simp [hdq]) (by simp [hpq])
    have hw' : WatchAt x H' a fl w := hw.keep kp (by simp [haq]) (by simp [hfq])
    have hlus : us'.length ≤ 2 := by
      have e := congrArg List.length hns
      have e1 := flatZ_len w f n (([0, 1] : List Int).take i)
      have e2 : (([0, 1] : List Int).take i).length ≤ 2 := by rw [List.length_take]; exact Nat.min_le_right _ _
      unfold nsOf at e
      rw [List.length_map] at e
      omega
    obtain ⟨dy, hb0⟩ := hn'.ex
    refine ⟨_, _, hb0, rfl, b, dl, pl, n, rfl, hn', fun H4 b2 dl2 pl2 hb2 hd2 hp2 hn2 s4 => ?_⟩
    have hw4 : WatchAt x H4 a fl w := ⟨⟨_, s4 _ _ hw'.ex.choose_spec⟩, s4 _ _ hw'.lst⟩
    obtain ⟨dz, ha4⟩ := hw4.ex
    refine ⟨_, _, ha4, rfl, a, fl, b2, dl2, pl2, w, n, f, z, rfl, hw4, hn2, hlen, hlen2, ne_new hw'.lst hd2, ne_new hw'.lst hp2, fun H5 hn5 kp5 t3 ht3 => ?_⟩
    have s5 : Same H' H5 := fun c o e => kp5 c o (s4 c o e) (by simp [ne_new e hb2, ne_new e hd2, ne_new e hp2])
    have s6 : Same H' (upd H5 t3 (.tup [V.int 0, V.int 3])) := Same.upd s5 (Same.free s5 ht3)
    have hn6 := hn5.same (same_upd (o := .tup [V.int 0, V.int 3]) ht3)
    refine ⟨t3, _, rfl, .inr (SqT.of upd_same), rfl, rfl, _, rfl, ?_⟩
    have hv : (if false = true then !inV (V.int (passH w n f z).2) [V.int 0, V.int 3] else inV (V.int (passH w n f z).2) [V.int 0, V.int 3]) = decide ((passH w n f z).2 = 0 ∨ (passH w n f z).2 = 3) := by
      rw [if_neg Bool.false_ne_true]
      show ((0 == (passH w n f z).2) || ((3 == (passH w n f z).2) || false)) = _
      rw [Bool.or_false, Bool.eq_iff_iff, Bool.or_eq_true, decide_eq_true_eq, beq_iff_eq, beq_iff_eq]
      omega
    rw [hv]
    have k6 : Keep [q] H (upd H5 t3 (.tup [V.int 0, V.int 3])) := Keep.trans kp (Same.keep [] s6) (by simp)
    have hst : (([0, 1] : List Int).take (i + 1)).flatMap (stepZ w f n) = (([0, 1] : List Int).take i).flatMap (stepZ w f n) ++ stepZ w f n z := by
      rw [take_snoc hz, List.flatMap_append, List.flatMap_cons, List.flatMap_nil, List.append_nil]
    by_cases hr : (passH w n f z).2 = 0 ∨ (passH w n f z).2 = 3
    · rw [if_pos (decide_eq_true hr)]
      have q6 := s6 _ _ hq'
      have tq : tp ≠ q := Ne.symm qtp
      refine ⟨tyL q6, _, q6, ?_, by rw [upd_ne tq]; exact s6 _ _ ht, ?_⟩
      · unfold refsOf
        rw [List.length_map, List.length_append]
        omega
      · have bq : b2 ≠ q := Ne.symm (ne_new hq' hb2)
        have dq : dl2 ≠ q := Ne.symm (ne_new hq' hd2)
        have pq : pl2 ≠ q := Ne.symm (ne_new hq' hp2)
        refine ⟨k6.then1 (.inl (by simp)), us' ++ [⟨b2, dl2, pl2, (passH w n f z).1⟩], ?_, ?_, ?_, ?_⟩
        · rw [upd_same, ← List.append_assoc, ← refs_snoc]
        · intro t ht
          have kk : Keep [q] (upd H5 t3 (.tup [V.int 0, V.int 3])) (upd (upd H5 t3 (.tup [V.int 0, V.int 3])) q (.lst (refsOf (us ++ us') ++ [V.ref b2]))) := Keep.upd1 (.inl (by simp))
          rcases List.mem_append.mp ht with ht | ht
          · obtain ⟨h1, h2, h3⟩ := hoff t ht
            exact ((hat t ht).same s6).keep kk (by simp [h1]) (by simp [h2]) (by simp [h3])
          · have : t = ⟨b2, dl2, pl2, (passH w n f z).1⟩ := by simpa using ht
            subst this
            exact hn6.keep kk (by simp [bq]) (by simp [dq]) (by simp [pq])
        · intro t ht
          rcases List.mem_append.mp ht with ht | ht
          · exact hoff t ht
          · have : t = ⟨b2, dl2, pl2, (passH w n f z).1⟩ := by simpa using ht
            subst this
            exact ⟨bq, dq, pq⟩
        · rw [hst, ← hns]
          unfold nsOf stepZ
          rw [if_pos hr, List.map_append]
          rfl
    · rw [if_neg (by simpa using hr)]
      refine ⟨s6 _ _ ht, k6, us', s6 _ _ hq', hat.same s6, hoff, ?_⟩
      rw [hst, ← hns]
      unfold stepZ
      rw [if_neg hr, List.append_nil]
  · rintro σ H' ⟨v5, v6, rfl, ht, g⟩
    exact hd v5 v6 H' (by
      have e : stepN w f n = (([0, 1] : List Int).take 2).flatMap (stepZ w f n) := by
        show _ = [0, 1].flatMap (stepZ w f n)
        rw [List.flatMap_cons, List.flatMap_cons, List.flatMap_nil, List.append_nil]; rfl
      rw [e]; exact g)
/-- an hour of all nights -/
def middleT (K : PySem.W.Frag) (x : Adr) : TS := tFor (iList K (tVar 1)) (gName 4) (innerT K x)
theorem middle_ok (T : Txt K mg x) {D : Ends} {a l q fl : Addr} {f : Int} {v4 v5 v6 : Option V} {H : Hp} {w : WS} {ts : List NA} {i : Nat} (hw : WatchAt x H a fl w) (hl : H l = some (.lst (refsOf ts))) (hts : AllAt x H ts) (hlong : ∀ n ∈ nsOf ts, Long i n) (hi : i < 1000) (hlt : ts.length ≤ 1024)
    (hq : H q = some (.lst [])) (haq : a ≠ q) (hfq : fl ≠ q) (hlq : l ≠ q) (hoff : Off q ts)
    (hd : ∀ (v4 v5 v6 : Option V) (H' : Hp), Grown x H H' q [] ((nsOf ts).flatMap (stepN w f)) → D.nx [some (.ref a), some (.ref l), some (.int f), some (.ref q), v4, v5, v6] H') :
    middleT K x D [some (.ref a), some (.ref l), some (.int f), some (.ref q), v4, v5, v6] H := by
  unfold middleT
  refine ⟨_, rfl, l, rfl, ⟨_, SqL.of hl⟩, ?_⟩
  refine for_list (K := K) (a := l) (xs := refsOf ts) (fun j σ H' => ∃ v4 v5 v6, σ = [some (.ref a), some (.ref l), some (.int f), some (.ref q), v4, v5, v6] ∧ Grown x H H' q [] (((nsOf ts).take j).flatMap (stepN w f)))
    ⟨v4, v5, v6, rfl, Keep.refl _ _, [], hq, fun t ht => (by cases ht), fun t ht => (by cases ht), rfl⟩ ?_ ?_ ?_
  · rintro j σ H' _ ⟨_, _, _, _, kp, _⟩
    exact SqL.of (kp _ _ hl (by simp [hlq]))
  · rintro j y σ H' hj ⟨v4, v5, v6, rfl, kp, us, hus, hat, hof, hns⟩
    obtain ⟨t, ht, rfl⟩ : ∃ t : NA, ts[j]? = some t ∧ y = V.ref t.a := map_at (f := fun t : NA => V.ref t.a) (l := ts) hj
    have htm := List.mem_of_getElem? ht
    have hjl : j < ts.length := (List.getElem?_eq_some_iff.mp ht).1
    have hnj : (nsOf ts)[j]? = some t.n := by unfold nsOf; rw [List.getElem?_map, ht]; rfl
    obtain ⟨o1, o2, o3⟩ := hoff t htm
    obtain ⟨g1, g2⟩ := hlong t.n (List.mem_of_getElem? hnj)
    have hul : us.length ≤ 2 * 1024 := by
      have e := congrArg List.length hns
      have e1 := flat_len w f ((nsOf ts).take j)
      have e2 : ((nsOf ts).take j).length ≤ ts.length := by rw [List.length_take, ns_len]; exact Nat.min_le_right _ _
      rw [ns_len] at e
      omega
    show innerT K x _ [some (.ref a), some (.ref l), some (.int f), some (.ref q), some (.ref t.a), v5, v6] H'
    refine inner_ok (fl := fl) (w := w) (us := us) T (hw.keep kp (by simp [haq]) (by simp [hfq])) ((hts t htm).keep kp (by simp [o1]) (by simp [o2]) (by simp [o3])) (by omega) (by omega) hus haq hfq o1 o2 o3 (by omega) ?_
    rintro v5 v6 H5 ⟨kp5, us', hus', hat', hof', hns'⟩
    refine ⟨_, v5, v6, rfl, Keep.trans kp kp5 (fun y hy => .inl hy), us ++ us', hus', ?_, ?_, ?_⟩
    · intro u hu
      rcases List.mem_append.mp hu with hu | hu
      · exact (hat.keep kp5 hof) u hu
      · exact hat' u hu
    · intro u hu
      rcases List.mem_append.mp hu with hu | hu
      · exact hof u hu
      · exact hof' u hu
    · rw [take_snoc hnj, List.flatMap_append, List.flatMap_cons, List.flatMap_nil, List.append_nil, ← hns, ← hns']
      unfold nsOf
      rw [List.map_append]
  · rintro σ H' ⟨v4, v5, v6, rfl, g⟩
    rw [refs_len, ← ns_len, List.take_length] at g
    exact hd v4 v5 v6 H' g
def sp_Watch_nights_of_crew (K : PySem.W.Frag) (x : Adr) : Sp := fun vs H Q _ => ∃ (a fl : Addr) (w : WS), vs = [.ref a] ∧ WatchAt x H a fl w ∧ w.falls.length ≤ 10 ∧
  ∀ (H' : Hp) (p : Addr), H p = none → Same H H' → NightsAt x H' p (crewNights w w.falls [NS.new w.deep]) → Q (.ref p) H'
theorem ok_Watch_nights_of_crew (T : Txt K mg x) : FnOk P w K mg base CX0 4 x.f_Watch_nights_of_crew x.fd_Watch_nights_of_crew ["self"] (sp_Watch_nights_of_crew K x) := by
  have G_Night___init__ := ok_Night___init__ (P := P) (w := w) (base := base) T
  have G_Night_copied := ok_Night_copied (P := P) (w := w) (base := base) T
  have G_Watch_pass_hour := ok_Watch_pass_hour (P := P) (w := w) (base := base) T
  have nd := sc_Watch_nights_of_crew.nd
  refine T.F_Watch_nights_of_crew.ok sc_Watch_nights_of_crew (fun vs H Q E h => ?_) (fun cdv A outer s H vs Q E hr h => ?_)
  · obtain ⟨a, fl, w, rfl, _⟩ := h
    rfl
  · obtain ⟨a, fl, w, rfl, hw0, h10, k⟩ := h
    have hw1 := hw0
    obtain ⟨⟨dx, hw⟩, hfl⟩ := hw1
    refine ⟨_, (pss_cons (ps_set (i := 1) nd rfl (by first | exact Or.inl rfl | exact Or.inr rfl) (pe_lst (pa_cons (pe_make T.mk_Night G_Night___init__ (hr.mono (by decide)) rfl T.gc_Night T.b_Night___init__ .nil pass0 (pa_cons (pe_fld (pv 0) rfl) pa_nil)) pa_nil)))
      (pss_cons (ps_for PassesOwn.never rfl (pi_list (pe_fld (pv 0) rfl)) (pg_name (i := 2) nd rfl (by first | exact Or.inl rfl | exact Or.inr rfl))
       (pss_cons (ps_set (i := 3) nd rfl (by first | exact Or.inl rfl | exact Or.inr rfl) (pe_lst pa_nil))
       (pss_cons (ps_for PassesOwn.never rfl (pi_list (pv 1)) (pg_name (i := 4) nd rfl (by first | exact Or.inl rfl | exact Or.inr rfl))
        (pss_one (ps_for PassesOwn.never rfl (pi_tup (pe_tup (pa_cons pe_int (pa_cons pe_int pa_nil)))) (pg_name (i := 5) nd rfl (by first | exact Or.inl rfl | exact Or.inr rfl))
         (pss_cons (ps_set (i := 6) nd rfl (by first | exact Or.inl rfl | exact Or.inr rfl) (pe_meth0 (pv 4) T.cl_Night T.mt_Night_copied G_Night_copied (hr.mono (by decide)) T.b_Night_copied .nil pass0))
         (pss_one (ps_if (pt_cmpR op_in_seq (pe_meth (pv 0) T.cl_Watch T.mt_Watch_pass_hour G_Watch_pass_hour (hr.mono (by decide)) T.b_Watch_pass_hour .nil pass0 (pa_cons (pv 6) (pa_cons (pv 2) (pa_cons (pv 5) pa_nil)))) (pe_tup (pa_cons (pe_gint rfl T.g_NOTHING_WRONG) (pa_cons (pe_gint rfl T.g_TOO_DEEP) pa_nil))) (by with_unfolding_all rfl))
          (pss_one (ps_expr (pe_bm PySem.F.plainAttrs_list PySem.F.slot_list_append PySem.F.type_list_append mt_append (pv 3) (pa_cons (pv 6) pa_nil))))
          pss_nil))))))
       (pss_one (ps_set (i := 1) nd rfl (by first | exact Or.inl rfl | exact Or.inr rfl) (pv 3))))))
      (pss_one (ps_ret (pv 1))))), ?_⟩
    simp only [tSeq, gTup, gCons, gNil, tIfS, tRet, tRetN, tNext, tDrop, tAsg, gName, tTest, tB, tOp, tUn, tVar, tC, tChain, rI0, rI, rU, rEq, rNe, tAnd, tOr, tNot, tAndV, tOrV, tNotV, tIf, tFld, sFld, sFldAug, rAdd, rSub, tCall, tMeth, tMake, tNil, tCons, tLst, tTup, tCB, tBM, tBM0, rAppend, rExtend, rCat, rIxL, rIxT, tSl, rSlL, tNoPart, tPart, scal_int, scal_bl, sl0, sl1, sl2, sl3, sl4, cxK, L2.start, tAug, ipI, List.getElem?_cons_zero, List.getElem?_cons_succ, Option.some.injEq, V.int.injEq, V.ref.injEq, V.bl.injEq, HO.ins.injEq, HO.lst.injEq, exists_eq_left', exists_eq_left, exists_and_left, exists_and_right, and_assoc, List.map_cons, List.map_nil, List.cons_append, List.nil_append, List.append_nil, List.set_cons_zero, List.set_cons_succ, decide_eq_true_eq, true_and, and_true, List.length_cons, List.length_nil, Nat.reduceAdd, Nat.reduceSub, List.replicate_succ, List.replicate_zero, Bool.not_eq_true', decide_eq_false_iff_not, reduceCtorEq, Bool.false_eq_true, if_true, if_false, List.cons.injEq, T.cl_Night, T.cl_Watch, T.na_Night_depth, T.na_Night_depths, T.na_Night_plan, T.na_Night_worked, T.na_Night_call_outs, T.na_Night_in_row, T.na_Night_rested, T.na_Watch_deep, T.na_Watch_clears, T.na_Watch_may_lie, T.na_Watch_most_in_row, T.na_Watch_least_rest, T.na_Watch_hour_costs, T.na_Watch_call_costs, T.na_Watch_falls, nightF_lt, watchF_lt, nightF_get_depth, nightF_put_depth, nightF_get_depths, nightF_put_depths, nightF_get_plan, nightF_put_plan, nightF_get_worked, nightF_put_worked, nightF_get_call_outs, nightF_put_call_outs, nightF_get_in_row, nightF_put_in_row, nightF_get_rested, nightF_put_rested, nightF_no_copied, nightF_no_works, nightF_no_rests, nightF_no_lies, nightF_no_deepest, watchF_get_deep, watchF_put_deep, watchF_get_clears, watchF_put_clears, watchF_get_may_lie, watchF_put_may_lie, watchF_get_most_in_row, watchF_put_most_in_row, watchF_get_least_rest, watchF_put_least_rest, watchF_get_hour_costs, watchF_put_hour_costs, watchF_get_call_costs, watchF_put_call_costs, watchF_get_falls, watchF_put_falls, watchF_no_start_over, watchF_no_begins, watchF_no_crew, watchF_no_snow, watchF_no_check, watchF_no_cheapest, watchF_no_fewest, watchF_no_shallow, watchF_no_nights_that_can_be, watchF_no_nights_of_crew, watchF_no_is_plan, watchF_no_pass_hour, watchF_no_wrong_with_work, watchF_no_cost, hw]
    intro b db hb hdb hbb
    refine ⟨b, db, w.deep, rfl, upd_same, fun H2 dl pl hdl hpl hn kp => ⟨rfl, fun l hl => ?_⟩⟩
    have s2 : Same H H2 := fun c o e => kp c o (by rw [upd_ne (ne_new e hb), upd_ne (ne_new e hdb)]; exact e) (by simp [ne_new e hb])
    have s3 : Same H2 (upd H2 l (.lst [V.ref b])) := same_upd hl
    have s23 : Same H (upd H2 l (.lst [V.ref b])) := s2.trans s3
    have hn3 := hn.same s3
    refine ⟨_, rfl, _, _, _, _, _, rfl, s23 _ _ hw, T.cl_Watch, T.na_Watch_falls, watchF_get_falls _ _, fl, rfl, ⟨_, SqL.of (s23 _ _ hfl)⟩, ?_⟩
    refine for_list (K := K) (a := fl) (xs := w.falls.map V.int) (fun i σ H' => ∃ (l : Addr) (v2 v3 v4 v5 v6 : Option V), σ = [some (.ref a), some (.ref l), v2, v3, v4, v5, v6] ∧ Same H H' ∧ H l = none ∧ NightsAt x H' l (crewNights w (w.falls.take i) [NS.new w.deep]))
      ⟨l, _, _, _, _, _, rfl, s23, s2.free hl, [⟨b, dl, pl, NS.new w.deep⟩], upd_same, ?_, rfl⟩ ?_ ?_ ?_
    · intro t ht
      have : t = ⟨b, dl, pl, NS.new w.deep⟩ := by simpa using ht
      subst this
      exact hn3
    · rintro i σ H' _ ⟨_, _, _, _, _, _, _, s4, _⟩
      exact SqL.of (s4 _ _ hfl)
    · rintro i y σ H' hi ⟨l, v2, v3, v4, v5, v6, rfl, s4, nl, ts, hlt, hat, hns⟩
      obtain ⟨f, hf, rfl⟩ := map_at hi
      have hil : i < w.falls.length := (List.getElem?_eq_some_iff.mp hf).1
      refine ⟨Nat.zero_le _, fun q hq => ?_⟩
      have s5 : Same H' (upd H' q (.lst [])) := same_upd hq
      have htl : (w.falls.take i).length = i := by rw [List.length_take]; omega
      have hlong : ∀ n ∈ nsOf ts, Long i n := fun n hn => by
        rw [hns] at hn
        have := long_crew w (w.falls.take i) 0 [NS.new w.deep] (fun m hm => by
          have : m = NS.new w.deep := by simpa using hm
          subst this
          exact ⟨rfl, rfl⟩) n hn
        rw [htl, Nat.zero_add] at this
        exact this
      have hlen : ts.length ≤ 1024 := by
        have e := crew_len w (w.falls.take i) [NS.new w.deep]
        rw [← hns, ns_len, htl] at e
        have : 2 ^ i ≤ 2 ^ 10 := Nat.pow_le_pow_right (by decide) (by omega)
        have e : ts.length ≤ 2 ^ i * 1 := e
        omega
      show middleT K x _ [some (.ref a), some (.ref l), some (.int f), some (.ref q), v4, v5, v6] _
      refine middle_ok (fl := fl) (w := w) (i := i) T ⟨⟨dx, s5 _ _ (s4 _ _ hw)⟩, s5 _ _ (s4 _ _ hfl)⟩ (s5 _ _ hlt) (hat.same s5) hlong (by omega) hlen upd_same (ne_new (s4 _ _ hw) hq) (ne_new (s4 _ _ hfl) hq) (ne_new hlt hq) (hat.off hq) ?_
      rintro v4 v5 v6 H6 ⟨kp6, us, hus, hat6, _, hns6⟩
      refine ⟨_, rfl, q, _, _, _, _, _, rfl, ?_, s4.free hq, us, hus, hat6, ?_⟩
      · exact fun c o e => kp6 c o (s5 c o (s4 c o e)) (by simp [ne_new (s4 c o e) hq])
      · rw [take_snoc hf, crew_snoc, ← hns]; exact hns6
    · rintro σ H' ⟨l, v2, v3, v4, v5, v6, rfl, s4, nl, g⟩
      rw [List.length_map, List.take_length] at g
      exact ⟨_, rfl, k H' l nl s4 g⟩
end
end Snow

set_option Elab.async false
set_option linter.all false
set_option maxRecDepth 100000
set_option maxHeartbeats 2000000
namespace Snow
open PySem PySem.Spec PyProof.Rows L2
section
variable {P : Program} {w : World} {K : PySem.W.Frag} {mg : Str → Option Value} {base : Heap} {x : Adr}
theorem crew_long (w : WS) : ∀ n ∈ crewNights w w.falls [NS.new w.deep], Long w.falls.length n := fun n hn => by
  have := long_crew w w.falls 0 [NS.new w.deep] (fun m hm => by
    have : m = NS.new w.deep := by simpa using hm
    subst this
    exact ⟨rfl, rfl⟩) n hn
  rw [Nat.zero_add] at this
  exact this
theorem crew_1024 {w : WS} (h : w.falls.length ≤ 10) : (crewNights w w.falls [NS.new w.deep]).length ≤ 1024 := by
  have e := crew_len w w.falls [NS.new w.deep]
  have : 2 ^ w.falls.length ≤ 2 ^ 10 := Nat.pow_le_pow_right (by decide) h
  have e : (crewNights w w.falls [NS.new w.deep]).length ≤ 2 ^ w.falls.length * 1 := e
  omega
def canOf (w : WS) : List NS := (crewNights w w.falls [NS.new w.deep]).filter fun n => decide (most0 n.depths ≤ w.may)
def sp_Watch_nights_that_can_be (K : PySem.W.Frag) (x : Adr) : Sp := fun vs H Q _ => ∃ (a fl : Addr) (w : WS), vs = [.ref a] ∧ WatchAt x H a fl w ∧ w.falls.length ≤ 10 ∧
  ∀ (H' : Hp) (p : Addr), H p = none → Same H H' → NightsAt x H' p (canOf w) → Q (.ref p) H'
theorem ok_Watch_nights_that_can_be (T : Txt K mg x) : FnOk P w K mg base CX0 5 x.f_Watch_nights_that_can_be x.fd_Watch_nights_that_can_be ["self"] (sp_Watch_nights_that_can_be K x) := by
  have G_Night_deepest := ok_Night_deepest (P := P) (w := w) (base := base) T
  have G_Watch_nights_of_crew := ok_Watch_nights_of_crew (P := P) (w := w) (base := base) T
  have nd := sc_Watch_nights_that_can_be.nd
  refine T.F_Watch_nights_that_can_be.ok sc_Watch_nights_that_can_be (fun vs H Q E h => ?_) (fun cdv A outer s H vs Q E hr h => ?_)
  · obtain ⟨a, fl, w, rfl, _⟩ := h
    rfl
  · obtain ⟨a, fl, w, rfl, hw0, h10, k⟩ := h
    have hw1 := hw0
    obtain ⟨⟨dx, hw⟩, hfl⟩ := hw1
    refine ⟨_, (pss_one (ps_ret (pe_lc (own := [("night", 1)]) rfl nd (pi_list (pe_meth0 (pv 0) T.cl_Watch T.mt_Watch_nights_of_crew G_Watch_nights_of_crew (hr.mono (by decide)) T.b_Watch_nights_of_crew .nil pass0)) (blkOk_by (N := ["self", "night"]) (sc := defScope s_Watch_nights_that_can_be) (by decide +kernel)) (fun _ _ _ _ _ => (pg_name (i := 1) nd rfl (by first | exact Or.inl rfl | exact Or.inr rfl))) (fun _ _ _ _ _ => (pts_one (pt_cmpR op_le (pe_meth0 (pv 1) T.cl_Night T.mt_Night_deepest G_Night_deepest (hr.mono (by decide)) T.b_Night_deepest .nil pass0) (pe_fldK (K := K) rfl (pv 0) rfl) (nomark _)))) (fun _ _ _ _ _ => (pv 1))))), ?_⟩
    simp only [tSeq, gTup, gCons, gNil, tIfS, tRet, tRetN, tNext, tDrop, tAsg, gName, tTest, tB, tOp, tUn, tVar, tC, tChain, rI0, rI, rU, rEq, rNe, tAnd, tOr, tNot, tAndV, tOrV, tNotV, tIf, tFld, sFld, sFldAug, rAdd, rSub, tCall, tMeth, tMake, tNil, tCons, tLst, tTup, tCB, tBM, tBM0, rAppend, rExtend, rCat, rIxL, rIxT, tSl, rSlL, tNoPart, tPart, scal_int, scal_bl, sl0, sl1, sl2, sl3, sl4, cxK, L2.start, tAug, ipI, List.getElem?_cons_zero, List.getElem?_cons_succ, Option.some.injEq, V.int.injEq, V.ref.injEq, V.bl.injEq, HO.ins.injEq, HO.lst.injEq, exists_eq_left', exists_eq_left, exists_and_left, exists_and_right, and_assoc, List.map_cons, List.map_nil, List.cons_append, List.nil_append, List.append_nil, List.set_cons_zero, List.set_cons_succ, decide_eq_true_eq, true_and, and_true, List.length_cons, List.length_nil, Nat.reduceAdd, Nat.reduceSub, List.replicate_succ, List.replicate_zero, Bool.not_eq_true', decide_eq_false_iff_not, reduceCtorEq, Bool.false_eq_true, if_true, if_false, List.cons.injEq, T.cl_Night, T.cl_Watch, T.na_Night_depth, T.na_Night_depths, T.na_Night_plan, T.na_Night_worked, T.na_Night_call_outs, T.na_Night_in_row, T.na_Night_rested, T.na_Watch_deep, T.na_Watch_clears, T.na_Watch_may_lie, T.na_Watch_most_in_row, T.na_Watch_least_rest, T.na_Watch_hour_costs, T.na_Watch_call_costs, T.na_Watch_falls, nightF_lt, watchF_lt, nightF_get_depth, nightF_put_depth, nightF_get_depths, nightF_put_depths, nightF_get_plan, nightF_put_plan, nightF_get_worked, nightF_put_worked, nightF_get_call_outs, nightF_put_call_outs, nightF_get_in_row, nightF_put_in_row, nightF_get_rested, nightF_put_rested, nightF_no_copied, nightF_no_works, nightF_no_rests, nightF_no_lies, nightF_no_deepest, watchF_get_deep, watchF_put_deep, watchF_get_clears, watchF_put_clears, watchF_get_may_lie, watchF_put_may_lie, watchF_get_most_in_row, watchF_put_most_in_row, watchF_get_least_rest, watchF_put_least_rest, watchF_get_hour_costs, watchF_put_hour_costs, watchF_get_call_costs, watchF_put_call_costs, watchF_get_falls, watchF_put_falls, watchF_no_start_over, watchF_no_begins, watchF_no_crew, watchF_no_snow, watchF_no_check, watchF_no_cheapest, watchF_no_fewest, watchF_no_shallow, watchF_no_nights_that_can_be, watchF_no_nights_of_crew, watchF_no_is_plan, watchF_no_pass_hour, watchF_no_wrong_with_work, watchF_no_cost, hw]
    refine ⟨_, rfl, a, dx, _, rfl, hw, watchF_no_nights_of_crew _ _, a, fl, w, rfl, hw0, h10, fun H2 l nl s2 g => ?_⟩
    obtain ⟨ts, hl, hat, hns⟩ := g
    have hlong : ∀ t ∈ ts, Long w.falls.length t.n := fun t ht => crew_long w t.n (by rw [← hns]; exact List.mem_map.mpr ⟨t, ht, rfl⟩)
    have h24 : ts.length ≤ 1024 := by rw [← ns_len, hns]; exact crew_1024 h10
    have big : (1048576 : Nat) ≤ sizeLine := by decide
    refine ⟨l, rfl, ⟨_, SqL.of hl⟩, fun D hD => lc_list (K := K) (a := l) (xs := refsOf ts) (fun i H' => Same H2 H' ∧ H' D = some (.lst (refsOf ((ts.take i).filter fun t => decide (most0 t.n.depths ≤ w.may))))) ⟨same_upd hD, upd_same⟩ (fun i H' _ q => SqL.of (q.1 _ _ hl)) ?_ ?_⟩
    · rintro i y H' hi ⟨s3, hd⟩
      obtain ⟨t, ht, rfl⟩ : ∃ t : NA, ts[i]? = some t ∧ y = V.ref t.a := map_at (f := fun t : NA => V.ref t.a) (l := ts) hi
      have htm := List.mem_of_getElem? ht
      have hn3 := (hat t htm).same s3
      have hn4 := hn3
      obtain ⟨⟨dy, g1⟩, _⟩ := hn4
      refine ⟨rfl, ?_⟩
      have ew : List.set (wipe [some (V.ref a), none] [1]) 1 (some (V.ref t.a)) = [some (V.ref a), some (V.ref t.a)] := rfl
      simp only [ew, tSeq, gTup, gCons, gNil, tIfS, tRet, tRetN, tNext, tDrop, tAsg, gName, tTest, tB, tOp, tUn, tVar, tC, tChain, rI0, rI, rU, rEq, rNe, tAnd, tOr, tNot, tAndV, tOrV, tNotV, tIf, tFld, sFld, sFldAug, rAdd, rSub, tCall, tMeth, tMake, tNil, tCons, tLst, tTup, tCB, tBM, tBM0, rAppend, rExtend, rCat, rIxL, rIxT, tSl, rSlL, tNoPart, tPart, scal_int, scal_bl, sl0, sl1, sl2, sl3, sl4, cxK, L2.start, tAug, ipI, List.getElem?_cons_zero, List.getElem?_cons_succ, Option.some.injEq, V.int.injEq, V.ref.injEq, V.bl.injEq, HO.ins.injEq, HO.lst.injEq, exists_eq_left', exists_eq_left, exists_and_left, exists_and_right, and_assoc, List.map_cons, List.map_nil, List.cons_append, List.nil_append, List.append_nil, List.set_cons_zero, List.set_cons_succ, decide_eq_true_eq, true_and, and_true, List.length_cons, List.length_nil, Nat.reduceAdd, Nat.reduceSub, List.replicate_succ, List.replicate_zero, Bool.not_eq_true', decide_eq_false_iff_not, reduceCtorEq, Bool.false_eq_true, if_true, if_false, List.cons.injEq, T.cl_Night, T.cl_Watch, T.na_Night_depth, T.na_Night_depths, T.na_Night_plan, T.na_Night_worked, T.na_Night_call_outs, T.na_Night_in_row, T.na_Night_rested, T.na_Watch_deep, T.na_Watch_clears, T.na_Watch_may_lie, T.na_Watch_most_in_row, T.na_Watch_least_rest, T.na_Watch_hour_costs, T.na_Watch_call_costs, T.na_Watch_falls, nightF_lt, watchF_lt, nightF_get_depth, nightF_put_depth, nightF_get_depths, nightF_put_depths, nightF_get_plan, nightF_put_plan, nightF_get_worked, nightF_put_worked, nightF_get_call_outs, nightF_put_call_outs, nightF_get_in_row, nightF_put_in_row, nightF_get_rested, nightF_put_rested, nightF_no_copied, nightF_no_works, nightF_no_rests, nightF_no_lies, nightF_no_deepest, watchF_get_deep, watchF_put_deep, watchF_get_clears, watchF_put_clears, watchF_get_may_lie, watchF_put_may_lie, watchF_get_most_in_row, watchF_put_most_in_row, watchF_get_least_rest, watchF_put_least_rest, watchF_get_hour_costs, watchF_put_hour_costs, watchF_get_call_costs, watchF_put_call_costs, watchF_get_falls, watchF_put_falls, watchF_no_start_over, watchF_no_begins, watchF_no_crew, watchF_no_snow, watchF_no_check, watchF_no_cheapest, watchF_no_fewest, watchF_no_shallow, watchF_no_nights_that_can_be, watchF_no_nights_of_crew, watchF_no_is_plan, watchF_no_pass_hour, watchF_no_wrong_with_work, watchF_no_cost, g1]
      have := (hlong t htm).1
      refine ⟨t.a, t.dl, t.pl, t.n, rfl, hn3, by omega, fun H4 s4 => ?_⟩
      have hw4 := s4 _ _ (s3 _ _ (s2 _ _ hw))
      simp only [tSeq, gTup, gCons, gNil, tIfS, tRet, tRetN, tNext, tDrop, tAsg, gName, tTest, tB, tOp, tUn, tVar, tC, tChain, rI0, rI, rU, rEq, rNe, tAnd, tOr, tNot, tAndV, tOrV, tNotV, tIf, tFld, sFld, sFldAug, rAdd, rSub, tCall, tMeth, tMake, tNil, tCons, tLst, tTup, tCB, tBM, tBM0, rAppend, rExtend, rCat, rIxL, rIxT, tSl, rSlL, tNoPart, tPart, scal_int, scal_bl, sl0, sl1, sl2, sl3, sl4, cxK, L2.start, tAug, ipI, List.getElem?_cons_zero, List.getElem?_cons_succ, Option.some.injEq, V.int.injEq, V.ref.injEq, V.bl.injEq, HO.ins.injEq, HO.lst.injEq, exists_eq_left', exists_eq_left, exists_and_left, exists_and_right, and_assoc, List.map_cons, List.map_nil, List.cons_append, List.nil_append, List.append_nil, List.set_cons_zero, List.set_cons_succ, decide_eq_true_eq, true_and, and_true, List.length_cons, List.length_nil, Nat.reduceAdd, Nat.reduceSub, List.replicate_succ, List.replicate_zero, Bool.not_eq_true', decide_eq_false_iff_not, reduceCtorEq, Bool.false_eq_true, if_true, if_false, List.cons.injEq, T.cl_Night, T.cl_Watch, T.na_Night_depth, T.na_Night_depths, T.na_Night_plan, T.na_Night_worked, T.na_Night_call_outs, T.na_Night_in_row, T.na_Night_rested, T.na_Watch_deep, T.na_Watch_clears, T.na_Watch_may_lie, T.na_Watch_most_in_row, T.na_Watch_least_rest, T.na_Watch_hour_costs, T.na_Watch_call_costs, T.na_Watch_falls, nightF_lt, watchF_lt, nightF_get_depth, nightF_put_depth, nightF_get_depths, nightF_put_depths, nightF_get_plan, nightF_put_plan, nightF_get_worked, nightF_put_worked, nightF_get_call_outs, nightF_put_call_outs, nightF_get_in_row, nightF_put_in_row, nightF_get_rested, nightF_put_rested, nightF_no_copied, nightF_no_works, nightF_no_rests, nightF_no_lies, nightF_no_deepest, watchF_get_deep, watchF_put_deep, watchF_get_clears, watchF_put_clears, watchF_get_may_lie, watchF_put_may_lie, watchF_get_most_in_row, watchF_put_most_in_row, watchF_get_least_rest, watchF_put_least_rest, watchF_get_hour_costs, watchF_put_hour_costs, watchF_get_call_costs, watchF_put_call_costs, watchF_get_falls, watchF_put_falls, watchF_no_start_over, watchF_no_begins, watchF_no_crew, watchF_no_snow, watchF_no_check, watchF_no_cheapest, watchF_no_fewest, watchF_no_shallow, watchF_no_nights_that_can_be, watchF_no_nights_of_crew, watchF_no_is_plan, watchF_no_pass_hour, watchF_no_wrong_with_work, watchF_no_cost, hw4]
      have hd4 := s4 _ _ hd
      have es : (ts.take (i + 1)).filter (fun t => decide (most0 t.n.depths ≤ w.may)) = (ts.take i).filter (fun t => decide (most0 t.n.depths ≤ w.may)) ++ (if most0 t.n.depths ≤ w.may then [t] else []) := by
        rw [take_snoc ht, List.filter_append]
        congr 1
        by_cases h : most0 t.n.depths ≤ w.may
        · rw [if_pos h, List.filter_cons_of_pos (by simpa using h)]; rfl
        · rw [if_neg h, List.filter_cons_of_neg (by simpa using h)]; rfl
      split
      · rename_i h
        refine ⟨_, hd4, ?_, ?_, ?_⟩
        · rw [refs_len]
          have := List.length_filter_le (fun t : NA => decide (most0 t.n.depths ≤ w.may)) (ts.take i)
          rw [List.length_take] at this
          omega
        · exact Same.upd (s3.trans s4) hD
        · rw [upd_same, refs_snoc, es, if_pos h]
      · rename_i h
        refine ⟨s3.trans s4, ?_⟩
        rw [es, if_neg h, List.append_nil]; exact hd4
    · rintro H' ⟨s3, hd⟩
      rw [refs_len, List.take_length] at hd
      refine k H' D (s2.free hD) (s2.trans s3) ⟨_, hd, fun t ht => (hat t (List.mem_filter.mp ht).1).same s3, ?_⟩
      unfold canOf
      rw [← hns]
      unfold nsOf
      rw [List.filter_map]
      rfl
end
end Snow

set_option Elab.async false
set_option linter.all false
set_option maxRecDepth 100000
set_option maxHeartbeats 2000000
namespace Snow
open PySem PySem.Spec PyProof.Rows L2
section
variable {P : Program} {w : World} {K : PySem.W.Frag} {mg : Str → Option Value} {base : Heap} {x : Adr}
def deepsOf (w : WS) : List Int := (crewNights w w.falls [NS.new w.deep]).map fun n => most0 n.depths
def sp_Watch_shallow (K : PySem.W.Frag) (x : Adr) : Sp := fun vs H Q _ => ∃ (a fl : Addr) (w : WS), vs = [.ref a] ∧ WatchAt x H a fl w ∧ w.falls.length ≤ 10 ∧
  ∀ (H' : Hp) (p : Addr) (m : Int), m ∈ deepsOf w → (∀ y ∈ deepsOf w, m ≤ y) → H p = none → Same H H' → H' p = some (.lst [V.int m]) → Q (.ref p) H'
theorem ok_Watch_shallow (T : Txt K mg x) : FnOk P w K mg base CX0 5 x.f_Watch_shallow x.fd_Watch_shallow ["self"] (sp_Watch_shallow K x) := by
  have G_Watch_nights_of_crew := ok_Watch_nights_of_crew (P := P) (w := w) (base := base) T
  have G_Night_deepest := ok_Night_deepest (P := P) (w := w) (base := base) T
  have nd := sc_Watch_shallow.nd
  refine T.F_Watch_shallow.ok sc_Watch_shallow (fun vs H Q E h => ?_) (fun cdv A outer s H vs Q E hr h => ?_)
  · obtain ⟨a, fl, w, rfl, _⟩ := h
    rfl
  · obtain ⟨a, fl, w, rfl, hw0, h10, k⟩ := h
    have hw1 := hw0
    obtain ⟨⟨dx, hw⟩, hfl⟩ := hw1
    refine ⟨_, (pss_one (ps_ret (pe_lst (pa_cons (pe_callB (cr_min rfl) (by rfl) T.bl_min boot_min (pa_cons (pe_lc (own := [("night", 1)]) rfl nd (pi_list (pe_meth0 (pv 0) T.cl_Watch T.mt_Watch_nights_of_crew G_Watch_nights_of_crew (hr.mono (by decide)) T.b_Watch_nights_of_crew .nil pass0)) (blkOk_by (N := ["self", "night"]) (sc := defScope s_Watch_shallow) (by decide +kernel)) (fun _ _ _ _ _ => (pg_name (i := 1) nd rfl (by first | exact Or.inl rfl | exact Or.inr rfl))) (fun _ _ _ _ _ => pts_nil) (fun _ _ _ _ _ => (pe_meth0 (pv 1) T.cl_Night T.mt_Night_deepest G_Night_deepest (hr.mono (by decide)) T.b_Night_deepest .nil pass0))) pa_nil)) pa_nil)))), ?_⟩
    simp only [tSeq, gTup, gCons, gNil, tIfS, tRet, tRetN, tNext, tDrop, tAsg, gName, tTest, tB, tOp, tUn, tVar, tC, tChain, rI0, rI, rU, rEq, rNe, tAnd, tOr, tNot, tAndV, tOrV, tNotV, tIf, tFld, sFld, sFldAug, rAdd, rSub, tCall, tMeth, tMake, tNil, tCons, tLst, tTup, tCB, tBM, tBM0, rAppend, rExtend, rCat, rIxL, rIxT, tSl, rSlL, tNoPart, tPart, scal_int, scal_bl, sl0, sl1, sl2, sl3, sl4, cxK, L2.start, tAug, ipI, List.getElem?_cons_zero, List.getElem?_cons_succ, Option.some.injEq, V.int.injEq, V.ref.injEq, V.bl.injEq, HO.ins.injEq, HO.lst.injEq, exists_eq_left', exists_eq_left, exists_and_left, exists_and_right, and_assoc, List.map_cons, List.map_nil, List.cons_append, List.nil_append, List.append_nil, List.set_cons_zero, List.set_cons_succ, decide_eq_true_eq, true_and, and_true, List.length_cons, List.length_nil, Nat.reduceAdd, Nat.reduceSub, List.replicate_succ, List.replicate_zero, Bool.not_eq_true', decide_eq_false_iff_not, reduceCtorEq, Bool.false_eq_true, if_true, if_false, List.cons.injEq, T.cl_Night, T.cl_Watch, T.na_Night_depth, T.na_Night_depths, T.na_Night_plan, T.na_Night_worked, T.na_Night_call_outs, T.na_Night_in_row, T.na_Night_rested, T.na_Watch_deep, T.na_Watch_clears, T.na_Watch_may_lie, T.na_Watch_most_in_row, T.na_Watch_least_rest, T.na_Watch_hour_costs, T.na_Watch_call_costs, T.na_Watch_falls, nightF_lt, watchF_lt, nightF_get_depth, nightF_put_depth, nightF_get_depths, nightF_put_depths, nightF_get_plan, nightF_put_plan, nightF_get_worked, nightF_put_worked, nightF_get_call_outs, nightF_put_call_outs, nightF_get_in_row, nightF_put_in_row, nightF_get_rested, nightF_put_rested, nightF_no_copied, nightF_no_works, nightF_no_rests, nightF_no_lies, nightF_no_deepest, watchF_get_deep, watchF_put_deep, watchF_get_clears, watchF_put_clears, watchF_get_may_lie, watchF_put_may_lie, watchF_get_most_in_row, watchF_put_most_in_row, watchF_get_least_rest, watchF_put_least_rest, watchF_get_hour_costs, watchF_put_hour_costs, watchF_get_call_costs, watchF_put_call_costs, watchF_get_falls, watchF_put_falls, watchF_no_start_over, watchF_no_begins, watchF_no_crew, watchF_no_snow, watchF_no_check, watchF_no_cheapest, watchF_no_fewest, watchF_no_shallow, watchF_no_nights_that_can_be, watchF_no_nights_of_crew, watchF_no_is_plan, watchF_no_pass_hour, watchF_no_wrong_with_work, watchF_no_cost, hw]
    refine ⟨_, rfl, a, dx, _, rfl, hw, watchF_no_nights_of_crew _ _, a, fl, w, rfl, hw0, h10, fun H2 l nl s2 g => ?_⟩
    obtain ⟨ts, hl, hat, hns⟩ := g
    have hlong : ∀ t ∈ ts, Long w.falls.length t.n := fun t ht => crew_long w t.n (by rw [← hns]; exact List.mem_map.mpr ⟨t, ht, rfl⟩)
    have h24 : ts.length ≤ 1024 := by rw [← ns_len, hns]; exact crew_1024 h10
    have big : (1048576 : Nat) ≤ sizeLine := by decide
    refine ⟨l, rfl, ⟨_, SqL.of hl⟩, fun D hD => lc_list (K := K) (a := l) (xs := refsOf ts) (fun i H' => Same H2 H' ∧ H' D = some (.lst ((((nsOf ts).take i).map fun n => most0 n.depths).map V.int))) ⟨same_upd hD, upd_same⟩ (fun i H' _ q => SqL.of (q.1 _ _ hl)) ?_ ?_⟩
    · rintro i y H' hi ⟨s3, hd⟩
      obtain ⟨t, ht, rfl⟩ : ∃ t : NA, ts[i]? = some t ∧ y = V.ref t.a := map_at (f := fun t : NA => V.ref t.a) (l := ts) hi
      have htm := List.mem_of_getElem? ht
      have hnj : (nsOf ts)[i]? = some t.n := by unfold nsOf; rw [List.getElem?_map, ht]; rfl
      have hn3 := (hat t htm).same s3
      have hn4 := hn3
      obtain ⟨⟨dy, g1⟩, _⟩ := hn4
      refine ⟨rfl, ?_⟩
      have ew : List.set (wipe [some (V.ref a), none] [1]) 1 (some (V.ref t.a)) = [some (V.ref a), some (V.ref t.a)] := rfl
      simp only [tYes, ew, tSeq, gTup, gCons, gNil, tIfS, tRet, tRetN, tNext, tDrop, tAsg, gName, tTest, tB, tOp, tUn, tVar, tC, tChain, rI0, rI, rU, rEq, rNe, tAnd, tOr, tNot, tAndV, tOrV, tNotV, tIf, tFld, sFld, sFldAug, rAdd, rSub, tCall, tMeth, tMake, tNil, tCons, tLst, tTup, tCB, tBM, tBM0, rAppend, rExtend, rCat, rIxL, rIxT, tSl, rSlL, tNoPart, tPart, scal_int, scal_bl, sl0, sl1, sl2, sl3, sl4, cxK, L2.start, tAug, ipI, List.getElem?_cons_zero, List.getElem?_cons_succ, Option.some.injEq, V.int.injEq, V.ref.injEq, V.bl.injEq, HO.ins.injEq, HO.lst.injEq, exists_eq_left', exists_eq_left, exists_and_left, exists_and_right, and_assoc, List.map_cons, List.map_nil, List.cons_append, List.nil_append, List.append_nil, List.set_cons_zero, List.set_cons_succ, decide_eq_true_eq, true_and, and_true, List.length_cons, List.length_nil, Nat.reduceAdd, Nat.reduceSub, List.replicate_succ, List.replicate_zero, Bool.not_eq_true', decide_eq_false_iff_not, reduceCtorEq, Bool.false_eq_true, if_true, if_false, List.cons.injEq, T.cl_Night, T.cl_Watch, T.na_Night_depth, T.na_Night_depths, T.na_Night_plan, T.na_Night_worked, T.na_Night_call_outs, T.na_Night_in_row, T.na_Night_rested, T.na_Watch_deep, T.na_Watch_clears, T.na_Watch_may_lie, T.na_Watch_most_in_row, T.na_Watch_least_rest, T.na_Watch_hour_costs, T.na_Watch_call_costs, T.na_Watch_falls, nightF_lt, watchF_lt, nightF_get_depth, nightF_put_depth, nightF_get_depths, nightF_put_depths, nightF_get_plan, nightF_put_plan, nightF_get_worked, nightF_put_worked, nightF_get_call_outs, nightF_put_call_outs, nightF_get_in_row, nightF_put_in_row, nightF_get_rested, nightF_put_rested, nightF_no_copied, nightF_no_works, nightF_no_rests, nightF_no_lies, nightF_no_deepest, watchF_get_deep, watchF_put_deep, watchF_get_clears, watchF_put_clears, watchF_get_may_lie, watchF_put_may_lie, watchF_get_most_in_row, watchF_put_most_in_row, watchF_get_least_rest, watchF_put_least_rest, watchF_get_hour_costs, watchF_put_hour_costs, watchF_get_call_costs, watchF_put_call_costs, watchF_get_falls, watchF_put_falls, watchF_no_start_over, watchF_no_begins, watchF_no_crew, watchF_no_snow, watchF_no_check, watchF_no_cheapest, watchF_no_fewest, watchF_no_shallow, watchF_no_nights_that_can_be, watchF_no_nights_of_crew, watchF_no_is_plan, watchF_no_pass_hour, watchF_no_wrong_with_work, watchF_no_cost, g1]
      have := (hlong t htm).1
      refine ⟨t.a, t.dl, t.pl, t.n, rfl, hn3, by omega, fun H4 s4 => ⟨_, s4 _ _ hd, ?_, Same.upd (s3.trans s4) hD, ?_⟩⟩
      · rw [List.length_map, List.length_map, List.length_take, ns_len]
        omega
      · rw [upd_same, take_snoc hnj, List.map_append, List.map_append]
        rfl
    · rintro H' ⟨s3, hd⟩
      rw [refs_len, ← ns_len, List.take_length, hns] at hd
      refine ⟨D, deepsOf w, rfl, SqL.of hd, ?_, fun m h1 h2 p hp => k _ p m h1 h2 ((s2.trans s3).free hp) (Same.upd (s2.trans s3) ((s2.trans s3).free hp)) upd_same⟩
      unfold deepsOf
      rw [List.length_map]
      exact crew_pos w w.falls _ (Nat.succ_pos _)
def Rk.tri (t : Rk) : Int × Int × List Int := (t.a, t.b, t.ns)
def RkH (H : Hp) (n : Nat) (t : Rk) : Prop := H t.loc = some (.tup [.int t.a, .int t.b, .ref t.pl]) ∧ H t.pl = some (.lst (t.ns.map V.int)) ∧ t.ns.length = n
def locsOf (ts : List Rk) : List V := ts.map fun t => V.ref t.loc
def sp_best_answer (K : PySem.W.Frag) (x : Adr) : Sp := fun vs H Q _ => ∃ (l : Addr) (ts : List Rk) (n : Nat), vs = [.ref l] ∧ H l = some (.lst (locsOf ts)) ∧ (∀ t ∈ ts, RkH H n t) ∧ n ≤ 10 ∧ ts.length ≤ 1024 ∧
  ∀ (H' : Hp) (p : Addr) (out : List Int), BestOf (ts.map Rk.tri) out → H p = none → Same H H' → H' p = some (.lst (out.map V.int)) → Q (.ref p) H'
theorem ok_best_answer (T : Txt K mg x) : FnOk P w K mg base CX0 1 x.f_best_answer x.fd_best_answer ["ranked"] (sp_best_answer K x) := by
  have nd := sc_best_answer.nd
  refine T.F_best_answer.ok sc_best_answer (fun vs H Q E h => ?_) (fun cdv A outer s H vs Q E hr h => ?_)
  · obtain ⟨l, ts, n, rfl, _⟩ := h
    rfl
  · obtain ⟨l, ts, n, rfl, hl, hts, h10, h24, k⟩ := h
    refine ⟨_, (pss_cons (ps_if (pt_cmpR op_eq (pe_callB call_len_seq (by rfl) T.bl_len PySem.boot_len (pa_cons (pv 0) pa_nil)) pe_int (nomark _))
       (pss_one (ps_ret (pe_lst (pa_cons (pe_gint rfl T.g_CANNOT_BE) pa_nil))))
       pss_nil)
      (pss_cons (ps_set (i := 1) nd rfl (by first | exact Or.inl rfl | exact Or.inr rfl) (pe_callB (cr_minT rfl hr.units) (by rfl) T.bl_min boot_min (pa_cons (pv 0) pa_nil)))
      (pss_cons (ps_setLc (i := 2) (own := [("rank", 3)]) rfl nd rfl rfl (by rfl) (pi_list (pv 0)) (blkOk_by (N := ["ranked", "best", "as_good", "rank"]) (sc := defScope s_best_answer) (by decide +kernel)) (fun _ _ _ _ _ => (pg_name (i := 3) nd rfl (by first | exact Or.inl rfl | exact Or.inr rfl))) (fun _ _ _ _ _ => (pts_one (PW.pt (pw_and (pt_cmpR op_eq (pe_ix (ix_tup_K (K := K) rfl) (pv 3) pe_int (fun _ _ => rfl)) (pe_ix (ix_tup_K (K := K) rfl) (pv 1) pe_int (fun _ _ => rfl)) (nomark _)) (pw_and1 (pt_cmpR op_eq (pe_ix (ix_tup_K (K := K) rfl) (pv 3) pe_int (fun _ _ => rfl)) (pe_ix (ix_tup_K (K := K) rfl) (pv 1) pe_int (fun _ _ => rfl)) (nomark _))))))) (fun _ _ _ _ _ => (pv 3)))
      (pss_one (ps_ret (pe_op op_cat (pe_lst (pa_cons (pe_ix ix_tup (pv 1) pe_int (fun _ _ => rfl)) (pa_cons (pe_ix ix_tup (pv 1) pe_int (fun _ _ => rfl)) (pa_cons (pe_callB call_len_seq (by rfl) T.bl_len PySem.boot_len (pa_cons (pv 2) pa_nil)) pa_nil)))) (pe_ix ix_tup (pv 1) pe_int (fun _ _ => rfl)))))))), ?_⟩
    simp only [tSeq, gTup, gCons, gNil, tIfS, tRet, tRetN, tNext, tDrop, tAsg, gName, tTest, tB, tOp, tUn, tVar, tC, tChain, rI0, rI, rU, rEq, rNe, tAnd, tOr, tNot, tAndV, tOrV, tNotV, tIf, tFld, sFld, sFldAug, rAdd, rSub, tCall, tMeth, tMake, tNil, tCons, tLst, tTup, tCB, tBM, tBM0, rAppend, rExtend, rCat, rIxL, rIxT, tSl, rSlL, tNoPart, tPart, scal_int, scal_bl, sl0, sl1, sl2, sl3, sl4, cxK, L2.start, tAug, ipI, List.getElem?_cons_zero, List.getElem?_cons_succ, Option.some.injEq, V.int.injEq, V.ref.injEq, V.bl.injEq, HO.ins.injEq, HO.lst.injEq, exists_eq_left', exists_eq_left, exists_and_left, exists_and_right, and_assoc, List.map_cons, List.map_nil, List.cons_append, List.nil_append, List.append_nil, List.set_cons_zero, List.set_cons_succ, decide_eq_true_eq, true_and, and_true, List.length_cons, List.length_nil, Nat.reduceAdd, Nat.reduceSub, List.replicate_succ, List.replicate_zero, Bool.not_eq_true', decide_eq_false_iff_not, reduceCtorEq, Bool.false_eq_true, if_true, if_false, List.cons.injEq, T.cl_Night, T.cl_Watch, T.na_Night_depth, T.na_Night_depths, T.na_Night_plan, T.na_Night_worked, T.na_Night_call_outs, T.na_Night_in_row, T.na_Night_rested, T.na_Watch_deep, T.na_Watch_clears, T.na_Watch_may_lie, T.na_Watch_most_in_row, T.na_Watch_least_rest, T.na_Watch_hour_costs, T.na_Watch_call_costs, T.na_Watch_falls, nightF_lt, watchF_lt, nightF_get_depth, nightF_put_depth, nightF_get_depths, nightF_put_depths, nightF_get_plan, nightF_put_plan, nightF_get_worked, nightF_put_worked, nightF_get_call_outs, nightF_put_call_outs, nightF_get_in_row, nightF_put_in_row, nightF_get_rested, nightF_put_rested, nightF_no_copied, nightF_no_works, nightF_no_rests, nightF_no_lies, nightF_no_deepest, watchF_get_deep, watchF_put_deep, watchF_get_clears, watchF_put_clears, watchF_get_may_lie, watchF_put_may_lie, watchF_get_most_in_row, watchF_put_most_in_row, watchF_get_least_rest, watchF_put_least_rest, watchF_get_hour_costs, watchF_put_hour_costs, watchF_get_call_costs, watchF_put_call_costs, watchF_get_falls, watchF_put_falls, watchF_no_start_over, watchF_no_begins, watchF_no_crew, watchF_no_snow, watchF_no_check, watchF_no_cheapest, watchF_no_fewest, watchF_no_shallow, watchF_no_nights_that_can_be, watchF_no_nights_of_crew, watchF_no_is_plan, watchF_no_pass_hour, watchF_no_wrong_with_work, watchF_no_cost]
    have big : (1048576 : Nat) ≤ sizeLine := by decide
    have ll : (locsOf ts).length = ts.length := by unfold locsOf; rw [List.length_map]
    refine ⟨_, .inl (SqL.of hl), ?_⟩
    rw [ll]
    split
    · rename_i h0
      have h0 : ts = [] := List.eq_nil_of_length_eq_zero (by omega)
      subst h0
      exact fun p hp => k _ p [-6] (.inl ⟨rfl, rfl⟩) hp (same_upd hp) upd_same
    · rename_i h0
      refine ⟨l, ts, n, rfl, SqL.of hl, by omega, fun t ht => ⟨SqT.of (hts t ht).1, SqL.of (hts t ht).2.1, (hts t ht).2.2⟩, fun t ht hmin => ?_⟩
      obtain ⟨b1, b2, b3⟩ := hts t ht
      refine ⟨_, rfl, l, rfl, ⟨_, SqL.of hl⟩, fun D hD => lc_list (K := K) (a := l) (xs := locsOf ts) (fun i H' => Same H H' ∧ H' D = some (.lst (locsOf ((ts.take i).filter fun u => decide (u.a = t.a ∧ u.b = t.b))))) ⟨same_upd hD, upd_same⟩ (fun i H' _ q => SqL.of (q.1 _ _ hl)) ?_ ?_⟩
      · rintro i y H' hi ⟨s3, hd⟩
        obtain ⟨u, hu, rfl⟩ : ∃ u : Rk, ts[i]? = some u ∧ y = V.ref u.loc := map_at (f := fun u : Rk => V.ref u.loc) (l := ts) hi
        obtain ⟨c1, c2, c3⟩ := hts u (List.mem_of_getElem? hu)
        refine ⟨rfl, ?_⟩
        have ew : List.set (wipe [some (V.ref l), some (V.ref t.loc), none, none] [3]) 3 (some (V.ref u.loc)) = [some (V.ref l), some (V.ref t.loc), none, some (V.ref u.loc)] := rfl
        simp only [ew, tSeq, gTup, gCons, gNil, tIfS, tRet, tRetN, tNext, tDrop, tAsg, gName, tTest, tB, tOp, tUn, tVar, tC, tChain, rI0, rI, rU, rEq, rNe, tAnd, tOr, tNot, tAndV, tOrV, tNotV, tIf, tFld, sFld, sFldAug, rAdd, rSub, tCall, tMeth, tMake, tNil, tCons, tLst, tTup, tCB, tBM, tBM0, rAppend, rExtend, rCat, rIxL, rIxT, tSl, rSlL, tNoPart, tPart, scal_int, scal_bl, sl0, sl1, sl2, sl3, sl4, cxK, L2.start, tAug, ipI, List.getElem?_cons_zero, List.getElem?_cons_succ, Option.some.injEq, V.int.injEq, V.ref.injEq, V.bl.injEq, HO.ins.injEq, HO.lst.injEq, exists_eq_left', exists_eq_left, exists_and_left, exists_and_right, and_assoc, List.map_cons, List.map_nil, List.cons_append, List.nil_append, List.append_nil, List.set_cons_zero, List.set_cons_succ, decide_eq_true_eq, true_and, and_true, List.length_cons, List.length_nil, Nat.reduceAdd, Nat.reduceSub, List.replicate_succ, List.replicate_zero, Bool.not_eq_true', decide_eq_false_iff_not, reduceCtorEq, Bool.false_eq_true, if_true, if_false, List.cons.injEq]
        have es : (ts.take (i + 1)).filter (fun u => decide (u.a = t.a ∧ u.b = t.b)) = (ts.take i).filter (fun u => decide (u.a = t.a ∧ u.b = t.b)) ++ (if u.a = t.a ∧ u.b = t.b then [u] else []) := by
          rw [take_snoc hu, List.filter_append]
          congr 1
          by_cases h : u.a = t.a ∧ u.b = t.b
          · rw [if_pos h, List.filter_cons_of_pos (by simpa using h)]; rfl
          · rw [if_neg h, List.filter_cons_of_neg (by rw [decide_eq_true_eq]; exact h)]; rfl
        have no : ¬ (u.a = t.a ∧ u.b = t.b) → Same H H' ∧ H' D = some (HO.lst (locsOf ((ts.take (i + 1)).filter fun u => decide (u.a = t.a ∧ u.b = t.b)))) := fun h => by
          refine ⟨s3, ?_⟩
          rw [es, if_neg h, List.append_nil]; exact hd
        refine ⟨_, SqT.of (s3 _ _ c1), V.int u.a, rfl, _, SqT.of (s3 _ _ b1), V.int t.a, rfl, rfl, ?_⟩
        split
        · rename_i h1
          have h1 : u.a = t.a := by injection h1
          refine ⟨_, SqT.of (s3 _ _ c1), V.int u.b, rfl, _, SqT.of (s3 _ _ b1), V.int t.b, rfl, rfl, ?_⟩
          split
          · rename_i h2
            have h2 : u.b = t.b := by injection h2
            refine ⟨_, hd, ?_, Same.upd s3 hD, ?_⟩
            · have := List.length_filter_le (fun u : Rk => decide (u.a = t.a ∧ u.b = t.b)) (ts.take i)
              rw [List.length_take] at this
              unfold locsOf
              rw [List.length_map]
              omega
            · rw [upd_same, es, if_pos ⟨h1, h2⟩]
              unfold locsOf
              rw [List.map_append]
              rfl
          · rename_i h2
            exact no fun h => h2 (by rw [h.2])
        · rename_i h1
          exact no fun h => h1 (by rw [h.1])
      · rintro H' ⟨s3, hd⟩
        rw [ll, List.take_length] at hd
        refine ⟨t.loc, rfl, _, SqT.of (s3 _ _ b1), V.int t.a, rfl, t.loc, rfl, _, SqT.of (s3 _ _ b1), V.int t.b, rfl, D, rfl, _, .inl (SqL.of hd), fun p hp => ?_⟩
        have s4 : ∀ o, Same H' (upd H' p o) := fun o => same_upd hp
        refine ⟨t.loc, rfl, _, SqT.of (s4 _ _ _ (s3 _ _ b1)), V.ref t.pl, rfl, t.pl, rfl, _, upd_same, _, s4 _ _ _ (s3 _ _ b2), ?_, fun p2 hp2 => ?_⟩
        · rw [List.length_map]
          show 3 + t.ns.length ≤ sizeLine
          omega
        · have np : H p = none := s3.free hp
          have np2 : H p2 = none := (s3.trans (s4 _)).free hp2
          refine k _ p2 (t.a :: t.b :: ((ts.filter fun u => decide (u.a = t.a ∧ u.b = t.b)).length : Int) :: t.ns) (.inr ⟨t.tri, List.mem_map.mpr ⟨t, ht, rfl⟩, fun v hv => ?_, ?_⟩) np2 (Same.upd (s3.trans (s4 _)) np2) ?_
          · obtain ⟨u, hu, rfl⟩ := List.mem_map.mp hv
            exact hmin u hu
          · rw [List.countP_map, List.countP_eq_length_filter]; rfl
          · rw [upd_same]
            unfold locsOf
            rw [List.length_map]
            rfl
end
end Snow

set_option Elab.async false
set_option linter.all false
set_option maxRecDepth 100000
set_option maxHeartbeats 2000000
namespace Snow
open PySem PySem.Spec PyProof.Rows L2
section
variable {P : Program} {w : World} {K : PySem.W.Frag} {mg : Str → Option Value} {base : Heap} {x : Adr}
/-- the list of ranks at D, as far as it has grown -/
structure Ranks (H2 H : Hp) (D : Addr) (n : Nat) (ks : List (Int × Int × List Int)) : Prop where
  same : Same H2 H
  ex : ∃ rs : List Rk, H D = some (.lst (locsOf rs)) ∧ (∀ r ∈ rs, RkH H n r ∧ r.loc ≠ D ∧ r.pl ≠ D) ∧ rs.map Rk.tri = ks
theorem Ranks.nil {H2 : Hp} {D : Addr} {n : Nat} (h : H2 D = none) : Ranks H2 (upd H2 D (.lst [])) D n [] := ⟨same_upd h, [], upd_same, fun r hr => (by cases hr), rfl⟩
theorem Ranks.keep {H2 H H' : Hp} {D : Addr} {n : Nat} {ks : List (Int × Int × List Int)} (r : Ranks H2 H D n ks) (s : Same H H') : Ranks H2 H' D n ks := by
  obtain ⟨s0, rs, h1, h2, h3⟩ := r
  exact ⟨s0.trans s, rs, s _ _ h1, fun r hr => ⟨⟨s _ _ (h2 r hr).1.1, s _ _ (h2 r hr).1.2.1, (h2 r hr).1.2.2⟩, (h2 r hr).2⟩, h3⟩
theorem Ranks.len {H2 H : Hp} {D : Addr} {n : Nat} {ks : List (Int × Int × List Int)} (r : Ranks H2 H D n ks) : ∃ acc, H D = some (.lst acc) ∧ acc.length = ks.length := by
  obtain ⟨s0, rs, h1, h2, rfl⟩ := r
  exact ⟨_, h1, by unfold locsOf; rw [List.length_map, List.length_map]⟩
/-- one more -/
theorem Ranks.more {H2 H : Hp} {D p pl : Addr} {n : Nat} {ks : List (Int × Int × List Int)} {acc : List V} {a b : Int} {ns : List Int} (r : Ranks H2 H D n ks) (hD : H2 D = none) (hp : H p = none) (hpl : H pl = some (.lst (ns.map V.int))) (hne : pl ≠ D) (hn : ns.length = n)
    (hacc : upd H p (.tup [.int a, .int b, .ref pl]) D = some (.lst acc)) : Ranks H2 (upd (upd H p (.tup [.int a, .int b, .ref pl])) D (.lst (acc ++ [.ref p]))) D n (ks ++ [(a, b, ns)]) := by
  have s1 : Same H (upd H p (.tup [.int a, .int b, .ref pl])) := same_upd hp
  obtain ⟨s0, rs, h1, h2, rfl⟩ := r.keep s1
  have pD : p ≠ D := Ne.symm (ne_new (r.len.choose_spec.1) hp)
  rw [h1] at hacc
  have hacc : locsOf rs = acc := by
    injection hacc with hacc
    injection hacc
  refine ⟨Same.upd s0 hD, rs ++ [⟨p, a, b, pl, ns⟩], ?_, fun r hr => ?_, by rw [List.map_append]; rfl⟩
  · rw [upd_same, ← hacc]
    unfold locsOf
    rw [List.map_append]; rfl
  · rcases List.mem_append.mp hr with hr | hr
    · obtain ⟨⟨g1, g2, g3⟩, g4, g5⟩ := h2 r hr
      exact ⟨⟨by rw [upd_ne g4]; exact g1, by rw [upd_ne g5]; exact g2, g3⟩, g4, g5⟩
    · have : r = ⟨p, a, b, pl, ns⟩ := by simpa using hr
      subst this
      exact ⟨⟨by show upd _ D _ p = _; rw [upd_ne pD, upd_same], by show upd _ D _ pl = _; rw [upd_ne hne]; exact s1 _ _ hpl, hn⟩, pD, hne⟩
theorem can_long (w : WS) : ∀ n ∈ canOf w, Long w.falls.length n := fun n hn => crew_long w n (List.mem_filter.mp hn).1
theorem can_1024 {w : WS} (h : w.falls.length ≤ 10) : (canOf w).length ≤ 1024 := Nat.le_trans (List.length_filter_le ..) (crew_1024 h)
def cheapKeys (w : WS) : List (Int × Int × List Int) := (canOf w).map fun n => (costH w n, n.worked, n.plan)
def sp_Watch_cheapest (K : PySem.W.Frag) (x : Adr) : Sp := fun vs H Q _ => ∃ (a fl : Addr) (w : WS), vs = [.ref a] ∧ WatchAt x H a fl w ∧ w.falls.length ≤ 10 ∧ (0 ≤ w.hour ∧ w.hour ≤ 1000) ∧ (0 ≤ w.call ∧ w.call ≤ 1000) ∧
  ∀ (H' : Hp) (p : Addr) (out : List Int), BestOf (cheapKeys w) out → H p = none → Same H H' → H' p = some (.lst (out.map V.int)) → Q (.ref p) H'
theorem ok_Watch_cheapest (T : Txt K mg x) : FnOk P w K mg base CX0 6 x.f_Watch_cheapest x.fd_Watch_cheapest ["self"] (sp_Watch_cheapest K x) := by
  have G_best_answer := ok_best_answer (P := P) (w := w) (base := base) T
  have G_Watch_nights_that_can_be := ok_Watch_nights_that_can_be (P := P) (w := w) (base := base) T
  have G_Watch_cost := ok_Watch_cost (P := P) (w := w) (base := base) T
  have nd := sc_Watch_cheapest.nd
  refine T.F_Watch_cheapest.ok sc_Watch_cheapest (fun vs H Q E h => ?_) (fun cdv A outer s H vs Q E hr h => ?_)
  · obtain ⟨a, fl, w, rfl, _⟩ := h
    rfl
  · obtain ⟨a, fl, w, rfl, hw0, h10, hh, hc, k⟩ := h
    have hw1 := hw0
    obtain ⟨⟨dx, hw⟩, hfl⟩ := hw1
    refine ⟨_, (pss_one (ps_ret (pe_call G_best_answer (hr.mono (by decide)) rfl T.gf_best_answer T.F_best_answer.kp T.b_best_answer .nil pass0 (pa_cons (pe_lc (own := [("night", 1)]) rfl nd (pi_list (pe_meth0 (pv 0) T.cl_Watch T.mt_Watch_nights_that_can_be G_Watch_nights_that_can_be (hr.mono (by decide)) T.b_Watch_nights_that_can_be .nil pass0)) (blkOk_by (N := ["self", "night"]) (sc := defScope s_Watch_cheapest) (by decide +kernel)) (fun _ _ _ _ _ => (pg_name (i := 1) nd rfl (by first | exact Or.inl rfl | exact Or.inr rfl))) (fun _ _ _ _ _ => pts_nil) (fun _ _ _ _ _ => (pe_tup (pa_cons (pe_meth (pv 0) T.cl_Watch T.mt_Watch_cost G_Watch_cost (hr.mono (by decide)) T.b_Watch_cost .nil pass0 (pa_cons (pv 1) pa_nil)) (pa_cons (pe_fldK (K := K) rfl (pv 1) rfl) (pa_cons (pe_fldK (K := K) rfl (pv 1) rfl) pa_nil)))))) pa_nil)))), ?_⟩
    simp only [tSeq, gTup, gCons, gNil, tIfS, tRet, tRetN, tNext, tDrop, tAsg, gName, tTest, tB, tOp, tUn, tVar, tC, tChain, rI0, rI, rU, rEq, rNe, tAnd, tOr, tNot, tAndV, tOrV, tNotV, tIf, tFld, sFld, sFldAug, rAdd, rSub, tCall, tMeth, tMake, tNil, tCons, tLst, tTup, tCB, tBM, tBM0, rAppend, rExtend, rCat, rIxL, rIxT, tSl, rSlL, tNoPart, tPart, scal_int, scal_bl, sl0, sl1, sl2, sl3, sl4, cxK, L2.start, tAug, ipI, List.getElem?_cons_zero, List.getElem?_cons_succ, Option.some.injEq, V.int.injEq, V.ref.injEq, V.bl.injEq, HO.ins.injEq, HO.lst.injEq, exists_eq_left', exists_eq_left, exists_and_left, exists_and_right, and_assoc, List.map_cons, List.map_nil, List.cons_append, List.nil_append, List.append_nil, List.set_cons_zero, List.set_cons_succ, decide_eq_true_eq, true_and, and_true, List.length_cons, List.length_nil, Nat.reduceAdd, Nat.reduceSub, List.replicate_succ, List.replicate_zero, Bool.not_eq_true', decide_eq_false_iff_not, reduceCtorEq, Bool.false_eq_true, if_true, if_false, List.cons.injEq, T.cl_Night, T.cl_Watch, T.na_Night_depth, T.na_Night_depths, T.na_Night_plan, T.na_Night_worked, T.na_Night_call_outs, T.na_Night_in_row, T.na_Night_rested, T.na_Watch_deep, T.na_Watch_clears, T.na_Watch_may_lie, T.na_Watch_most_in_row, T.na_Watch_least_rest, T.na_Watch_hour_costs, T.na_Watch_call_costs, T.na_Watch_falls, nightF_lt, watchF_lt, nightF_get_depth, nightF_put_depth, nightF_get_depths, nightF_put_depths, nightF_get_plan, nightF_put_plan, nightF_get_worked, nightF_put_worked, nightF_get_call_outs, nightF_put_call_outs, nightF_get_in_row, nightF_put_in_row, nightF_get_rested, nightF_put_rested, nightF_no_copied, nightF_no_works, nightF_no_rests, nightF_no_lies, nightF_no_deepest, watchF_get_deep, watchF_put_deep, watchF_get_clears, watchF_put_clears, watchF_get_may_lie, watchF_put_may_lie, watchF_get_most_in_row, watchF_put_most_in_row, watchF_get_least_rest, watchF_put_least_rest, watchF_get_hour_costs, watchF_put_hour_costs, watchF_get_call_costs, watchF_put_call_costs, watchF_get_falls, watchF_put_falls, watchF_no_start_over, watchF_no_begins, watchF_no_crew, watchF_no_snow, watchF_no_check, watchF_no_cheapest, watchF_no_fewest, watchF_no_shallow, watchF_no_nights_that_can_be, watchF_no_nights_of_crew, watchF_no_is_plan, watchF_no_pass_hour, watchF_no_wrong_with_work, watchF_no_cost, hw]
    refine ⟨_, rfl, a, dx, _, rfl, hw, watchF_no_nights_that_can_be _ _, a, fl, w, rfl, hw0, h10, fun H2 l nl s2 g => ?_⟩
    obtain ⟨ts, hl, hat, hns⟩ := g
    have hlong : ∀ t ∈ ts, Long w.falls.length t.n := fun t ht => can_long w t.n (by rw [← hns]; exact List.mem_map.mpr ⟨t, ht, rfl⟩)
    have h24 : ts.length ≤ 1024 := by rw [← ns_len, hns]; exact can_1024 h10
    have big : (1048576 : Nat) ≤ sizeLine := by decide
    refine ⟨l, rfl, ⟨_, SqL.of hl⟩, fun D hD => lc_list (K := K) (a := l) (xs := refsOf ts) (fun i H' => Ranks H2 H' D w.falls.length (((nsOf ts).take i).map fun n => (costH w n, n.worked, n.plan))) (Ranks.nil hD) (fun i H' _ q => SqL.of (q.same _ _ hl)) ?_ ?_⟩
    · rintro i y H' hi r
      obtain ⟨t, ht, rfl⟩ : ∃ t : NA, ts[i]? = some t ∧ y = V.ref t.a := map_at (f := fun t : NA => V.ref t.a) (l := ts) hi
      have htm := List.mem_of_getElem? ht
      have hnj : (nsOf ts)[i]? = some t.n := by unfold nsOf; rw [List.getElem?_map, ht]; rfl
      have hn3 := (hat t htm).same r.same
      have hw3 : WatchAt x H' a fl w := ⟨⟨dx, r.same _ _ (s2 _ _ hw)⟩, r.same _ _ (s2 _ _ hfl)⟩
      have hn4 := hn3
      obtain ⟨⟨dy, g1⟩, _, g3, _⟩ := hn4
      have plD : t.pl ≠ D := ne_new (hat t htm).row hD
      refine ⟨rfl, ?_⟩
      have ew : List.set (wipe [some (V.ref a), none] [1]) 1 (some (V.ref t.a)) = [some (V.ref a), some (V.ref t.a)] := rfl
      simp only [tYes, ew, tSeq, gTup, gCons, gNil, tIfS, tRet, tRetN, tNext, tDrop, tAsg, gName, tTest, tB, tOp, tUn, tVar, tC, tChain, rI0, rI, rU, rEq, rNe, tAnd, tOr, tNot, tAndV, tOrV, tNotV, tIf, tFld, sFld, sFldAug, rAdd, rSub, tCall, tMeth, tMake, tNil, tCons, tLst, tTup, tCB, tBM, tBM0, rAppend, rExtend, rCat, rIxL, rIxT, tSl, rSlL, tNoPart, tPart, scal_int, scal_bl, sl0, sl1, sl2, sl3, sl4, cxK, L2.start, tAug, ipI, List.getElem?_cons_zero, List.getElem?_cons_succ, Option.some.injEq, V.int.injEq, V.ref.injEq, V.bl.injEq, HO.ins.injEq, HO.lst.injEq, exists_eq_left', exists_eq_left, exists_and_left, exists_and_right, and_assoc, List.map_cons, List.map_nil, List.cons_append, List.nil_append, List.append_nil, List.set_cons_zero, List.set_cons_succ, decide_eq_true_eq, true_and, and_true, List.length_cons, List.length_nil, Nat.reduceAdd, Nat.reduceSub, List.replicate_succ, List.replicate_zero, Bool.not_eq_true', decide_eq_false_iff_not, reduceCtorEq, Bool.false_eq_true, if_true, if_false, List.cons.injEq, T.cl_Night, T.cl_Watch, T.na_Night_depth, T.na_Night_depths, T.na_Night_plan, T.na_Night_worked, T.na_Night_call_outs, T.na_Night_in_row, T.na_Night_rested, T.na_Watch_deep, T.na_Watch_clears, T.na_Watch_may_lie, T.na_Watch_most_in_row, T.na_Watch_least_rest, T.na_Watch_hour_costs, T.na_Watch_call_costs, T.na_Watch_falls, nightF_lt, watchF_lt, nightF_get_depth, nightF_put_depth, nightF_get_depths, nightF_put_depths, nightF_get_plan, nightF_put_plan, nightF_get_worked, nightF_put_worked, nightF_get_call_outs, nightF_put_call_outs, nightF_get_in_row, nightF_put_in_row, nightF_get_rested, nightF_put_rested, nightF_no_copied, nightF_no_works, nightF_no_rests, nightF_no_lies, nightF_no_deepest, watchF_get_deep, watchF_put_deep, watchF_get_clears, watchF_put_clears, watchF_get_may_lie, watchF_put_may_lie, watchF_get_most_in_row, watchF_put_most_in_row, watchF_get_least_rest, watchF_put_least_rest, watchF_get_hour_costs, watchF_put_hour_costs, watchF_get_call_costs, watchF_put_call_costs, watchF_get_falls, watchF_put_falls, watchF_no_start_over, watchF_no_begins, watchF_no_crew, watchF_no_snow, watchF_no_check, watchF_no_cheapest, watchF_no_fewest, watchF_no_shallow, watchF_no_nights_that_can_be, watchF_no_nights_of_crew, watchF_no_is_plan, watchF_no_pass_hour, watchF_no_wrong_with_work, watchF_no_cost, g1, r.same _ _ (s2 _ _ hw)]
      refine ⟨a, fl, t.a, t.dl, t.pl, w, t.n, rfl, hw3, hn3, hh, hc, ?_⟩
      simp only [tSeq, gTup, gCons, gNil, tIfS, tRet, tRetN, tNext, tDrop, tAsg, gName, tTest, tB, tOp, tUn, tVar, tC, tChain, rI0, rI, rU, rEq, rNe, tAnd, tOr, tNot, tAndV, tOrV, tNotV, tIf, tFld, sFld, sFldAug, rAdd, rSub, tCall, tMeth, tMake, tNil, tCons, tLst, tTup, tCB, tBM, tBM0, rAppend, rExtend, rCat, rIxL, rIxT, tSl, rSlL, tNoPart, tPart, scal_int, scal_bl, sl0, sl1, sl2, sl3, sl4, cxK, L2.start, tAug, ipI, List.getElem?_cons_zero, List.getElem?_cons_succ, Option.some.injEq, V.int.injEq, V.ref.injEq, V.bl.injEq, HO.ins.injEq, HO.lst.injEq, exists_eq_left', exists_eq_left, exists_and_left, exists_and_right, and_assoc, List.map_cons, List.map_nil, List.cons_append, List.nil_append, List.append_nil, List.set_cons_zero, List.set_cons_succ, decide_eq_true_eq, true_and, and_true, List.length_cons, List.length_nil, Nat.reduceAdd, Nat.reduceSub, List.replicate_succ, List.replicate_zero, Bool.not_eq_true', decide_eq_false_iff_not, reduceCtorEq, Bool.false_eq_true, if_true, if_false, List.cons.injEq, T.cl_Night, T.cl_Watch, T.na_Night_depth, T.na_Night_depths, T.na_Night_plan, T.na_Night_worked, T.na_Night_call_outs, T.na_Night_in_row, T.na_Night_rested, T.na_Watch_deep, T.na_Watch_clears, T.na_Watch_may_lie, T.na_Watch_most_in_row, T.na_Watch_least_rest, T.na_Watch_hour_costs, T.na_Watch_call_costs, T.na_Watch_falls, nightF_lt, watchF_lt, nightF_get_depth, nightF_put_depth, nightF_get_depths, nightF_put_depths, nightF_get_plan, nightF_put_plan, nightF_get_worked, nightF_put_worked, nightF_get_call_outs, nightF_put_call_outs, nightF_get_in_row, nightF_put_in_row, nightF_get_rested, nightF_put_rested, nightF_no_copied, nightF_no_works, nightF_no_rests, nightF_no_lies, nightF_no_deepest, watchF_get_deep, watchF_put_deep, watchF_get_clears, watchF_put_clears, watchF_get_may_lie, watchF_put_may_lie, watchF_get_most_in_row, watchF_put_most_in_row, watchF_get_least_rest, watchF_put_least_rest, watchF_get_hour_costs, watchF_put_hour_costs, watchF_get_call_costs, watchF_put_call_costs, watchF_get_falls, watchF_put_falls, watchF_no_start_over, watchF_no_begins, watchF_no_crew, watchF_no_snow, watchF_no_check, watchF_no_cheapest, watchF_no_fewest, watchF_no_shallow, watchF_no_nights_that_can_be, watchF_no_nights_of_crew, watchF_no_is_plan, watchF_no_pass_hour, watchF_no_wrong_with_work, watchF_no_cost, g1]
      intro p hp
      obtain ⟨acc, e1, e2⟩ := (r.keep (same_upd (o := .tup [V.int (costH w t.n), V.int t.n.worked, V.ref t.pl]) hp)).len
      refine ⟨acc, e1, ?_, ?_⟩
      · rw [e2, List.length_map, List.length_take, ns_len]
        omega
      · rw [take_snoc hnj, List.map_append]
        exact r.more hD hp g3 plD (hlong t htm).2 e1
    · rintro H' r
      rw [refs_len, ← ns_len, List.take_length, hns] at r
      obtain ⟨s3, rs, h1, h2, h3⟩ := r
      have hrl : rs.length ≤ 1024 := by
        have e := congrArg List.length h3
        rw [List.length_map, List.length_map] at e
        have := can_1024 h10
        omega
      refine ⟨D, rs, w.falls.length, rfl, h1, fun r hr => (h2 r hr).1, h10, hrl, fun H4 p out hb np s4 hp => k H4 p out ?_ ((s2.trans s3).free np) ((s2.trans s3).trans s4) hp⟩
      rw [h3] at hb
      exact hb
def fewKeys (w : WS) : List (Int × Int × List Int) := (canOf w).map fun n => (n.worked, n.outs, n.plan)
def sp_Watch_fewest (K : PySem.W.Frag) (x : Adr) : Sp := fun vs H Q _ => ∃ (a fl : Addr) (w : WS), vs = [.ref a] ∧ WatchAt x H a fl w ∧ w.falls.length ≤ 10 ∧
  ∀ (H' : Hp) (p : Addr) (out : List Int), BestOf (fewKeys w) out → H p = none → Same H H' → H' p = some (.lst (out.map V.int)) → Q (.ref p) H'
theorem ok_Watch_fewest (T : Txt K mg x) : FnOk P w K mg base CX0 6 x.f_Watch_fewest x.fd_Watch_fewest ["self"] (sp_Watch_fewest K x) := by
  have G_best_answer := ok_best_answer (P := P) (w := w) (base := base) T
  have G_Watch_nights_that_can_be := ok_Watch_nights_that_can_be (P := P) (w := w) (base := base) T
  have nd := sc_Watch_fewest.nd
  refine T.F_Watch_fewest.ok sc_Watch_fewest (fun vs H Q E h => ?_) (fun cdv A outer s H vs Q E hr h => ?_)
  · obtain ⟨a, fl, w, rfl, _⟩ := h
    rfl
  · obtain ⟨a, fl, w, rfl, hw0, h10, k⟩ := h
    have hw1 := hw0
    obtain ⟨⟨dx, hw⟩, hfl⟩ := hw1
    refine ⟨_, (pss_one (ps_ret (pe_call G_best_answer (hr.mono (by decide)) rfl T.gf_best_answer T.F_best_answer.kp T.b_best_answer .nil pass0 (pa_cons (pe_lc (own := [("night", 1)]) rfl nd (pi_list (pe_meth0 (pv 0) T.cl_Watch T.mt_Watch_nights_that_can_be G_Watch_nights_that_can_be (hr.mono (by decide)) T.b_Watch_nights_that_can_be .nil pass0)) (blkOk_by (N := ["self", "night"]) (sc := defScope s_Watch_fewest) (by decide +kernel)) (fun _ _ _ _ _ => (pg_name (i := 1) nd rfl (by first | exact Or.inl rfl | exact Or.inr rfl))) (fun _ _ _ _ _ => pts_nil) (fun _ _ _ _ _ => (pe_tup (pa_cons (pe_fldK (K := K) rfl (pv 1) rfl) (pa_cons (pe_fldK (K := K) rfl (pv 1) rfl) (pa_cons (pe_fldK (K := K) rfl (pv 1) rfl) pa_nil)))))) pa_nil)))), ?_⟩
    simp only [tSeq, gTup, gCons, gNil, tIfS, tRet, tRetN, tNext, tDrop, tAsg, gName, tTest, tB, tOp, tUn, tVar, tC, tChain, rI0, rI, rU, rEq, rNe, tAnd, tOr, tNot, tAndV, tOrV, tNotV, tIf, tFld, sFld, sFldAug, rAdd, rSub, tCall, tMeth, tMake, tNil, tCons, tLst, tTup, tCB, tBM, tBM0, rAppend, rExtend, rCat, rIxL, rIxT, tSl, rSlL, tNoPart, tPart, scal_int, scal_bl, sl0, sl1, sl2, sl3, sl4, cxK, L2.start, tAug, ipI, List.getElem?_cons_zero, List.getElem?_cons_succ, Option.some.injEq, V.int.injEq, V.ref.injEq, V.bl.injEq, HO.ins.injEq, HO.lst.injEq, exists_eq_left', exists_eq_left, exists_and_left, exists_and_right, and_assoc, List.map_cons, List.map_nil, List.cons_append, List.nil_append, List.append_nil, List.set_cons_zero, List.set_cons_succ, decide_eq_true_eq, true_and, and_true, List.length_cons, List.length_nil, Nat.reduceAdd, Nat.reduceSub, List.replicate_succ, List.replicate_zero, Bool.not_eq_true', decide_eq_false_iff_not, reduceCtorEq, Bool.false_eq_true, if_true, if_false, List.cons.injEq, T.cl_Night, T.cl_Watch, T.na_Night_depth, T.na_Night_depths, T.na_Night_plan, T.na_Night_worked, T.na_Night_call_outs, T.na_Night_in_row, T.na_Night_rested, T.na_Watch_deep, T.na_Watch_clears, T.na_Watch_may_lie, T.na_Watch_most_in_row, T.na_Watch_least_rest, T.na_Watch_hour_costs, T.na_Watch_call_costs, T.na_Watch_falls, nightF_lt, watchF_lt, nightF_get_depth, nightF_put_depth, nightF_get_depths, nightF_put_depths, nightF_get_plan, nightF_put_plan, nightF_get_worked, nightF_put_worked, nightF_get_call_outs, nightF_put_call_outs, nightF_get_in_row, nightF_put_in_row, nightF_get_rested, nightF_put_rested, nightF_no_copied, nightF_no_works, nightF_no_rests, nightF_no_lies, nightF_no_deepest, watchF_get_deep, watchF_put_deep, watchF_get_clears, watchF_put_clears, watchF_get_may_lie, watchF_put_may_lie, watchF_get_most_in_row, watchF_put_most_in_row, watchF_get_least_rest, watchF_put_least_rest, watchF_get_hour_costs, watchF_put_hour_costs, watchF_get_call_costs, watchF_put_call_costs, watchF_get_falls, watchF_put_falls, watchF_no_start_over, watchF_no_begins, watchF_no_crew, watchF_no_snow, watchF_no_check, watchF_no_cheapest, watchF_no_fewest, watchF_no_shallow, watchF_no_nights_that_can_be, watchF_no_nights_of_crew, watchF_no_is_plan, watchF_no_pass_hour, watchF_no_wrong_with_work, watchF_no_cost, hw]
    refine ⟨_, rfl, a, dx, _, rfl, hw, watchF_no_nights_that_can_be _ _, a, fl, w, rfl, hw0, h10, fun H2 l nl s2 g => ?_⟩
    obtain ⟨ts, hl, hat, hns⟩ := g
    have hlong : ∀ t ∈ ts, Long w.falls.length t.n := fun t ht => can_long w t.n (by rw [← hns]; exact List.mem_map.mpr ⟨t, ht, rfl⟩)
    have h24 : ts.length ≤ 1024 := by rw [← ns_len, hns]; exact can_1024 h10
    have big : (1048576 : Nat) ≤ sizeLine := by decide
    refine ⟨l, rfl, ⟨_, SqL.of hl⟩, fun D hD => lc_list (K := K) (a := l) (xs := refsOf ts) (fun i H' => Ranks H2 H' D w.falls.length (((nsOf ts).take i).map fun n => (n.worked, n.outs, n.plan))) (Ranks.nil hD) (fun i H' _ q => SqL.of (q.same _ _ hl)) ?_ ?_⟩
    · rintro i y H' hi r
      obtain ⟨t, ht, rfl⟩ : ∃ t : NA, ts[i]? = some t ∧ y = V.ref t.a := map_at (f := fun t : NA => V.ref t.a) (l := ts) hi
      have htm := List.mem_of_getElem? ht
      have hnj : (nsOf ts)[i]? = some t.n := by unfold nsOf; rw [List.getElem?_map, ht]; rfl
      have hn3 := (hat t htm).same r.same
      have hw3 : WatchAt x H' a fl w := ⟨⟨dx, r.same _ _ (s2 _ _ hw)⟩, r.same _ _ (s2 _ _ hfl)⟩
      have hn4 := hn3
      obtain ⟨⟨dy, g1⟩, _, g3, _⟩ := hn4
      have plD : t.pl ≠ D := ne_new (hat t htm).row hD
      refine ⟨rfl, ?_⟩
      have ew : List.set (wipe [some (V.ref a), none] [1]) 1 (some (V.ref t.a)) = [some (V.ref a), some (V.ref t.a)] := rfl
      simp only [tYes, ew, tSeq, gTup, gCons, gNil, tIfS, tRet, tRetN, tNext, tDrop, tAsg, gName, tTest, tB, tOp, tUn, tVar, tC, tChain, rI0, rI, rU, rEq, rNe, tAnd, tOr, tNot, tAndV, tOrV, tNotV, tIf, tFld, sFld, sFldAug, rAdd, rSub, tCall, tMeth, tMake, tNil, tCons, tLst, tTup, tCB, tBM, tBM0, rAppend, rExtend, rCat, rIxL, rIxT, tSl, rSlL, tNoPart, tPart, scal_int, scal_bl, sl0, sl1, sl2, sl3, sl4, cxK, L2.start, tAug, ipI, List.getElem?_cons_zero, List.getElem?_cons_succ, Option.some.injEq, V.int.injEq, V.ref.injEq, V.bl.injEq, HO.ins.injEq, HO.lst.injEq, exists_eq_left', exists_eq_left, exists_and_left, exists_and_right, and_assoc, List.map_cons, List.map_nil, List.cons_append, List.nil_append, List.append_nil, List.set_cons_zero, List.set_cons_succ, decide_eq_true_eq, true_and, and_true, List.length_cons, List.length_nil, Nat.reduceAdd, Nat.reduceSub, List.replicate_succ, List.replicate_zero, Bool.not_eq_true', decide_eq_false_iff_not, reduceCtorEq, Bool.false_eq_true, if_true, if_false, List.cons.injEq, T.cl_Night, T.cl_Watch, T.na_Night_depth, T.na_Night_depths, T.na_Night_plan, T.na_Night_worked, T.na_Night_call_outs, T.na_Night_in_row, T.na_Night_rested, T.na_Watch_deep, T.na_Watch_clears, T.na_Watch_may_lie, T.na_Watch_most_in_row, T.na_Watch_least_rest, T.na_Watch_hour_costs, T.na_Watch_call_costs, T.na_Watch_falls, nightF_lt, watchF_lt, nightF_get_depth, nightF_put_depth, nightF_get_depths, nightF_put_depths, nightF_get_plan, nightF_put_plan, nightF_get_worked, nightF_put_worked, nightF_get_call_outs, nightF_put_call_outs, nightF_get_in_row, nightF_put_in_row, nightF_get_rested, nightF_put_rested, nightF_no_copied, nightF_no_works, nightF_no_rests, nightF_no_lies, nightF_no_deepest, watchF_get_deep, watchF_put_deep, watchF_get_clears, watchF_put_clears, watchF_get_may_lie, watchF_put_may_lie, watchF_get_most_in_row, watchF_put_most_in_row, watchF_get_least_rest, watchF_put_least_rest, watchF_get_hour_costs, watchF_put_hour_costs, watchF_get_call_costs, watchF_put_call_costs, watchF_get_falls, watchF_put_falls, watchF_no_start_over, watchF_no_begins, watchF_no_crew, watchF_no_snow, watchF_no_check, watchF_no_cheapest, watchF_no_fewest, watchF_no_shallow, watchF_no_nights_that_can_be, watchF_no_nights_of_crew, watchF_no_is_plan, watchF_no_pass_hour, watchF_no_wrong_with_work, watchF_no_cost, g1, r.same _ _ (s2 _ _ hw)]
      intro p hp
      obtain ⟨acc, e1, e2⟩ := (r.keep (same_upd (o := .tup [V.int t.n.worked, V.int t.n.outs, V.ref t.pl]) hp)).len
      refine ⟨acc, e1, ?_, ?_⟩
      · rw [e2, List.length_map, List.length_take, ns_len]
        omega
      · rw [take_snoc hnj, List.map_append]
        exact r.more hD hp g3 plD (hlong t htm).2 e1
    · rintro H' r
      rw [refs_len, ← ns_len, List.take_length, hns] at r
      obtain ⟨s3, rs, h1, h2, h3⟩ := r
      have hrl : rs.length ≤ 1024 := by
        have e := congrArg List.length h3
        rw [List.length_map, List.length_map] at e
        have := can_1024 h10
        omega
      refine ⟨D, rs, w.falls.length, rfl, h1, fun r hr => (h2 r hr).1, h10, hrl, fun H4 p out hb np s4 hp => k H4 p out ?_ ((s2.trans s3).free np) ((s2.trans s3).trans s4) hp⟩
      rw [h3] at hb
      exact hb
end
end Snow

set_option Elab.async false
set_option linter.all false
set_option maxRecDepth 100000
set_option maxHeartbeats 2000000
namespace Snow
open PySem PySem.Spec PyProof.Rows L2
section
variable {P : Program} {w : World} {K : PySem.W.Frag} {mg : Str → Option Value} {base : Heap} {x : Adr}
theorem at_int {ns : List Int} {i : Nat} {c z : Int} (e : z = (i : Int)) (h : ns[i]? = some c) : atI (ns.map V.int) z = some (V.int c) := at_of e (by rw [List.getElem?_map, h]; rfl)
def sp_numbers_begin (K : PySem.W.Frag) (x : Adr) : Sp := fun vs H Q _ => ∃ (a : Addr) (ns : List Int) (i : Nat) (c : Int), vs = [.ref a, .int i] ∧ SqL K H a (ns.map V.int) ∧ ns[i]? = some c ∧ Q (.int (if c = 3 then i + 2 else i + 1)) H
theorem ok_numbers_begin (T : Txt K mg x) : FnOk P w K mg base CX0 1 x.f_numbers_begin x.fd_numbers_begin ["calls", "at"] (sp_numbers_begin K x) := by
  have nd := sc_numbers_begin.nd
  refine T.F_numbers_begin.ok sc_numbers_begin (fun vs H Q E h => ?_) (fun cdv A outer s H vs Q E hr h => ?_)
  · obtain ⟨a, ns, i, c, rfl, _⟩ := h
    rfl
  · obtain ⟨a, ns, i, c, rfl, hs, hi, k⟩ := h
    refine ⟨_, (pss_one (ps_ret (pe_ifExp (pt_cmpR op_eq (pe_ix ix_list (pv 0) (pv 1) (fun _ _ => rfl)) (pe_gint rfl T.g_CHECK) (nomark _)) (pe_op op_add (pv 1) pe_int) (pe_op op_add (pv 1) pe_int)))), ?_⟩
    simp only [tSeq, gTup, gCons, gNil, tIfS, tRet, tRetN, tNext, tDrop, tAsg, gName, tTest, tB, tOp, tUn, tVar, tC, tChain, rI0, rI, rU, rEq, rNe, tAnd, tOr, tNot, tAndV, tOrV, tNotV, tIf, tFld, sFld, sFldAug, rAdd, rSub, tCall, tMeth, tMake, tNil, tCons, tLst, tTup, tCB, tBM, tBM0, rAppend, rExtend, rCat, rIxL, rIxT, tSl, rSlL, tNoPart, tPart, scal_int, scal_bl, sl0, sl1, sl2, sl3, sl4, cxK, L2.start, tAug, ipI, List.getElem?_cons_zero, List.getElem?_cons_succ, Option.some.injEq, V.int.injEq, V.ref.injEq, V.bl.injEq, HO.ins.injEq, HO.lst.injEq, exists_eq_left', exists_eq_left, exists_and_left, exists_and_right, and_assoc, List.map_cons, List.map_nil, List.cons_append, List.nil_append, List.append_nil, List.set_cons_zero, List.set_cons_succ, decide_eq_true_eq, true_and, and_true, List.length_cons, List.length_nil, Nat.reduceAdd, Nat.reduceSub, List.replicate_succ, List.replicate_zero, Bool.not_eq_true', decide_eq_false_iff_not, reduceCtorEq, Bool.false_eq_true, if_true, if_false, List.cons.injEq]
    refine ⟨_, hs, _, at_int rfl hi, rfl, ?_⟩
    simp only [tSeq, gTup, gCons, gNil, tIfS, tRet, tRetN, tNext, tDrop, tAsg, gName, tTest, tB, tOp, tUn, tVar, tC, tChain, rI0, rI, rU, rEq, rNe, tAnd, tOr, tNot, tAndV, tOrV, tNotV, tIf, tFld, sFld, sFldAug, rAdd, rSub, tCall, tMeth, tMake, tNil, tCons, tLst, tTup, tCB, tBM, tBM0, rAppend, rExtend, rCat, rIxL, rIxT, tSl, rSlL, tNoPart, tPart, scal_int, scal_bl, sl0, sl1, sl2, sl3, sl4, cxK, L2.start, tAug, ipI, List.getElem?_cons_zero, List.getElem?_cons_succ, Option.some.injEq, V.int.injEq, V.ref.injEq, V.bl.injEq, HO.ins.injEq, HO.lst.injEq, exists_eq_left', exists_eq_left, exists_and_left, exists_and_right, and_assoc, List.map_cons, List.map_nil, List.cons_append, List.nil_append, List.append_nil, List.set_cons_zero, List.set_cons_succ, decide_eq_true_eq, true_and, and_true, List.length_cons, List.length_nil, Nat.reduceAdd, Nat.reduceSub, List.replicate_succ, List.replicate_zero, Bool.not_eq_true', decide_eq_false_iff_not, reduceCtorEq, Bool.false_eq_true, if_true, if_false, List.cons.injEq]
    split
    · rename_i e; rw [if_pos e] at k; exact k
    · rename_i e; rw [if_neg e] at k; exact k
def sp_numbers_count (K : PySem.W.Frag) (x : Adr) : Sp := fun vs H Q _ => ∃ (a : Addr) (ns : List Int) (i : Nat) (c n : Int), vs = [.ref a, .int i] ∧ SqL K H a (ns.map V.int) ∧ ns[i]? = some c ∧ (c = 3 ∧ ns[i + 1]? = some n ∨ (c = 0 ∧ n = 3 ∨ c = 1 ∧ n = 4 ∨ c = 2 ∧ n = 1 ∨ c = 4 ∧ n = 0 ∨ c = 5 ∧ n = 0 ∨ c = 6 ∧ n = 0)) ∧ ∀ H' : Hp, Same H H' → Q (.int n) H'
theorem ok_numbers_count (T : Txt K mg x) : FnOk P w K mg base CX0 1 x.f_numbers_count x.fd_numbers_count ["calls", "at"] (sp_numbers_count K x) := by
  have nd := sc_numbers_count.nd
  refine T.F_numbers_count.ok sc_numbers_count (fun vs H Q E h => ?_) (fun cdv A outer s H vs Q E hr h => ?_)
  · obtain ⟨a, ns, i, c, n, rfl, _⟩ := h
    rfl
  · obtain ⟨a, ns, i, c, n, rfl, hs, hi, hc, k⟩ := h
    refine ⟨_, (pss_cons (ps_if (pt_cmpR op_eq (pe_ix ix_list (pv 0) (pv 1) (fun _ _ => rfl)) (pe_gint rfl T.g_CHECK) (nomark _))
       (pss_one (ps_ret (pe_ix ix_list (pv 0) (pe_op op_add (pv 1) pe_int) (fun _ _ => rfl))))
       pss_nil)
      (pss_cons (ps_set (i := 2) nd rfl (by first | exact Or.inl rfl | exact Or.inr rfl) (pe_disp (pps_cons (pe_gint rfl T.g_BEGINS) pe_int (pps_cons (pe_gint rfl T.g_CREW) pe_int (pps_cons (pe_gint rfl T.g_SNOW) pe_int (pps_cons (pe_gint rfl T.g_CHEAPEST) pe_int (pps_cons (pe_gint rfl T.g_FEWEST) pe_int (pps_cons (pe_gint rfl T.g_SHALLOW) pe_int pps_nil)))))) rfl rfl (by simp) (by decide)))
      (pss_one (ps_ret (pe_dget (hu_of hr) (pv 2) (pe_ix ix_list (pv 0) (pv 1) (fun _ _ => rfl)) (fun _ _ => rfl)))))), ?_⟩
    simp only [tSeq, gTup, gCons, gNil, tIfS, tRet, tRetN, tNext, tDrop, tAsg, gName, tTest, tB, tOp, tUn, tVar, tC, tChain, rI0, rI, rU, rEq, rNe, tAnd, tOr, tNot, tAndV, tOrV, tNotV, tIf, tFld, sFld, sFldAug, rAdd, rSub, tCall, tMeth, tMake, tNil, tCons, tLst, tTup, tCB, tBM, tBM0, rAppend, rExtend, rCat, rIxL, rIxT, tSl, rSlL, tNoPart, tPart, scal_int, scal_bl, sl0, sl1, sl2, sl3, sl4, cxK, L2.start, tAug, ipI, List.getElem?_cons_zero, List.getElem?_cons_succ, Option.some.injEq, V.int.injEq, V.ref.injEq, V.bl.injEq, HO.ins.injEq, HO.lst.injEq, exists_eq_left', exists_eq_left, exists_and_left, exists_and_right, and_assoc, List.map_cons, List.map_nil, List.cons_append, List.nil_append, List.append_nil, List.set_cons_zero, List.set_cons_succ, decide_eq_true_eq, true_and, and_true, List.length_cons, List.length_nil, Nat.reduceAdd, Nat.reduceSub, List.replicate_succ, List.replicate_zero, Bool.not_eq_true', decide_eq_false_iff_not, reduceCtorEq, Bool.false_eq_true, if_true, if_false, List.cons.injEq]
    refine ⟨_, hs, _, at_int rfl hi, rfl, ?_⟩
    simp only [tSeq, gTup, gCons, gNil, tIfS, tRet, tRetN, tNext, tDrop, tAsg, gName, tTest, tB, tOp, tUn, tVar, tC, tChain, rI0, rI, rU, rEq, rNe, tAnd, tOr, tNot, tAndV, tOrV, tNotV, tIf, tFld, sFld, sFldAug, rAdd, rSub, tCall, tMeth, tMake, tNil, tCons, tLst, tTup, tCB, tBM, tBM0, rAppend, rExtend, rCat, rIxL, rIxT, tSl, rSlL, tNoPart, tPart, scal_int, scal_bl, sl0, sl1, sl2, sl3, sl4, cxK, L2.start, tAug, ipI, List.getElem?_cons_zero, List.getElem?_cons_succ, Option.some.injEq, V.int.injEq, V.ref.injEq, V.bl.injEq, HO.ins.injEq, HO.lst.injEq, exists_eq_left', exists_eq_left, exists_and_left, exists_and_right, and_assoc, List.map_cons, List.map_nil, List.cons_append, List.nil_append, List.append_nil, List.set_cons_zero, List.set_cons_succ, decide_eq_true_eq, true_and, and_true, List.length_cons, List.length_nil, Nat.reduceAdd, Nat.reduceSub, List.replicate_succ, List.replicate_zero, Bool.not_eq_true', decide_eq_false_iff_not, reduceCtorEq, Bool.false_eq_true, if_true, if_false, List.cons.injEq]
    split
    · rename_i e
      subst e
      rcases hc with ⟨_, hn⟩ | hc
      · exact ⟨_, hs, _, at_int (by omega) hn, k H (Same.refl H)⟩
      · omega
    · rename_i e
      intro p hp
      refine ⟨upd_same, [(Sum.inl 0, V.int 3), (Sum.inl 1, V.int 4), (Sum.inl 2, V.int 1), (Sum.inl 4, V.int 0), (Sum.inl 5, V.int 0), (Sum.inl 6, V.int 0)], rfl, (by show 6 ≤ 15; decide), ?_⟩
      simp only [tSeq, gTup, gCons, gNil, tIfS, tRet, tRetN, tNext, tDrop, tAsg, gName, tTest, tB, tOp, tUn, tVar, tC, tChain, rI0, rI, rU, rEq, rNe, tAnd, tOr, tNot, tAndV, tOrV, tNotV, tIf, tFld, sFld, sFldAug, rAdd, rSub, tCall, tMeth, tMake, tNil, tCons, tLst, tTup, tCB, tBM, tBM0, rAppend, rExtend, rCat, rIxL, rIxT, tSl, rSlL, tNoPart, tPart, scal_int, scal_bl, sl0, sl1, sl2, sl3, sl4, cxK, L2.start, tAug, ipI, List.getElem?_cons_zero, List.getElem?_cons_succ, Option.some.injEq, V.int.injEq, V.ref.injEq, V.bl.injEq, HO.ins.injEq, HO.lst.injEq, exists_eq_left', exists_eq_left, exists_and_left, exists_and_right, and_assoc, List.map_cons, List.map_nil, List.cons_append, List.nil_append, List.append_nil, List.set_cons_zero, List.set_cons_succ, decide_eq_true_eq, true_and, and_true, List.length_cons, List.length_nil, Nat.reduceAdd, Nat.reduceSub, List.replicate_succ, List.replicate_zero, Bool.not_eq_true', decide_eq_false_iff_not, reduceCtorEq, Bool.false_eq_true, if_true, if_false, List.cons.injEq, tDGet, upd_upd]
      have s1 : Same H (upd H p (.dK (mergeK [] [(Sum.inl 0, V.int 3), (Sum.inl 1, V.int 4), (Sum.inl 2, V.int 1), (Sum.inl 4, V.int 0), (Sum.inl 5, V.int 0), (Sum.inl 6, V.int 0)]))) := fun b o e => by rw [upd_ne (ne_of_none e hp)]; exact e
      refine ⟨_, s1.seq hs, _, at_int rfl hi, V.int n, ?_, k _ s1⟩
      have g := DGet.k (H := upd H p (.dK (mergeK [] [(Sum.inl 0, V.int 3), (Sum.inl 1, V.int 4), (Sum.inl 2, V.int 1), (Sum.inl 4, V.int 0), (Sum.inl 5, V.int 0), (Sum.inl 6, V.int 0)]))) (k := Sum.inl c) upd_same
      have v : valV (mergeK [] [((Sum.inl 0 : Key), V.int 3), (Sum.inl 1, V.int 4), (Sum.inl 2, V.int 1), (Sum.inl 4, V.int 0), (Sum.inl 5, V.int 0), (Sum.inl 6, V.int 0)]) (Sum.inl c) = some (V.int n) := by
        rcases hc with ⟨q, _⟩ | ⟨rfl, rfl⟩ | ⟨rfl, rfl⟩ | ⟨rfl, rfl⟩ | ⟨rfl, rfl⟩ | ⟨rfl, rfl⟩ | ⟨rfl, rfl⟩
        · exact absurd q e
        all_goals decide
      rw [v] at g
      exact g
theorem cost_nat {W : Si78.Watch} {n : NS} {l : List Nat} (h1 : n.worked = (Si78.hours l : Int)) (h2 : n.outs = (Si78.calls 0 l : Int)) : costH (ofW W) n = ((W.cost l : Nat) : Int) := by
  unfold costH Si78.Watch.cost
  rw [h1, h2]
  show (Si78.hours l : Int) * (W.hour : Int) + (Si78.calls 0 l : Int) * (W.call : Int) = _
  rw [Int.natCast_add, Int.natCast_mul, Int.natCast_mul, Int.mul_comm, Int.mul_comm (Si78.calls 0 l : Int)]
theorem cheap_is {W : Si78.Watch} (g : GoodW W) {out : List Int} (h : BestOf (cheapKeys (ofW W)) out) : out = (Si78.step W .cheapest).2.v :: (Si78.step W .cheapest).2.l := by
  have e : cheapKeys (ofW W) = W.plans.map fun l => ((W.cost l : Int), (Si78.hours l : Int), ci l) := plan_keys g (fun n => (costH (ofW W) n, n.worked, n.plan)) _ fun n l h1 h2 h3 => by rw [cost_nat h1 h2, h1, h3]
  rw [e] at h
  exact best_is W.cost Si78.hours h
theorem few_is {W : Si78.Watch} (g : GoodW W) {out : List Int} (h : BestOf (fewKeys (ofW W)) out) : out = (Si78.step W .fewest).2.v :: (Si78.step W .fewest).2.l := by
  have e : fewKeys (ofW W) = W.plans.map fun l => ((Si78.hours l : Int), (Si78.calls 0 l : Int), ci l) := plan_keys g (fun n => (n.worked, n.outs, n.plan)) _ fun n l h1 h2 h3 => by rw [h1, h2, h3]
  rw [e] at h
  exact best_is Si78.hours (Si78.calls 0) h
def sp_answer_call (K : PySem.W.Frag) (x : Adr) : Sp := fun vs H Q _ => ∃ (a fl l : Addr) (W : Si78.Watch) (p : Int) (r : List Int) (q : Si78.Call), vs = [.ref a, .int p, .ref l] ∧ WatchAt x H a fl (ofW W) ∧ GoodW W ∧ Shape p r q ∧ SqL K H l (r.map V.int) ∧ 
  ∀ (H' : Hp) (fl' y : Addr), (fl' = fl ∨ H fl' = none) → WatchAt x H' a fl' (ofW (Si78.step W q).1) → H y = none → H' y = some (.lst (((Si78.step W q).2.v :: (Si78.step W q).2.l).map V.int)) → y ≠ fl' → Keep [a, fl] H H' → Q (.ref y) H'
theorem ok_answer_call (T : Txt K mg x) : FnOk P w K mg base CX0 7 x.f_answer_call x.fd_answer_call ["watch", "call", "numbers"] (sp_answer_call K x) := by
  have G_Watch_begins := ok_Watch_begins (P := P) (w := w) (base := base) T
  have G_Watch_crew := ok_Watch_crew (P := P) (w := w) (base := base) T
  have G_Watch_snow := ok_Watch_snow (P := P) (w := w) (base := base) T
  have G_Watch_check := ok_Watch_check (P := P) (w := w) (base := base) T
  have G_Watch_cheapest := ok_Watch_cheapest (P := P) (w := w) (base := base) T
  have G_Watch_fewest := ok_Watch_fewest (P := P) (w := w) (base := base) T
  have G_Watch_shallow := ok_Watch_shallow (P := P) (w := w) (base := base) T
  have nd := sc_answer_call.nd
  refine T.F_answer_call.ok sc_answer_call (fun vs H Q E h => ?_) (fun cdv A outer s H vs Q E hr h => ?_)
  · obtain ⟨a, fl, l, W, p, r, q, rfl, _⟩ := h
    rfl
  · obtain ⟨a, fl, l, W, p, r, q, rfl, hw0, hg, hsh, hs, k⟩ := h
    have hw1 := hw0
    obtain ⟨⟨dx, hw⟩, hl⟩ := hw1
    refine ⟨_, (pss_cons (ps_if (pt_cmpR op_eq (pv 1) (pe_gint rfl T.g_BEGINS) (nomark _))
       (pss_one (ps_ret (pe_meth (pv 0) T.cl_Watch T.mt_Watch_begins G_Watch_begins (hr.mono (by decide)) T.b_Watch_begins .nil pass0 (pa_cons (pe_ix ix_list (pv 2) pe_int (fun _ _ => rfl)) (pa_cons (pe_ix ix_list (pv 2) pe_int (fun _ _ => rfl)) (pa_cons (pe_ix ix_list (pv 2) pe_int (fun _ _ => rfl)) pa_nil))))))
       pss_nil)
      (pss_cons (ps_if (pt_cmpR op_eq (pv 1) (pe_gint rfl T.g_CREW) (nomark _))
       (pss_one (ps_ret (pe_meth (pv 0) T.cl_Watch T.mt_Watch_crew G_Watch_crew (hr.mono (by decide)) T.b_Watch_crew .nil pass0 (pa_cons (pe_ix ix_list (pv 2) pe_int (fun _ _ => rfl)) (pa_cons (pe_ix ix_list (pv 2) pe_int (fun _ _ => rfl)) (pa_cons (pe_ix ix_list (pv 2) pe_int (fun _ _ => rfl)) (pa_cons (pe_ix ix_list (pv 2) pe_int (fun _ _ => rfl)) pa_nil)))))))
       pss_nil)
      (pss_cons (ps_if (pt_cmpR op_eq (pv 1) (pe_gint rfl T.g_SNOW) (nomark _))
       (pss_one (ps_ret (pe_meth (pv 0) T.cl_Watch T.mt_Watch_snow G_Watch_snow (hr.mono (by decide)) T.b_Watch_snow .nil pass0 (pa_cons (pe_ix ix_list (pv 2) pe_int (fun _ _ => rfl)) pa_nil))))
       pss_nil)
      (pss_cons (ps_if (pt_cmpR op_eq (pv 1) (pe_gint rfl T.g_CHECK) (nomark _))
       (pss_one (ps_ret (pe_meth (pv 0) T.cl_Watch T.mt_Watch_check G_Watch_check (hr.mono (by decide)) T.b_Watch_check .nil pass0 (pa_cons (pv 2) pa_nil))))
       pss_nil)
      (pss_cons (ps_if (pt_cmpR op_eq (pv 1) (pe_gint rfl T.g_CHEAPEST) (nomark _))
       (pss_one (ps_ret (pe_meth0 (pv 0) T.cl_Watch T.mt_Watch_cheapest G_Watch_cheapest (hr.mono (by decide)) T.b_Watch_cheapest .nil pass0)))
       pss_nil)
      (pss_cons (ps_if (pt_cmpR op_eq (pv 1) (pe_gint rfl T.g_FEWEST) (nomark _))
       (pss_one (ps_ret (pe_meth0 (pv 0) T.cl_Watch T.mt_Watch_fewest G_Watch_fewest (hr.mono (by decide)) T.b_Watch_fewest .nil pass0)))
       pss_nil)
      (pss_one (ps_ret (pe_meth0 (pv 0) T.cl_Watch T.mt_Watch_shallow G_Watch_shallow (hr.mono (by decide)) T.b_Watch_shallow .nil pass0))))))))), ?_⟩
    simp only [tSeq, gTup, gCons, gNil, tIfS, tRet, tRetN, tNext, tDrop, tAsg, gName, tTest, tB, tOp, tUn, tVar, tC, tChain, rI0, rI, rU, rEq, rNe, tAnd, tOr, tNot, tAndV, tOrV, tNotV, tIf, tFld, sFld, sFldAug, rAdd, rSub, tCall, tMeth, tMake, tNil, tCons, tLst, tTup, tCB, tBM, tBM0, rAppend, rExtend, rCat, rIxL, rIxT, tSl, rSlL, tNoPart, tPart, scal_int, scal_bl, sl0, sl1, sl2, sl3, sl4, cxK, L2.start, tAug, ipI, List.getElem?_cons_zero, List.getElem?_cons_succ, Option.some.injEq, V.int.injEq, V.ref.injEq, V.bl.injEq, HO.ins.injEq, HO.lst.injEq, exists_eq_left', exists_eq_left, exists_and_left, exists_and_right, and_assoc, List.map_cons, List.map_nil, List.cons_append, List.nil_append, List.append_nil, List.set_cons_zero, List.set_cons_succ, decide_eq_true_eq, true_and, and_true, List.length_cons, List.length_nil, Nat.reduceAdd, Nat.reduceSub, List.replicate_succ, List.replicate_zero, Bool.not_eq_true', decide_eq_false_iff_not, reduceCtorEq, Bool.false_eq_true, if_true, if_false, List.cons.injEq, T.cl_Night, T.cl_Watch, T.na_Night_depth, T.na_Night_depths, T.na_Night_plan, T.na_Night_worked, T.na_Night_call_outs, T.na_Night_in_row, T.na_Night_rested, T.na_Watch_deep, T.na_Watch_clears, T.na_Watch_may_lie, T.na_Watch_most_in_row, T.na_Watch_least_rest, T.na_Watch_hour_costs, T.na_Watch_call_costs, T.na_Watch_falls, nightF_lt, watchF_lt, nightF_get_depth, nightF_put_depth, nightF_get_depths, nightF_put_depths, nightF_get_plan, nightF_put_plan, nightF_get_worked, nightF_put_worked, nightF_get_call_outs, nightF_put_call_outs, nightF_get_in_row, nightF_put_in_row, nightF_get_rested, nightF_put_rested, nightF_no_copied, nightF_no_works, nightF_no_rests, nightF_no_lies, nightF_no_deepest, watchF_get_deep, watchF_put_deep, watchF_get_clears, watchF_put_clears, watchF_get_may_lie, watchF_put_may_lie, watchF_get_most_in_row, watchF_put_most_in_row, watchF_get_least_rest, watchF_put_least_rest, watchF_get_hour_costs, watchF_put_hour_costs, watchF_get_call_costs, watchF_put_call_costs, watchF_get_falls, watchF_put_falls, watchF_no_start_over, watchF_no_begins, watchF_no_crew, watchF_no_snow, watchF_no_check, watchF_no_cheapest, watchF_no_fewest, watchF_no_shallow, watchF_no_nights_that_can_be, watchF_no_nights_of_crew, watchF_no_is_plan, watchF_no_pass_hour, watchF_no_wrong_with_work, watchF_no_cost, hw]
    have kk : ∀ (H' : Hp) (fl' y : Addr) (wl : WS × List Int), wl = mir (Si78.step W q) → (fl' = fl ∨ H fl' = none) → WatchAt x H' a fl' wl.1 → H y = none → H' y = some (.lst (wl.2.map V.int)) → y ≠ fl' → Keep [a, fl] H H' → Q (.ref y) H' := by
      intro H' fl' y wl e h1 h2 h3 h4 h5 h6
      rw [e] at h2 h4
      exact k H' fl' y h1 h2 h3 h4 h5 h6
    have k1 : ∀ {H' : Hp}, Keep [a] H H' → Keep [a, fl] H H' := fun h c o e n => h c o e (by simp at n; simp [n.1])
    have yf : ∀ {y : Addr}, H y = none → y ≠ fl := fun h => Ne.symm (ne_new hl h)
    cases hsh with
    | @begins c0 c1 c2 h0 h1 h2 =>
      rw [if_pos rfl]
      refine ⟨_, hs, _, at_int (i := 0) rfl rfl, _, hs, _, at_int (i := 1) rfl rfl, _, hs, _, at_int (i := 2) rfl rfl, ?_⟩
      exact ⟨a, fl, ofW W, _, _, _, rfl, hw0, fun H' fl' y e1 e2 e3 e4 e5 e6 => kk H' fl' y _ (begins_eq W h0 h1 h2) e1 e2 e3 e4 e5 (k1 e6)⟩
    | @crew c0 c1 c2 c3 h0 h1 h2 h3 =>
      rw [if_neg (by decide), if_pos rfl]
      refine ⟨_, hs, _, at_int (i := 0) rfl rfl, _, hs, _, at_int (i := 1) rfl rfl, _, hs, _, at_int (i := 2) rfl rfl, _, hs, _, at_int (i := 3) rfl rfl, ?_⟩
      exact ⟨a, fl, ofW W, _, _, _, _, rfl, hw0, fun H' y e2 e3 e4 e6 => kk H' fl y _ (crew_eq W h0 h1 h2 h3) (.inl rfl) e2 e3 e4 (yf e3) (k1 e6)⟩
    | @snow c0 h0 =>
      rw [if_neg (by decide), if_neg (by decide), if_pos rfl]
      refine ⟨_, hs, _, at_int (i := 0) rfl rfl, ?_⟩
      exact ⟨a, fl, ofW W, _, rfl, hw0, (by rw [show (ofW W).falls.length = W.snow.length from ci_len _]; have := hg.snow; omega), fun H' y e2 e3 e4 e6 => kk H' fl y _ (snow_eq hg h0) (.inl rfl) e2 e3 e4 (yf e3) e6⟩
    | @check r h0 h1 =>
      rw [if_neg (by decide), if_neg (by decide), if_neg (by decide), if_pos rfl]
      refine ⟨a, fl, l, ofW W, r, rfl, hw0, hs, by omega, ⟨Int.natCast_nonneg _, Int.ofNat_le.mpr hg.hour⟩, ⟨Int.natCast_nonneg _, Int.ofNat_le.mpr hg.call⟩, fun H' y s1 e3 e4 => ?_⟩
      have e := check_eq hg (r.map Int.toNat)
      rw [ci_toNat h1] at e
      have e9 : (Si78.step W (.check (r.map Int.toNat))).1 = W := by
        unfold Si78.step; dsimp only; split <;> rfl
      rw [e] at e4
      refine k H' fl y (.inl rfl) ?_ e3 e4 (yf e3) (Same.keep _ s1)
      rw [e9]
      exact ⟨⟨dx, s1 _ _ hw⟩, s1 _ _ hl⟩
    | cheapest =>
      rw [if_neg (by decide), if_neg (by decide), if_neg (by decide), if_neg (by decide), if_pos rfl]
      refine ⟨a, fl, ofW W, rfl, hw0, by rw [show (ofW W).falls.length = W.snow.length from ci_len _]; exact hg.snow, ⟨Int.natCast_nonneg _, Int.ofNat_le.mpr hg.hour⟩, ⟨Int.natCast_nonneg _, Int.ofNat_le.mpr hg.call⟩, fun H' y out hb np s1 hy => ?_⟩
      rw [cheap_is hg hb] at hy
      exact k H' fl y (.inl rfl) ⟨⟨dx, s1 _ _ hw⟩, s1 _ _ hl⟩ np hy (yf np) (Same.keep _ s1)
    | fewest =>
      rw [if_neg (by decide), if_neg (by decide), if_neg (by decide), if_neg (by decide), if_neg (by decide), if_pos rfl]
      refine ⟨a, fl, ofW W, rfl, hw0, by rw [show (ofW W).falls.length = W.snow.length from ci_len _]; exact hg.snow, fun H' y out hb np s1 hy => ?_⟩
      rw [few_is hg hb] at hy
      exact k H' fl y (.inl rfl) ⟨⟨dx, s1 _ _ hw⟩, s1 _ _ hl⟩ np hy (yf np) (Same.keep _ s1)
    | shallow =>
      rw [if_neg (by decide), if_neg (by decide), if_neg (by decide), if_neg (by decide), if_neg (by decide), if_neg (by decide)]
      refine ⟨a, fl, ofW W, rfl, hw0, by rw [show (ofW W).falls.length = W.snow.length from ci_len _]; exact hg.snow, fun H' y m h1 h2 np s1 hy => ?_⟩
      have e := shallow_is hg (m := m) h1 h2
      have hy : H' y = some (.lst ([m].map V.int)) := hy
      rw [e] at hy
      exact k H' fl y (.inl rfl) ⟨⟨dx, s1 _ _ hw⟩, s1 _ _ hl⟩ np hy (yf np) (Same.keep _ s1)
end
end Snow

set_option Elab.async false
set_option linter.all false
set_option maxRecDepth 100000
set_option maxHeartbeats 2000000
namespace Snow
open PySem PySem.Spec PyProof.Rows L2
section
variable {P : Program} {w : World} {K : PySem.W.Frag} {mg : Str → Option Value} {base : Heap} {x : Adr}
def spA (K : PySem.W.Frag) : Sp := fun vs H Q _ => ∃ (a : Addr) (ns : List Int), vs = [.ref a] ∧ SqL K H a (ns.map V.int) ∧ PySi78.answers_asked ns = true ∧ ns.length ≤ 900 ∧ (∀ (H' : Hp) (p : Addr), H' p = some (.lst ((PySi78.answers ns).map V.int)) → Q (.ref p) H')
def sp_answers (K : PySem.W.Frag) (x : Adr) : Sp := spA K
/-- between two calls -/
structure Loop (x : Adr) (K : PySem.W.Frag) (H0 : Hp) (a : Addr) (ns : List Int) (wt q : Addr) (i : Nat) (H : Hp) : Prop where
  ex : ∃ (fl : Addr) (W : Si78.Watch) (cs : List (List (List Int))) (out : List Int), GoodW W ∧ WatchAt x H wt fl (ofW W) ∧ H0 fl = none ∧ fl ≠ q ∧ Left (ns.drop i) cs ∧ H q = some (.lst (out.map V.int)) ∧ out ++ toldOf W cs = PySi78.answers ns
  same : Same H0 H
  le : i ≤ ns.length
def WLoop (x : Adr) (K : PySem.W.Frag) (H0 : Hp) (a : Addr) (ns : List Int) (wt q : Addr) (m : Nat) (σ : L2.St) (H : Hp) : Prop :=
  ∃ (i : Nat) (v4 v5 v6 : Option V), m = ns.length - i ∧ σ = [some (.ref a), some (.ref wt), some (.ref q), some (.int i), v4, v5, v6] ∧ Loop x K H0 a ns wt q i H
def NLoop (x : Adr) (K : PySem.W.Frag) (H0 : Hp) (a : Addr) (ns : List Int) (wt q : Addr) (i : Nat) (σ : L2.St) (H : Hp) : Prop :=
  ∃ (j : Nat) (v4 v5 v6 : Option V), i < j ∧ σ = [some (.ref a), some (.ref wt), some (.ref q), some (.int j), v4, v5, v6] ∧ Loop x K H0 a ns wt q j H
theorem ok_answers (T : Txt K mg x) : FnOk P w K mg base CX0 8 x.f_answers x.fd_answers ["calls"] (sp_answers K x) := by
  have G_Watch___init__ := ok_Watch___init__ (P := P) (w := w) (base := base) T
  have G_numbers_begin := ok_numbers_begin (P := P) (w := w) (base := base) T
  have G_numbers_count := ok_numbers_count (P := P) (w := w) (base := base) T
  have G_answer_call := ok_answer_call (P := P) (w := w) (base := base) T
  have nd := sc_answers.nd
  refine T.F_answers.ok sc_answers (fun vs H Q E h => ?_) (fun cdv A outer s H vs Q E hr h => ?_)
  · obtain ⟨a, ns, rfl, _⟩ := h
    rfl
  · obtain ⟨a, ns, rfl, hs, hask, h900, k⟩ := h
    refine ⟨_, (pss_cons (ps_set (i := 1) nd rfl (by first | exact Or.inl rfl | exact Or.inr rfl) (pe_make0 T.mk_Watch G_Watch___init__ (hr.mono (by decide)) rfl T.gc_Watch T.b_Watch___init__ .nil pass0))
      (pss_cons (ps_set (i := 2) nd rfl (by first | exact Or.inl rfl | exact Or.inr rfl) (pe_lst pa_nil))
      (pss_cons (ps_set (i := 3) nd rfl (by first | exact Or.inl rfl | exact Or.inr rfl) pe_int)
      (pss_cons (ps_while PassesOwn.never (pt_cmpR op_lt (pv 3) (pe_callB call_len_seq (by rfl) T.bl_len PySem.boot_len (pa_cons (pv 0) pa_nil)) (nomark _))
       (pss_cons (ps_set (i := 4) nd rfl (by first | exact Or.inl rfl | exact Or.inr rfl) (pe_call G_numbers_begin (hr.mono (by decide)) rfl T.gf_numbers_begin T.F_numbers_begin.kp T.b_numbers_begin .nil pass0 (pa_cons (pv 0) (pa_cons (pv 3) pa_nil))))
       (pss_cons (ps_set (i := 5) nd rfl (by first | exact Or.inl rfl | exact Or.inr rfl) (pe_op op_add (pv 4) (pe_call G_numbers_count (hr.mono (by decide)) rfl T.gf_numbers_count T.F_numbers_count.kp T.b_numbers_count .nil pass0 (pa_cons (pv 0) (pa_cons (pv 3) pa_nil)))))
       (pss_cons (ps_set (i := 6) nd rfl (by first | exact Or.inl rfl | exact Or.inr rfl) (pe_call G_answer_call (hr.mono (by decide)) rfl T.gf_answer_call T.F_answer_call.kp T.b_answer_call .nil pass0 (pa_cons (pv 1) (pa_cons (pe_ix ix_list (pv 0) (pv 3) (fun _ _ => rfl)) (pa_cons (pe_slice sl_list (pv 0) (po_some (pv 4)) (po_some (pv 5))) pa_nil)))))
       (pss_cons (ps_expr (pe_bm PySem.F.plainAttrs_list PySem.F.slot_list_append PySem.F.type_list_append mt_append (pv 2) (pa_cons (pe_callB call_len_seq (by rfl) T.bl_len PySem.boot_len (pa_cons (pv 6) pa_nil)) pa_nil)))
       (pss_cons (ps_expr (pe_bm PySem.F.plainAttrs_list PySem.F.slot_list_extend PySem.F.type_list_extend mt_extend (pv 2) (pa_cons (pv 6) pa_nil)))
       (pss_one (ps_set (i := 3) nd rfl (by first | exact Or.inl rfl | exact Or.inr rfl) (pv 5)))))))))
      (pss_one (ps_ret (pv 2))))))), ?_⟩
    simp only [tSeq, gTup, gCons, gNil, tIfS, tRet, tRetN, tNext, tDrop, tAsg, gName, tTest, tB, tOp, tUn, tVar, tC, tChain, rI0, rI, rU, rEq, rNe, tAnd, tOr, tNot, tAndV, tOrV, tNotV, tIf, tFld, sFld, sFldAug, rAdd, rSub, tCall, tMeth, tMake, tNil, tCons, tLst, tTup, tCB, tBM, tBM0, rAppend, rExtend, rCat, rIxL, rIxT, tSl, rSlL, tNoPart, tPart, scal_int, scal_bl, sl0, sl1, sl2, sl3, sl4, cxK, L2.start, tAug, ipI, List.getElem?_cons_zero, List.getElem?_cons_succ, Option.some.injEq, V.int.injEq, V.ref.injEq, V.bl.injEq, HO.ins.injEq, HO.lst.injEq, exists_eq_left', exists_eq_left, exists_and_left, exists_and_right, and_assoc, List.map_cons, List.map_nil, List.cons_append, List.nil_append, List.append_nil, List.set_cons_zero, List.set_cons_succ, decide_eq_true_eq, true_and, and_true, List.length_cons, List.length_nil, Nat.reduceAdd, Nat.reduceSub, List.replicate_succ, List.replicate_zero, Bool.not_eq_true', decide_eq_false_iff_not, reduceCtorEq, Bool.false_eq_true, if_true, if_false, List.cons.injEq, T.cl_Night, T.cl_Watch, T.na_Night_depth, T.na_Night_depths, T.na_Night_plan, T.na_Night_worked, T.na_Night_call_outs, T.na_Night_in_row, T.na_Night_rested, T.na_Watch_deep, T.na_Watch_clears, T.na_Watch_may_lie, T.na_Watch_most_in_row, T.na_Watch_least_rest, T.na_Watch_hour_costs, T.na_Watch_call_costs, T.na_Watch_falls, nightF_lt, watchF_lt, nightF_get_depth, nightF_put_depth, nightF_get_depths, nightF_put_depths, nightF_get_plan, nightF_put_plan, nightF_get_worked, nightF_put_worked, nightF_get_call_outs, nightF_put_call_outs, nightF_get_in_row, nightF_put_in_row, nightF_get_rested, nightF_put_rested, nightF_no_copied, nightF_no_works, nightF_no_rests, nightF_no_lies, nightF_no_deepest, watchF_get_deep, watchF_put_deep, watchF_get_clears, watchF_put_clears, watchF_get_may_lie, watchF_put_may_lie, watchF_get_most_in_row, watchF_put_most_in_row, watchF_get_least_rest, watchF_put_least_rest, watchF_get_hour_costs, watchF_put_hour_costs, watchF_get_call_costs, watchF_put_call_costs, watchF_get_falls, watchF_put_falls, watchF_no_start_over, watchF_no_begins, watchF_no_crew, watchF_no_snow, watchF_no_check, watchF_no_cheapest, watchF_no_fewest, watchF_no_shallow, watchF_no_nights_that_can_be, watchF_no_nights_of_crew, watchF_no_is_plan, watchF_no_pass_hour, watchF_no_wrong_with_work, watchF_no_cost]
    intro wt dx nw ndx ndw
    refine ⟨wt, dx, rfl, upd_same, fun H2 fl hfl hw2 kp2 => ⟨rfl, fun q hq => ?_⟩⟩
    have s2 : Same H H2 := fun c o e => kp2 c o (by rw [upd_ne (ne_of_none e nw), upd_ne (ne_of_none e ndx)]; exact e) (by simp [ne_of_none e nw])
    have nfl : H fl = none := (upd_none (upd_none hfl).2).2
    have nq : H q = none := s2.free hq
    obtain ⟨cs, hleft, _, hans⟩ := asked_left hask
    have hlen := asked_len hask
    have big : (1048576 : Nat) ≤ sizeLine := by decide
    have s3 : Same H2 (upd H2 q (.lst [])) := fun c o e => by rw [upd_ne (ne_of_none e hq)]; exact e
    have L0 : Loop x K H a ns wt q 0 (upd H2 q (.lst [])) := by
      refine ⟨⟨fl, Si78.init, cs, [], good_init, ?_, nfl, ?_, hleft, upd_same, hans.symm⟩, s2.trans s3, Nat.zero_le _⟩
      · obtain ⟨⟨d1, g1⟩, g2⟩ := hw2
        exact ⟨⟨d1, s3 _ _ g1⟩, s3 _ _ g2⟩
      · exact ne_of_none hw2.lst hq
    refine ⟨WLoop x K H a ns wt q, ⟨_, 0, none, none, none, rfl, rfl, L0⟩, ?_⟩
    rintro m σ H3 ⟨i, v4, v5, v6, rfl, rfl, L⟩
    simp only [tSeq, gTup, gCons, gNil, tIfS, tRet, tRetN, tNext, tDrop, tAsg, gName, tTest, tB, tOp, tUn, tVar, tC, tChain, rI0, rI, rU, rEq, rNe, tAnd, tOr, tNot, tAndV, tOrV, tNotV, tIf, tFld, sFld, sFldAug, rAdd, rSub, tCall, tMeth, tMake, tNil, tCons, tLst, tTup, tCB, tBM, tBM0, rAppend, rExtend, rCat, rIxL, rIxT, tSl, rSlL, tNoPart, tPart, scal_int, scal_bl, sl0, sl1, sl2, sl3, sl4, cxK, L2.start, tAug, ipI, List.getElem?_cons_zero, List.getElem?_cons_succ, Option.some.injEq, V.int.injEq, V.ref.injEq, V.bl.injEq, HO.ins.injEq, HO.lst.injEq, exists_eq_left', exists_eq_left, exists_and_left, exists_and_right, and_assoc, List.map_cons, List.map_nil, List.cons_append, List.nil_append, List.append_nil, List.set_cons_zero, List.set_cons_succ, decide_eq_true_eq, true_and, and_true, List.length_cons, List.length_nil, Nat.reduceAdd, Nat.reduceSub, List.replicate_succ, List.replicate_zero, Bool.not_eq_true', decide_eq_false_iff_not, reduceCtorEq, Bool.false_eq_true, if_true, if_false, List.cons.injEq, T.cl_Night, T.cl_Watch, T.na_Night_depth, T.na_Night_depths, T.na_Night_plan, T.na_Night_worked, T.na_Night_call_outs, T.na_Night_in_row, T.na_Night_rested, T.na_Watch_deep, T.na_Watch_clears, T.na_Watch_may_lie, T.na_Watch_most_in_row, T.na_Watch_least_rest, T.na_Watch_hour_costs, T.na_Watch_call_costs, T.na_Watch_falls, nightF_lt, watchF_lt, nightF_get_depth, nightF_put_depth, nightF_get_depths, nightF_put_depths, nightF_get_plan, nightF_put_plan, nightF_get_worked, nightF_put_worked, nightF_get_call_outs, nightF_put_call_outs, nightF_get_in_row, nightF_put_in_row, nightF_get_rested, nightF_put_rested, nightF_no_copied, nightF_no_works, nightF_no_rests, nightF_no_lies, nightF_no_deepest, watchF_get_deep, watchF_put_deep, watchF_get_clears, watchF_put_clears, watchF_get_may_lie, watchF_put_may_lie, watchF_get_most_in_row, watchF_put_most_in_row, watchF_get_least_rest, watchF_put_least_rest, watchF_get_hour_costs, watchF_put_hour_costs, watchF_get_call_costs, watchF_put_call_costs, watchF_get_falls, watchF_put_falls, watchF_no_start_over, watchF_no_begins, watchF_no_crew, watchF_no_snow, watchF_no_check, watchF_no_cheapest, watchF_no_fewest, watchF_no_shallow, watchF_no_nights_that_can_be, watchF_no_nights_of_crew, watchF_no_is_plan, watchF_no_pass_hour, watchF_no_wrong_with_work, watchF_no_cost]
    have hs3 := L.same.seq hs
    refine ⟨_, .inl hs3, ?_⟩
    rw [List.length_map]
    obtain ⟨⟨fl, W, cs, out, hg, hw, nfl, nfq, hleft, hout, htold⟩, same, hle⟩ := L
    split
    · rename_i hlt
      have hlt : i < ns.length := by omega
      obtain ⟨c, t, cs', one, hleft', rfl, hin⟩ := hleft.cons (fun e => by
        have := congrArg List.length e
        rw [List.length_drop] at this
        have : ns.length - i = 0 := this
        omega)
      obtain ⟨p, b, r, cq, hpl, hsh, hst⟩ := one_shape one hin W
      obtain ⟨hi, hi1, hb3, hb, hdrop, htake, hend⟩ := place_at hpl rfl
      refine ⟨NLoop x K H a ns wt q i, fun σ' H' ⟨j, u4, u5, u6, h1, h2, h3⟩ => ⟨ns.length - j, ?_, j, u4, u5, u6, rfl, h2, h3⟩, ?_⟩
      · have := h3.le; omega
      have eb : (if p = 3 then (i : Int) + 2 else (i : Int) + 1) = ((i + b : Nat) : Int) := by
        split
        · rename_i e; have := hb3.mp e; omega
        · rename_i e
          have : ¬ b = 2 := fun z => e (hb3.mpr z)
          omega
      refine ⟨a, ns, i, p, rfl, hs3, hi, ?_⟩
      rw [eb]
      simp only [tSeq, gTup, gCons, gNil, tIfS, tRet, tRetN, tNext, tDrop, tAsg, gName, tTest, tB, tOp, tUn, tVar, tC, tChain, rI0, rI, rU, rEq, rNe, tAnd, tOr, tNot, tAndV, tOrV, tNotV, tIf, tFld, sFld, sFldAug, rAdd, rSub, tCall, tMeth, tMake, tNil, tCons, tLst, tTup, tCB, tBM, tBM0, rAppend, rExtend, rCat, rIxL, rIxT, tSl, rSlL, tNoPart, tPart, scal_int, scal_bl, sl0, sl1, sl2, sl3, sl4, cxK, L2.start, tAug, ipI, List.getElem?_cons_zero, List.getElem?_cons_succ, Option.some.injEq, V.int.injEq, V.ref.injEq, V.bl.injEq, HO.ins.injEq, HO.lst.injEq, exists_eq_left', exists_eq_left, exists_and_left, exists_and_right, and_assoc, List.map_cons, List.map_nil, List.cons_append, List.nil_append, List.append_nil, List.set_cons_zero, List.set_cons_succ, decide_eq_true_eq, true_and, and_true, List.length_cons, List.length_nil, Nat.reduceAdd, Nat.reduceSub, List.replicate_succ, List.replicate_zero, Bool.not_eq_true', decide_eq_false_iff_not, reduceCtorEq, Bool.false_eq_true, if_true, if_false, List.cons.injEq, T.cl_Night, T.cl_Watch, T.na_Night_depth, T.na_Night_depths, T.na_Night_plan, T.na_Night_worked, T.na_Night_call_outs, T.na_Night_in_row, T.na_Night_rested, T.na_Watch_deep, T.na_Watch_clears, T.na_Watch_may_lie, T.na_Watch_most_in_row, T.na_Watch_least_rest, T.na_Watch_hour_costs, T.na_Watch_call_costs, T.na_Watch_falls, nightF_lt, watchF_lt, nightF_get_depth, nightF_put_depth, nightF_get_depths, nightF_put_depths, nightF_get_plan, nightF_put_plan, nightF_get_worked, nightF_put_worked, nightF_get_call_outs, nightF_put_call_outs, nightF_get_in_row, nightF_put_in_row, nightF_get_rested, nightF_put_rested, nightF_no_copied, nightF_no_works, nightF_no_rests, nightF_no_lies, nightF_no_deepest, watchF_get_deep, watchF_put_deep, watchF_get_clears, watchF_put_clears, watchF_get_may_lie, watchF_put_may_lie, watchF_get_most_in_row, watchF_put_most_in_row, watchF_get_least_rest, watchF_put_least_rest, watchF_get_hour_costs, watchF_put_hour_costs, watchF_get_call_costs, watchF_put_call_costs, watchF_get_falls, watchF_put_falls, watchF_no_start_over, watchF_no_begins, watchF_no_crew, watchF_no_snow, watchF_no_check, watchF_no_cheapest, watchF_no_fewest, watchF_no_shallow, watchF_no_nights_that_can_be, watchF_no_nights_of_crew, watchF_no_is_plan, watchF_no_pass_hour, watchF_no_wrong_with_work, watchF_no_cost]
      have hcnt : p = 3 ∧ ns[i + 1]? = some (r.length : Int) ∨ (p = 0 ∧ (r.length : Int) = 3 ∨ p = 1 ∧ (r.length : Int) = 4 ∨ p = 2 ∧ (r.length : Int) = 1 ∨ p = 4 ∧ (r.length : Int) = 0 ∨ p = 5 ∧ (r.length : Int) = 0 ∨ p = 6 ∧ (r.length : Int) = 0) := by
        rcases shape_len hsh with h | h | h | h | h
        · exact .inr (by omega)
        · exact .inr (by omega)
        · exact .inr (by omega)
        · exact .inl ⟨h, hi1 h⟩
        · exact .inr (by omega)
      refine ⟨a, ns, i, p, r.length, rfl, hs3, hi, hcnt, fun H4 s4 => ⟨_, rfl, _, s4.seq hs3, _, at_int rfl hi, _, s4.seq hs3, fun pl hpl4 => ?_⟩⟩
      have ec : cutV (List.map V.int ns) (some ((i + b : Nat) : Int)) (some (((i + b : Nat) : Int) + (r.length : Int))) = r.map V.int := by
        have e1 : ((i + b : Nat) : Int) + (r.length : Int) = ((i + b + r.length : Nat) : Int) := by omega
        unfold cutV
        rw [e1, HT.sIx_nat, HT.sIx_nat, List.length_map, Nat.min_eq_left (by omega), Nat.min_eq_left (by omega), ← List.map_drop, ← List.map_take, show i + b + r.length - (i + b) = r.length by omega, htake]
      rw [ec]
      have s5 : Same H4 (upd H4 pl (.lst (r.map V.int))) := fun c o e => by rw [upd_ne (ne_of_none e hpl4)]; exact e
      have s35 := s4.trans s5
      have hq5 := s35 _ _ hout
      have hw5 : WatchAt x (upd H4 pl (.lst (r.map V.int))) wt fl (ofW W) := by
        obtain ⟨⟨d1, g1⟩, g2⟩ := hw
        exact ⟨⟨d1, s35 _ _ g1⟩, s35 _ _ g2⟩
      refine ⟨wt, fl, pl, W, p, r, cq, rfl, hw5, hg, hsh, SqL.of upd_same, fun H6 fl' y h1 h2 h3 h4 h5 kp => ?_⟩
      have qw : q ≠ wt := by
        obtain ⟨⟨d1, g1⟩, g2⟩ := hw
        exact ne_of hout g1 (by intro z; cases z)
      have hq6 : H6 q = some (.lst (out.map V.int)) := kp _ _ hq5 (by simp [qw, Ne.symm nfq])
      have yq : y ≠ q := Ne.symm (ne_of_none hq5 h3)
      have s6 : Same H H6 := fun c o e => kp c o (s35 _ _ (same _ _ e)) (by simp [ne_of_none e nw, ne_of_none e nfl])
      have nfl' : H fl' = none := by
        rcases h1 with rfl | h1
        · exact nfl
        · exact (same.trans s35).free h1
      have fq' : fl' ≠ q := by
        rcases h1 with rfl | h1
        · exact nfq
        · exact Ne.symm (ne_of_none hq5 h1)
      rw [toldOf_cons, hst] at htold
      have htold : out ++ ((((Si78.step W cq).2.v :: (Si78.step W cq).2.l).length : Int) :: ((Si78.step W cq).2.v :: (Si78.step W cq).2.l) ++ toldOf (Si78.step W cq).1 cs') = PySi78.answers ns := htold
      generalize hA : (Si78.step W cq).2.v :: (Si78.step W cq).2.l = A at htold h4
      have hsz : out.length + 1 + A.length ≤ 1000059 := by
        have := congrArg List.length htold
        rw [List.length_append, List.length_append, List.length_cons] at this
        omega
      refine ⟨tyL hq6, y, rfl, _, .inl (SqL.of h4), _, hq6, by rw [List.length_map]; omega, tyL upd_same, y, rfl, _, upd_same, _, (by rw [upd_ne yq]; exact h4), ?_, ?_⟩
      · rw [List.length_append, List.length_map, List.length_map]
        show out.length + 1 + A.length ≤ sizeLine
        omega
      · rw [upd_upd]
        refine ⟨i + b + r.length, _, _, _, by omega, by rw [show ((i + b : Nat) : Int) + (r.length : Int) = ((i + b + r.length : Nat) : Int) by omega], ⟨⟨fl', (Si78.step W cq).1, cs', out ++ ((A.length : Int) :: A), good_step hg cq, ?_, nfl', fq', ?_, ?_, ?_⟩, ?_, hend⟩⟩
        · obtain ⟨⟨d1, g1⟩, g2⟩ := h2
          exact ⟨⟨d1, by rw [upd_ne (Ne.symm qw)]; exact g1⟩, by rw [upd_ne fq']; exact g2⟩
        · rw [hdrop]; exact hleft'
        · rw [upd_same, List.length_map, List.append_assoc, List.map_append]; rfl
        · rw [List.append_assoc]; exact htold
        · exact fun c o e => by rw [upd_ne (ne_of_none e nq)]; exact s6 c o e
    · rename_i hlt
      have hlt : i = ns.length := by omega
      subst hlt
      rw [List.drop_length] at hleft
      have := hleft.nil
      subst this
      rw [toldOf_nil, List.append_nil] at htold
      rw [htold] at hout
      exact k H3 q hout
end
end Snow

set_option Elab.async false
set_option linter.all false
set_option maxRecDepth 100000
set_option maxHeartbeats 2000000
namespace Snow
open PySem PySem.Spec PyProof.Rows L2
open PySem.W (Codec)
theorem txt_mk {K : PySem.W.Frag} {h : Heap} {mg : Str → Option Value} (X : K.In h) (G : h.Ns mainGlobals mg) {c_Night : Addr} {c_Watch : Addr}
    {f_Night___init__ : Addr} {od_Night___init__ an_Night___init__ : Option Addr} {sl_Night___init__ : Array (Option Value)} {oc_Night___init__ kV_Night___init__ dc_Night___init__ pm_Night___init__ cd_Night___init__ ct_Night___init__ : Value}
    {f_Night_copied : Addr} {od_Night_copied an_Night_copied : Option Addr} {sl_Night_copied : Array (Option Value)} {oc_Night_copied kV_Night_copied dc_Night_copied pm_Night_copied cd_Night_copied ct_Night_copied : Value}
    {f_Night_works : Addr} {od_Night_works an_Night_works : Option Addr} {sl_Night_works : Array (Option Value)} {oc_Night_works kV_Night_works dc_Night_works pm_Night_works cd_Night_works ct_Night_works : Value}
    {f_Night_rests : Addr} {od_Night_rests an_Night_rests : Option Addr} {sl_Night_rests : Array (Option Value)} {oc_Night_rests kV_Night_rests dc_Night_rests pm_Night_rests cd_Night_rests ct_Night_rests : Value}
    {f_Night_lies : Addr} {od_Night_lies an_Night_lies : Option Addr} {sl_Night_lies : Array (Option Value)} {oc_Night_lies kV_Night_lies dc_Night_lies pm_Night_lies cd_Night_lies ct_Night_lies : Value}
    {f_Night_deepest : Addr} {od_Night_deepest an_Night_deepest : Option Addr} {sl_Night_deepest : Array (Option Value)} {oc_Night_deepest kV_Night_deepest dc_Night_deepest pm_Night_deepest cd_Night_deepest ct_Night_deepest : Value}
    {f_Watch___init__ : Addr} {od_Watch___init__ an_Watch___init__ : Option Addr} {sl_Watch___init__ : Array (Option Value)} {oc_Watch___init__ kV_Watch___init__ dc_Watch___init__ pm_Watch___init__ cd_Watch___init__ ct_Watch___init__ : Value}
    {f_Watch_start_over : Addr} {od_Watch_start_over an_Watch_start_over : Option Addr} {sl_Watch_start_over : Array (Option Value)} {oc_Watch_start_over kV_Watch_start_over dc_Watch_start_over pm_Watch_start_over cd_Watch_start_over ct_Watch_start_over : Value}
    {f_Watch_begins : Addr} {od_Watch_begins an_Watch_begins : Option Addr} {sl_Watch_begins : Array (Option Value)} {oc_Watch_begins kV_Watch_begins dc_Watch_begins pm_Watch_begins cd_Watch_begins ct_Watch_begins : Value}
    {f_Watch_crew : Addr} {od_Watch_crew an_Watch_crew : Option Addr} {sl_Watch_crew : Array (Option Value)} {oc_Watch_crew kV_Watch_crew dc_Watch_crew pm_Watch_crew cd_Watch_crew ct_Watch_crew : Value}
    {f_Watch_snow : Addr} {od_Watch_snow an_Watch_snow : Option Addr} {sl_Watch_snow : Array (Option Value)} {oc_Watch_snow kV_Watch_snow dc_Watch_snow pm_Watch_snow cd_Watch_snow ct_Watch_snow : Value}
    {f_Watch_check : Addr} {od_Watch_check an_Watch_check : Option Addr} {sl_Watch_check : Array (Option Value)} {oc_Watch_check kV_Watch_check dc_Watch_check pm_Watch_check cd_Watch_check ct_Watch_check : Value}
    {f_Watch_cheapest : Addr} {od_Watch_cheapest an_Watch_cheapest : Option Addr} {sl_Watch_cheapest : Array (Option Value)} {oc_Watch_cheapest kV_Watch_cheapest dc_Watch_cheapest pm_Watch_cheapest cd_Watch_cheapest ct_Watch_cheapest : Value}
    {f_Watch_fewest : Addr} {od_Watch_fewest an_Watch_fewest : Option Addr} {sl_Watch_fewest : Array (Option Value)} {oc_Watch_fewest kV_Watch_fewest dc_Watch_fewest pm_Watch_fewest cd_Watch_fewest ct_Watch_fewest : Value}
    {f_Watch_shallow : Addr} {od_Watch_shallow an_Watch_shallow : Option Addr} {sl_Watch_shallow : Array (Option Value)} {oc_Watch_shallow kV_Watch_shallow dc_Watch_shallow pm_Watch_shallow cd_Watch_shallow ct_Watch_shallow : Value}
    {f_Watch_nights_that_can_be : Addr} {od_Watch_nights_that_can_be an_Watch_nights_that_can_be : Option Addr} {sl_Watch_nights_that_can_be : Array (Option Value)} {oc_Watch_nights_that_can_be kV_Watch_nights_that_can_be dc_Watch_nights_that_can_be pm_Watch_nights_that_can_be cd_Watch_nights_that_can_be ct_Watch_nights_that_can_be : Value}
    {f_Watch_nights_of_crew : Addr} {od_Watch_nights_of_crew an_Watch_nights_of_crew : Option Addr} {sl_Watch_nights_of_crew : Array (Option Value)} {oc_Watch_nights_of_crew kV_Watch_nights_of_crew dc_Watch_nights_of_crew pm_Watch_nights_of_crew cd_Watch_nights_of_crew ct_Watch_nights_of_crew : Value}
    {f_Watch_is_plan : Addr} {od_Watch_is_plan an_Watch_is_plan : Option Addr} {sl_Watch_is_plan : Array (Option Value)} {oc_Watch_is_plan kV_Watch_is_plan dc_Watch_is_plan pm_Watch_is_plan cd_Watch_is_plan ct_Watch_is_plan : Value}
    {f_Watch_pass_hour : Addr} {od_Watch_pass_hour an_Watch_pass_hour : Option Addr} {sl_Watch_pass_hour : Array (Option Value)} {oc_Watch_pass_hour kV_Watch_pass_hour dc_Watch_pass_hour pm_Watch_pass_hour cd_Watch_pass_hour ct_Watch_pass_hour : Value}
    {f_Watch_wrong_with_work : Addr} {od_Watch_wrong_with_work an_Watch_wrong_with_work : Option Addr} {sl_Watch_wrong_with_work : Array (Option Value)} {oc_Watch_wrong_with_work kV_Watch_wrong_with_work dc_Watch_wrong_with_work pm_Watch_wrong_with_work cd_Watch_wrong_with_work ct_Watch_wrong_with_work : Value}
    {f_Watch_cost : Addr} {od_Watch_cost an_Watch_cost : Option Addr} {sl_Watch_cost : Array (Option Value)} {oc_Watch_cost kV_Watch_cost dc_Watch_cost pm_Watch_cost cd_Watch_cost ct_Watch_cost : Value}
    {f_best_answer : Addr} {od_best_answer an_best_answer : Option Addr} {sl_best_answer : Array (Option Value)} {oc_best_answer kV_best_answer dc_best_answer pm_best_answer cd_best_answer ct_best_answer : Value}
    {f_answers : Addr} {od_answers an_answers : Option Addr} {sl_answers : Array (Option Value)} {oc_answers kV_answers dc_answers pm_answers cd_answers ct_answers : Value}
    {f_numbers_begin : Addr} {od_numbers_begin an_numbers_begin : Option Addr} {sl_numbers_begin : Array (Option Value)} {oc_numbers_begin kV_numbers_begin dc_numbers_begin pm_numbers_begin cd_numbers_begin ct_numbers_begin : Value}
    {f_numbers_count : Addr} {od_numbers_count an_numbers_count : Option Addr} {sl_numbers_count : Array (Option Value)} {oc_numbers_count kV_numbers_count dc_numbers_count pm_numbers_count cd_numbers_count ct_numbers_count : Value}
    {f_answer_call : Addr} {od_answer_call an_answer_call : Option Addr} {sl_answer_call : Array (Option Value)} {oc_answer_call kV_answer_call dc_answer_call pm_answer_call cd_answer_call ct_answer_call : Value}
    {t_BEGINS t_CREW t_SNOW t_CHECK t_CHEAPEST t_FEWEST t_SHALLOW t_NOT_AS_TOLD t_NO_HOUR_LEFT t_CANNOT_BE t_NOTHING_WRONG t_TOO_LONG t_TOO_SOON t_TOO_DEEP t_MOST_DEPTH t_MOST_COST t_MOST_CREW_HOURS t_MOST_FALL t_MOST_HOURS : Tok}
    (hc_Night : PySem.W.nsIn K mainGlobals "Night" = some (some (.ref c_Night)))
    (hc_Watch : PySem.W.nsIn K mainGlobals "Watch" = some (some (.ref c_Watch)))
    (a_Night___init__ : PySem.W.findIn K (.ref c_Night) "__init__" = some (some (.ref f_Night___init__)))
    (i_Night___init__ : PySem.W.isFn K (.ref f_Night___init__) = true)
    (l_Night___init__ : K.lookup f_Night___init__ = some ⟨oc_Night___init__, od_Night___init__, .func (PySem.W.fnOf "__init__" "Night.__init__" (defArgs s_Night___init__) (defBody s_Night___init__) (defScope s_Night___init__) .none kV_Night___init__ dc_Night___init__ pm_Night___init__ an_Night___init__ cd_Night___init__ ct_Night___init__), sl_Night___init__⟩)
    (cc_Night___init__ : PySem.W.codeIn K cd_Night___init__ "Night.__init__" = true)
    (k_Night___init__ : PySem.W.keepIn K (.ref f_Night___init__) = true)
    (a_Night_copied : PySem.W.findIn K (.ref c_Night) "copied" = some (some (.ref f_Night_copied)))
    (i_Night_copied : PySem.W.isFn K (.ref f_Night_copied) = true)
    (l_Night_copied : K.lookup f_Night_copied = some ⟨oc_Night_copied, od_Night_copied, .func (PySem.W.fnOf "copied" "Night.copied" (defArgs s_Night_copied) (defBody s_Night_copied) (defScope s_Night_copied) .none kV_Night_copied dc_Night_copied pm_Night_copied an_Night_copied cd_Night_copied ct_Night_copied), sl_Night_copied⟩)
    (cc_Night_copied : PySem.W.codeIn K cd_Night_copied "Night.copied" = true)
    (k_Night_copied : PySem.W.keepIn K (.ref f_Night_copied) = true)
    (a_Night_works : PySem.W.findIn K (.ref c_Night) "works" = some (some (.ref f_Night_works)))
    (i_Night_works : PySem.W.isFn K (.ref f_Night_works) = true)
    (l_Night_works : K.lookup f_Night_works = some ⟨oc_Night_works, od_Night_works, .func (PySem.W.fnOf "works" "Night.works" (defArgs s_Night_works) (defBody s_Night_works) (defScope s_Night_works) .none kV_Night_works dc_Night_works pm_Night_works an_Night_works cd_Night_works ct_Night_works), sl_Night_works⟩)
    (cc_Night_works : PySem.W.codeIn K cd_Night_works "Night.works" = true)
    (k_Night_works : PySem.W.keepIn K (.ref f_Night_works) = true)
    (a_Night_rests : PySem.W.findIn K (.ref c_Night) "rests" = some (some (.ref f_Night_rests)))
    (i_Night_rests : PySem.W.isFn K (.ref f_Night_rests) = true)
    (l_Night_rests : K.lookup f_Night_rests = some ⟨oc_Night_rests, od_Night_rests, .func (PySem.W.fnOf "rests" "Night.rests" (defArgs s_Night_rests) (defBody s_Night_rests) (defScope s_Night_rests) .none kV_Night_rests dc_Night_rests pm_Night_rests an_Night_rests cd_Night_rests ct_Night_rests), sl_Night_rests⟩)
    (cc_Night_rests : PySem.W.codeIn K cd_Night_rests "Night.rests" = true)
    (k_Night_rests : PySem.W.keepIn K (.ref f_Night_rests) = true)
    (a_Night_lies : PySem.W.findIn K (.ref c_Night) "lies" = some (some (.ref f_Night_lies)))
    (i_Night_lies : PySem.W.isFn K (.ref f_Night_lies) = true)
    (l_Night_lies : K.lookup f_Night_lies = some ⟨oc_Night_lies, od_Night_lies, .func (PySem.W.fnOf "lies" "Night.lies" (defArgs s_Night_lies) (defBody s_Night_lies) (defScope s_Night_lies) .none kV_Night_lies dc_Night_lies pm_Night_lies an_Night_lies cd_Night_lies ct_Night_lies), sl_Night_lies⟩)
    (cc_Night_lies : PySem.W.codeIn K cd_Night_lies "Night.lies" = true)
    (k_Night_lies : PySem.W.keepIn K (.ref f_Night_lies) = true)
    (a_Night_deepest : PySem.W.findIn K (.ref c_Night) "deepest" = some (some (.ref f_Night_deepest)))
    (i_Night_deepest : PySem.W.isFn K (.ref f_Night_deepest) = true)
    (l_Night_deepest : K.lookup f_Night_deepest = some ⟨oc_Night_deepest, od_Night_deepest, .func (PySem.W.fnOf "deepest" "Night.deepest" (defArgs s_Night_deepest) (defBody s_Night_deepest) (defScope s_Night_deepest) .none kV_Night_deepest dc_Night_deepest pm_Night_deepest an_Night_deepest cd_Night_deepest ct_Night_deepest), sl_Night_deepest⟩)
    (cc_Night_deepest : PySem.W.codeIn K cd_Night_deepest "Night.deepest" = true)
    (k_Night_deepest : PySem.W.keepIn K (.ref f_Night_deepest) = true)
    (a_Watch___init__ : PySem.W.findIn K (.ref c_Watch) "__init__" = some (some (.ref f_Watch___init__)))
    (i_Watch___init__ : PySem.W.isFn K (.ref f_Watch___init__) = true)
    (l_Watch___init__ : K.lookup f_Watch___init__ = some ⟨oc_Watch___init__, od_Watch___init__, .func (PySem.W.fnOf "__init__" "Watch.__init__" (defArgs s_Watch___init__) (defBody s_Watch___init__) (defScope s_Watch___init__) .none kV_Watch___init__ dc_Watch___init__ pm_Watch___init__ an_Watch___init__ cd_Watch___init__ ct_Watch___init__), sl_Watch___init__⟩)
    (cc_Watch___init__ : PySem.W.codeIn K cd_Watch___init__ "Watch.__init__" = true)
    (k_Watch___init__ : PySem.W.keepIn K (.ref f_Watch___init__) = true)
    (a_Watch_start_over : PySem.W.findIn K (.ref c_Watch) "start_over" = some (some (.ref f_Watch_start_over)))
    (i_Watch_start_over : PySem.W.isFn K (.ref f_Watch_start_over) = true)
    (l_Watch_start_over : K.lookup f_Watch_start_over = some ⟨oc_Watch_start_over, od_Watch_start_over, .func (PySem.W.fnOf "start_over" "Watch.start_over" (defArgs s_Watch_start_over) (defBody s_Watch_start_over) (defScope s_Watch_start_over) .none kV_Watch_start_over dc_Watch_start_over pm_Watch_start_over an_Watch_start_over cd_Watch_start_over ct_Watch_start_over), sl_Watch_start_over⟩)
    (cc_Watch_start_over : PySem.W.codeIn K cd_Watch_start_over "Watch.start_over" = true)
    (k_Watch_start_over : PySem.W.keepIn K (.ref f_Watch_start_over) = true)
    (a_Watch_begins : PySem.W.findIn K (.ref c_Watch) "begins" = some (some (.ref f_Watch_begins)))
    (i_Watch_begins : PySem.W.isFn K (.ref f_Watch_begins) = true)
    (l_Watch_begins : K.lookup f_Watch_begins = some ⟨oc_Watch_begins, od_Watch_begins, .func (PySem.W.fnOf "begins" "Watch.begins" (defArgs s_Watch_begins) (defBody s_Watch_begins) (defScope s_Watch_begins) .none kV_Watch_begins dc_Watch_begins pm_Watch_begins an_Watch_begins cd_Watch_begins ct_Watch_begins), sl_Watch_begins⟩)
    (cc_Watch_begins : PySem.W.codeIn K cd_Watch_begins "Watch.begins" = true)
    (k_Watch_begins : PySem.W.keepIn K (.ref f_Watch_begins) = true)
    (a_Watch_crew : PySem.W.findIn K (.ref c_Watch) "crew" = some (some (.ref f_Watch_crew)))
    (i_Watch_crew : PySem.W.isFn K (.ref f_Watch_crew) = true)
    (l_Watch_crew : K.lookup f_Watch_crew = some ⟨oc_Watch_crew, od_Watch_crew, .func (PySem.W.fnOf "crew" "Watch.crew" (defArgs s_Watch_crew) (defBody s_Watch_crew) (defScope s_Watch_crew) .none kV_Watch_crew dc_Watch_crew pm_Watch_crew an_Watch_crew cd_Watch_crew ct_Watch_crew), sl_Watch_crew⟩)
    (cc_Watch_crew : PySem.W.codeIn K cd_Watch_crew "Watch.crew" = true)
    (k_Watch_crew : PySem.W.keepIn K (.ref f_Watch_crew) = true)
    (a_Watch_snow : PySem.W.findIn K (.ref c_Watch) "snow" = some (some (.ref f_Watch_snow)))
    (i_Watch_snow : PySem.W.isFn K (.ref f_Watch_snow) = true)
    (l_Watch_snow : K.lookup f_Watch_snow = some ⟨oc_Watch_snow, od_Watch_snow, .func (PySem.W.fnOf "snow" "Watch.snow" (defArgs s_Watch_snow) (defBody s_Watch_snow) (defScope s_Watch_snow) .none kV_Watch_snow dc_Watch_snow pm_Watch_snow an_Watch_snow cd_Watch_snow ct_Watch_snow), sl_Watch_snow⟩)
    (cc_Watch_snow : PySem.W.codeIn K cd_Watch_snow "Watch.snow" = true)
    (k_Watch_snow : PySem.W.keepIn K (.ref f_Watch_snow) = true)
    (a_Watch_check : PySem.W.findIn K (.ref c_Watch) "check" = some (some (.ref f_Watch_check)))
    (i_Watch_check : PySem.W.isFn K (.ref f_Watch_check) = true)
    (l_Watch_check : K.lookup f_Watch_check = some ⟨oc_Watch_check, od_Watch_check, .func (PySem.W.fnOf "check" "Watch.check" (defArgs s_Watch_check) (defBody s_Watch_check) (defScope s_Watch_check) .none kV_Watch_check dc_Watch_check pm_Watch_check an_Watch_check cd_Watch_check ct_Watch_check), sl_Watch_check⟩)
    (cc_Watch_check : PySem.W.codeIn K cd_Watch_check "Watch.check" = true)
    (k_Watch_check : PySem.W.keepIn K (.ref f_Watch_check) = true)
    (a_Watch_cheapest : PySem.W.findIn K (.ref c_Watch) "cheapest" = some (some (.ref f_Watch_cheapest)))
    (i_Watch_cheapest : PySem.W.isFn K (.ref f_Watch_cheapest) = true)
    (l_Watch_cheapest : K.lookup f_Watch_cheapest = some ⟨oc_Watch_cheapest, od_Watch_cheapest, .func (PySem.W.fnOf "cheapest" "Watch.cheapest" (defArgs s_Watch_cheapest) (defBody s_Watch_cheapest) (defScope s_Watch_cheapest) .none kV_Watch_cheapest dc_Watch_cheapest pm_Watch_cheapest an_Watch_cheapest cd_Watch_cheapest ct_Watch_cheapest), sl_Watch_cheapest⟩)
    (cc_Watch_cheapest : PySem.W.codeIn K cd_Watch_cheapest "Watch.cheapest" = true)
    (k_Watch_cheapest : PySem.W.keepIn K (.ref f_Watch_cheapest) = true)
    (a_Watch_fewest : PySem.W.findIn K (.ref c_Watch) "fewest" = some (some (.ref f_Watch_fewest)))
    (i_Watch_fewest : PySem.W.isFn K (.ref f_Watch_fewest) = true)
    (l_Watch_fewest : K.lookup f_Watch_fewest = some ⟨oc_Watch_fewest, od_Watch_fewest, .func (PySem.W.fnOf "fewest" "Watch.fewest" (defArgs s_Watch_fewest) (defBody s_Watch_fewest) (defScope s_Watch_fewest) .none kV_Watch_fewest dc_Watch_fewest pm_Watch_fewest an_Watch_fewest cd_Watch_fewest ct_Watch_fewest), sl_Watch_fewest⟩)
    (cc_Watch_fewest : PySem.W.codeIn K cd_Watch_fewest "Watch.fewest" = true)
    (k_Watch_fewest : PySem.W.keepIn K (.ref f_Watch_fewest) = true)
    (a_Watch_shallow : PySem.W.findIn K (.ref c_Watch) "shallow" = some (some (.ref f_Watch_shallow)))
    (i_Watch_shallow : PySem.W.isFn K (.ref f_Watch_shallow) = true)
    (l_Watch_shallow : K.lookup f_Watch_shallow = some ⟨oc_Watch_shallow, od_Watch_shallow, .func (PySem.W.fnOf "shallow" "Watch.shallow" (defArgs s_Watch_shallow) (defBody s_Watch_shallow) (defScope s_Watch_shallow) .none kV_Watch_shallow dc_Watch_shallow pm_Watch_shallow an_Watch_shallow cd_Watch_shallow ct_Watch_shallow), sl_Watch_shallow⟩)
    (cc_Watch_shallow : PySem.W.codeIn K cd_Watch_shallow "Watch.shallow" = true)
    (k_Watch_shallow : PySem.W.keepIn K (.ref f_Watch_shallow) = true)
    (a_Watch_nights_that_can_be : PySem.W.findIn K (.ref c_Watch) "nights_that_can_be" = some (some (.ref f_Watch_nights_that_can_be)))
    (i_Watch_nights_that_can_be : PySem.W.isFn K (.ref f_Watch_nights_that_can_be) = true)
    (l_Watch_nights_that_can_be : K.lookup f_Watch_nights_that_can_be = some ⟨oc_Watch_nights_that_can_be, od_Watch_nights_that_can_be, .func (PySem.W.fnOf "nights_that_can_be" "Watch.nights_that_can_be" (defArgs s_Watch_nights_that_can_be) (defBody s_Watch_nights_that_can_be) (defScope s_Watch_nights_that_can_be) .none kV_Watch_nights_that_can_be dc_Watch_nights_that_can_be pm_Watch_nights_that_can_be an_Watch_nights_that_can_be cd_Watch_nights_that_can_be ct_Watch_nights_that_can_be), sl_Watch_nights_that_can_be⟩)
    (cc_Watch_nights_that_can_be : PySem.W.codeIn K cd_Watch_nights_that_can_be "Watch.nights_that_can_be" = true)
    (k_Watch_nights_that_can_be : PySem.W.keepIn K (.ref f_Watch_nights_that_can_be) = true)
    (a_Watch_nights_of_crew : PySem.W.findIn K (.ref c_Watch) "nights_of_crew" = some (some (.ref f_Watch_nights_of_crew)))
    (i_Watch_nights_of_crew : PySem.W.isFn K (.ref f_Watch_nights_of_crew) = true)
    (l_Watch_nights_of_crew : K.lookup f_Watch_nights_of_crew = some ⟨oc_Watch_nights_of_crew, od_Watch_nights_of_crew, .func (PySem.W.fnOf "nights_of_crew" "Watch.nights_of_crew" (defArgs s_Watch_nights_of_crew) (defBody s_Watch_nights_of_crew) (defScope s_Watch_nights_of_crew) .none kV_Watch_nights_of_crew dc_Watch_nights_of_crew pm_Watch_nights_of_crew an_Watch_nights_of_crew cd_Watch_nights_of_crew ct_Watch_nights_of_crew), sl_Watch_nights_of_crew⟩)
    (cc_Watch_nights_of_crew : PySem.W.codeIn K cd_Watch_nights_of_crew "Watch.nights_of_crew" = true)
    (k_Watch_nights_of_crew : PySem.W.keepIn K (.ref f_Watch_nights_of_crew) = true)
    (a_Watch_is_plan : PySem.W.findIn K (.ref c_Watch) "is_plan" = some (some (.ref f_Watch_is_plan)))
    (i_Watch_is_plan : PySem.W.isFn K (.ref f_Watch_is_plan) = true)
    (l_Watch_is_plan : K.lookup f_Watch_is_plan = some ⟨oc_Watch_is_plan, od_Watch_is_plan, .func (PySem.W.fnOf "is_plan" "Watch.is_plan" (defArgs s_Watch_is_plan) (defBody s_Watch_is_plan) (defScope s_Watch_is_plan) .none kV_Watch_is_plan dc_Watch_is_plan pm_Watch_is_plan an_Watch_is_plan cd_Watch_is_plan ct_Watch_is_plan), sl_Watch_is_plan⟩)
    (cc_Watch_is_plan : PySem.W.codeIn K cd_Watch_is_plan "Watch.is_plan" = true)
    (k_Watch_is_plan : PySem.W.keepIn K (.ref f_Watch_is_plan) = true)
    (a_Watch_pass_hour : PySem.W.findIn K (.ref c_Watch) "pass_hour" = some (some (.ref f_Watch_pass_hour)))
    (i_Watch_pass_hour : PySem.W.isFn K (.ref f_Watch_pass_hour) = true)
    (l_Watch_pass_hour : K.lookup f_Watch_pass_hour = some ⟨oc_Watch_pass_hour, od_Watch_pass_hour, .func (PySem.W.fnOf "pass_hour" "Watch.pass_hour" (defArgs s_Watch_pass_hour) (defBody s_Watch_pass_hour) (defScope s_Watch_pass_hour) .none kV_Watch_pass_hour dc_Watch_pass_hour pm_Watch_pass_hour an_Watch_pass_hour cd_Watch_pass_hour ct_Watch_pass_hour), sl_Watch_pass_hour⟩)
    (cc_Watch_pass_hour : PySem.W.codeIn K cd_Watch_pass_hour "Watch.pass_hour" = true)
    (k_Watch_pass_hour : PySem.W.keepIn K (.ref f_Watch_pass_hour) = true)
    (a_Watch_wrong_with_work : PySem.W.findIn K (.ref c_Watch) "wrong_with_work" = some (some (.ref f_Watch_wrong_with_work)))
    (i_Watch_wrong_with_work : PySem.W.isFn K (.ref f_Watch_wrong_with_work) = true)
    (l_Watch_wrong_with_work : K.lookup f_Watch_wrong_with_work = some ⟨oc_Watch_wrong_with_work, od_Watch_wrong_with_work, .func (PySem.W.fnOf "wrong_with_work" "Watch.wrong_with_work" (defArgs s_Watch_wrong_with_work) (defBody s_Watch_wrong_with_work) (defScope s_Watch_wrong_with_work) .none kV_Watch_wrong_with_work dc_Watch_wrong_with_work pm_Watch_wrong_with_work an_Watch_wrong_with_work cd_Watch_wrong_with_work ct_Watch_wrong_with_work), sl_Watch_wrong_with_work⟩)
    (cc_Watch_wrong_with_work : PySem.W.codeIn K cd_Watch_wrong_with_work "Watch.wrong_with_work" = true)
    (k_Watch_wrong_with_work : PySem.W.keepIn K (.ref f_Watch_wrong_with_work) = true)
    (a_Watch_cost : PySem.W.findIn K (.ref c_Watch) "cost" = some (some (.ref f_Watch_cost)))
    (i_Watch_cost : PySem.W.isFn K (.ref f_Watch_cost) = true)
    (l_Watch_cost : K.lookup f_Watch_cost = some ⟨oc_Watch_cost, od_Watch_cost, .func (PySem.W.fnOf "cost" "Watch.cost" (defArgs s_Watch_cost) (defBody s_Watch_cost) (defScope s_Watch_cost) .none kV_Watch_cost dc_Watch_cost pm_Watch_cost an_Watch_cost cd_Watch_cost ct_Watch_cost), sl_Watch_cost⟩)
    (cc_Watch_cost : PySem.W.codeIn K cd_Watch_cost "Watch.cost" = true)
    (k_Watch_cost : PySem.W.keepIn K (.ref f_Watch_cost) = true)
    (a_best_answer : PySem.W.nsIn K mainGlobals "best_answer" = some (some (.ref f_best_answer)))
    (l_best_answer : K.lookup f_best_answer = some ⟨oc_best_answer, od_best_answer, .func (PySem.W.fnOf "best_answer" "best_answer" (defArgs s_best_answer) (defBody s_best_answer) (defScope s_best_answer) .none kV_best_answer dc_best_answer pm_best_answer an_best_answer cd_best_answer ct_best_answer), sl_best_answer⟩)
    (cc_best_answer : PySem.W.codeIn K cd_best_answer "best_answer" = true)
    (k_best_answer : PySem.W.keepIn K (.ref f_best_answer) = true)
    (a_answers : PySem.W.nsIn K mainGlobals "answers" = some (some (.ref f_answers)))
    (l_answers : K.lookup f_answers = some ⟨oc_answers, od_answers, .func (PySem.W.fnOf "answers" "answers" (defArgs s_answers) (defBody s_answers) (defScope s_answers) .none kV_answers dc_answers pm_answers an_answers cd_answers ct_answers), sl_answers⟩)
    (cc_answers : PySem.W.codeIn K cd_answers "answers" = true)
    (k_answers : PySem.W.keepIn K (.ref f_answers) = true)
    (a_numbers_begin : PySem.W.nsIn K mainGlobals "numbers_begin" = some (some (.ref f_numbers_begin)))
    (l_numbers_begin : K.lookup f_numbers_begin = some ⟨oc_numbers_begin, od_numbers_begin, .func (PySem.W.fnOf "numbers_begin" "numbers_begin" (defArgs s_numbers_begin) (defBody s_numbers_begin) (defScope s_numbers_begin) .none kV_numbers_begin dc_numbers_begin pm_numbers_begin an_numbers_begin cd_numbers_begin ct_numbers_begin), sl_numbers_begin⟩)
    (cc_numbers_begin : PySem.W.codeIn K cd_numbers_begin "numbers_begin" = true)
    (k_numbers_begin : PySem.W.keepIn K (.ref f_numbers_begin) = true)
    (a_numbers_count : PySem.W.nsIn K mainGlobals "numbers_count" = some (some (.ref f_numbers_count)))
    (l_numbers_count : K.lookup f_numbers_count = some ⟨oc_numbers_count, od_numbers_count, .func (PySem.W.fnOf "numbers_count" "numbers_count" (defArgs s_numbers_count) (defBody s_numbers_count) (defScope s_numbers_count) .none kV_numbers_count dc_numbers_count pm_numbers_count an_numbers_count cd_numbers_count ct_numbers_count), sl_numbers_count⟩)
    (cc_numbers_count : PySem.W.codeIn K cd_numbers_count "numbers_count" = true)
    (k_numbers_count : PySem.W.keepIn K (.ref f_numbers_count) = true)
    (a_answer_call : PySem.W.nsIn K mainGlobals "answer_call" = some (some (.ref f_answer_call)))
    (l_answer_call : K.lookup f_answer_call = some ⟨oc_answer_call, od_answer_call, .func (PySem.W.fnOf "answer_call" "answer_call" (defArgs s_answer_call) (defBody s_answer_call) (defScope s_answer_call) .none kV_answer_call dc_answer_call pm_answer_call an_answer_call cd_answer_call ct_answer_call), sl_answer_call⟩)
    (cc_answer_call : PySem.W.codeIn K cd_answer_call "answer_call" = true)
    (k_answer_call : PySem.W.keepIn K (.ref f_answer_call) = true)
    (pg_Night : PySem.W.plainGet K c_Night Str.empty = true)
    (hd_Night : PySem.W.hasDictIn K c_Night = true)
    (po_Night : PySem.W.plainOver K c_Night = true)
    (sa_Night : PySem.W.findIn K (.ref c_Night) "__setattr__" = some (some (.builtin "object.__setattr__")))
    (mk_Night : PySem.W.makesIn K c_Night = true)
    (kc_Night : PySem.W.keepIn K (.ref c_Night) = true)
    (na_Night_depth : PySem.W.findIn K (.ref c_Night) "depth" = some none)
    (na_Night_depths : PySem.W.findIn K (.ref c_Night) "depths" = some none)
    (na_Night_plan : PySem.W.findIn K (.ref c_Night) "plan" = some none)
    (na_Night_worked : PySem.W.findIn K (.ref c_Night) "worked" = some none)
    (na_Night_call_outs : PySem.W.findIn K (.ref c_Night) "call_outs" = some none)
    (na_Night_in_row : PySem.W.findIn K (.ref c_Night) "in_row" = some none)
    (na_Night_rested : PySem.W.findIn K (.ref c_Night) "rested" = some none)
    (pg_Watch : PySem.W.plainGet K c_Watch Str.empty = true)
    (hd_Watch : PySem.W.hasDictIn K c_Watch = true)
    (po_Watch : PySem.W.plainOver K c_Watch = true)
    (sa_Watch : PySem.W.findIn K (.ref c_Watch) "__setattr__" = some (some (.builtin "object.__setattr__")))
    (mk_Watch : PySem.W.makesIn K c_Watch = true)
    (kc_Watch : PySem.W.keepIn K (.ref c_Watch) = true)
    (na_Watch_deep : PySem.W.findIn K (.ref c_Watch) "deep" = some none)
    (na_Watch_clears : PySem.W.findIn K (.ref c_Watch) "clears" = some none)
    (na_Watch_may_lie : PySem.W.findIn K (.ref c_Watch) "may_lie" = some none)
    (na_Watch_most_in_row : PySem.W.findIn K (.ref c_Watch) "most_in_row" = some none)
    (na_Watch_least_rest : PySem.W.findIn K (.ref c_Watch) "least_rest" = some none)
    (na_Watch_hour_costs : PySem.W.findIn K (.ref c_Watch) "hour_costs" = some none)
    (na_Watch_call_costs : PySem.W.findIn K (.ref c_Watch) "call_costs" = some none)
    (na_Watch_falls : PySem.W.findIn K (.ref c_Watch) "falls" = some none)
    (g_BEGINS : PySem.W.nsIn K mainGlobals "BEGINS" = some (some (.int (0) t_BEGINS)))
    (g_CREW : PySem.W.nsIn K mainGlobals "CREW" = some (some (.int (1) t_CREW)))
    (g_SNOW : PySem.W.nsIn K mainGlobals "SNOW" = some (some (.int (2) t_SNOW)))
    (g_CHECK : PySem.W.nsIn K mainGlobals "CHECK" = some (some (.int (3) t_CHECK)))
    (g_CHEAPEST : PySem.W.nsIn K mainGlobals "CHEAPEST" = some (some (.int (4) t_CHEAPEST)))
    (g_FEWEST : PySem.W.nsIn K mainGlobals "FEWEST" = some (some (.int (5) t_FEWEST)))
    (g_SHALLOW : PySem.W.nsIn K mainGlobals "SHALLOW" = some (some (.int (6) t_SHALLOW)))
    (g_NOT_AS_TOLD : PySem.W.nsIn K mainGlobals "NOT_AS_TOLD" = some (some (.int (-1) t_NOT_AS_TOLD)))
    (g_NO_HOUR_LEFT : PySem.W.nsIn K mainGlobals "NO_HOUR_LEFT" = some (some (.int (-5) t_NO_HOUR_LEFT)))
    (g_CANNOT_BE : PySem.W.nsIn K mainGlobals "CANNOT_BE" = some (some (.int (-6) t_CANNOT_BE)))
    (g_NOTHING_WRONG : PySem.W.nsIn K mainGlobals "NOTHING_WRONG" = some (some (.int (0) t_NOTHING_WRONG)))
    (g_TOO_LONG : PySem.W.nsIn K mainGlobals "TOO_LONG" = some (some (.int (1) t_TOO_LONG)))
    (g_TOO_SOON : PySem.W.nsIn K mainGlobals "TOO_SOON" = some (some (.int (2) t_TOO_SOON)))
    (g_TOO_DEEP : PySem.W.nsIn K mainGlobals "TOO_DEEP" = some (some (.int (3) t_TOO_DEEP)))
    (g_MOST_DEPTH : PySem.W.nsIn K mainGlobals "MOST_DEPTH" = some (some (.int (1000) t_MOST_DEPTH)))
    (g_MOST_COST : PySem.W.nsIn K mainGlobals "MOST_COST" = some (some (.int (1000) t_MOST_COST)))
    (g_MOST_CREW_HOURS : PySem.W.nsIn K mainGlobals "MOST_CREW_HOURS" = some (some (.int (10) t_MOST_CREW_HOURS)))
    (g_MOST_FALL : PySem.W.nsIn K mainGlobals "MOST_FALL" = some (some (.int (100) t_MOST_FALL)))
    (g_MOST_HOURS : PySem.W.nsIn K mainGlobals "MOST_HOURS" = some (some (.int (10) t_MOST_HOURS)))
    (bl_list : PySem.W.nsIn K mainGlobals "list" = some none)
    (bl_max : PySem.W.nsIn K mainGlobals "max" = some none)
    (bl_len : PySem.W.nsIn K mainGlobals "len" = some none)
    (bl_enumerate : PySem.W.nsIn K mainGlobals "enumerate" = some none)
    (bl_min : PySem.W.nsIn K mainGlobals "min" = some none)
    (bl_all : PySem.W.nsIn K mainGlobals "all" = some none) :
    Txt K mg ⟨c_Night, c_Watch, f_Night___init__, f_Night_copied, f_Night_works, f_Night_rests, f_Night_lies, f_Night_deepest, f_Watch___init__, f_Watch_start_over, f_Watch_begins, f_Watch_crew, f_Watch_snow, f_Watch_check, f_Watch_cheapest, f_Watch_fewest, f_Watch_shallow, f_Watch_nights_that_can_be, f_Watch_nights_of_crew, f_Watch_is_plan, f_Watch_pass_hour, f_Watch_wrong_with_work, f_Watch_cost, f_best_answer, f_answers, f_numbers_begin, f_numbers_count, f_answer_call, PySem.W.fnOf "__init__" "Night.__init__" (defArgs s_Night___init__) (defBody s_Night___init__) (defScope s_Night___init__) .none kV_Night___init__ dc_Night___init__ pm_Night___init__ an_Night___init__ cd_Night___init__ ct_Night___init__, PySem.W.fnOf "copied" "Night.copied" (defArgs s_Night_copied) (defBody s_Night_copied) (defScope s_Night_copied) .none kV_Night_copied dc_Night_copied pm_Night_copied an_Night_copied cd_Night_copied ct_Night_copied, PySem.W.fnOf "works" "Night.works" (defArgs s_Night_works) (defBody s_Night_works) (defScope s_Night_works) .none kV_Night_works dc_Night_works pm_Night_works an_Night_works cd_Night_works ct_Night_works, PySem.W.fnOf "rests" "Night.rests" (defArgs s_Night_rests) (defBody s_Night_rests) (defScope s_Night_rests) .none kV_Night_rests dc_Night_rests pm_Night_rests an_Night_rests cd_Night_rests ct_Night_rests, PySem.W.fnOf "lies" "Night.lies" (defArgs s_Night_lies) (defBody s_Night_lies) (defScope s_Night_lies) .none kV_Night_lies dc_Night_lies pm_Night_lies an_Night_lies cd_Night_lies ct_Night_lies, PySem.W.fnOf "deepest" "Night.deepest" (defArgs s_Night_deepest) (defBody s_Night_deepest) (defScope s_Night_deepest) .none kV_Night_deepest dc_Night_deepest pm_Night_deepest an_Night_deepest cd_Night_deepest ct_Night_deepest, PySem.W.fnOf "__init__" "Watch.__init__" (defArgs s_Watch___init__) (defBody s_Watch___init__) (defScope s_Watch___init__) .none kV_Watch___init__ dc_Watch___init__ pm_Watch___init__ an_Watch___init__ cd_Watch___init__ ct_Watch___init__, PySem.W.fnOf "start_over" "Watch.start_over" (defArgs s_Watch_start_over) (defBody s_Watch_start_over) (defScope s_Watch_start_over) .none kV_Watch_start_over dc_Watch_start_over pm_Watch_start_over an_Watch_start_over cd_Watch_start_over ct_Watch_start_over, PySem.W.fnOf "begins" "Watch.begins" (defArgs s_Watch_begins) (defBody s_Watch_begins) (defScope s_Watch_begins) .none kV_Watch_begins dc_Watch_begins pm_Watch_begins an_Watch_begins cd_Watch_begins ct_Watch_begins, PySem.W.fnOf "crew" "Watch.crew" (defArgs s_Watch_crew) (defBody s_Watch_crew) (defScope s_Watch_crew) .none kV_Watch_crew dc_Watch_crew pm_Watch_crew an_Watch_crew cd_Watch_crew ct_Watch_crew, PySem.W.fnOf "snow" "Watch.snow" (defArgs s_Watch_snow) (defBody s_Watch_snow) (defScope s_Watch_snow) .none kV_Watch_snow dc_Watch_snow pm_Watch_snow an_Watch_snow cd_Watch_snow ct_Watch_snow, PySem.W.fnOf "check" "Watch.check" (defArgs s_Watch_check) (defBody s_Watch_check) (defScope s_Watch_check) .none kV_Watch_check dc_Watch_check pm_Watch_check an_Watch_check cd_Watch_check ct_Watch_check, PySem.W.fnOf "cheapest" "Watch.cheapest" (defArgs s_Watch_cheapest) (defBody s_Watch_cheapest) (defScope s_Watch_cheapest) .none kV_Watch_cheapest dc_Watch_cheapest pm_Watch_cheapest an_Watch_cheapest cd_Watch_cheapest ct_Watch_cheapest, PySem.W.fnOf "fewest" "Watch.fewest" (defArgs s_Watch_fewest) (defBody s_Watch_fewest) (defScope s_Watch_fewest) .none kV_Watch_fewest dc_Watch_fewest pm_Watch_fewest an_Watch_fewest cd_Watch_fewest ct_Watch_fewest, PySem.W.fnOf "shallow" "Watch.shallow" (defArgs s_Watch_shallow) (defBody s_Watch_shallow) (defScope s_Watch_shallow) .none kV_Watch_shallow dc_Watch_shallow pm_Watch_shallow an_Watch_shallow cd_Watch_shallow ct_Watch_shallow, PySem.W.fnOf "nights_that_can_be" "Watch.nights_that_can_be" (defArgs s_Watch_nights_that_can_be) (defBody s_Watch_nights_that_can_be) (defScope s_Watch_nights_that_can_be) .none kV_Watch_nights_that_can_be dc_Watch_nights_that_can_be pm_Watch_nights_that_can_be an_Watch_nights_that_can_be cd_Watch_nights_that_can_be ct_Watch_nights_that_can_be, PySem.W.fnOf "nights_of_crew" "Watch.nights_of_crew" (defArgs s_Watch_nights_of_crew) (defBody s_Watch_nights_of_crew) (defScope s_Watch_nights_of_crew) .none kV_Watch_nights_of_crew dc_Watch_nights_of_crew pm_Watch_nights_of_crew an_Watch_nights_of_crew cd_Watch_nights_of_crew ct_Watch_nights_of_crew, PySem.W.fnOf "is_plan" "Watch.is_plan" (defArgs s_Watch_is_plan) (defBody s_Watch_is_plan) (defScope s_Watch_is_plan) .none kV_Watch_is_plan dc_Watch_is_plan pm_Watch_is_plan an_Watch_is_plan cd_Watch_is_plan ct_Watch_is_plan, PySem.W.fnOf "pass_hour" "Watch.pass_hour" (defArgs s_Watch_pass_hour) (defBody s_Watch_pass_hour) (defScope s_Watch_pass_hour) .none kV_Watch_pass_hour dc_Watch_pass_hour pm_Watch_pass_hour an_Watch_pass_hour cd_Watch_pass_hour ct_Watch_pass_hour, PySem.W.fnOf "wrong_with_work" "Watch.wrong_with_work" (defArgs s_Watch_wrong_with_work) (defBody s_Watch_wrong_with_work) (defScope s_Watch_wrong_with_work) .none kV_Watch_wrong_with_work dc_Watch_wrong_with_work pm_Watch_wrong_with_work an_Watch_wrong_with_work cd_Watch_wrong_with_work ct_Watch_wrong_with_work, PySem.W.fnOf "cost" "Watch.cost" (defArgs s_Watch_cost) (defBody s_Watch_cost) (defScope s_Watch_cost) .none kV_Watch_cost dc_Watch_cost pm_Watch_cost an_Watch_cost cd_Watch_cost ct_Watch_cost, PySem.W.fnOf "best_answer" "best_answer" (defArgs s_best_answer) (defBody s_best_answer) (defScope s_best_answer) .none kV_best_answer dc_best_answer pm_best_answer an_best_answer cd_best_answer ct_best_answer, PySem.W.fnOf "answers" "answers" (defArgs s_answers) (defBody s_answers) (defScope s_answers) .none kV_answers dc_answers pm_answers an_answers cd_answers ct_answers, PySem.W.fnOf "numbers_begin" "numbers_begin" (defArgs s_numbers_begin) (defBody s_numbers_begin) (defScope s_numbers_begin) .none kV_numbers_begin dc_numbers_begin pm_numbers_begin an_numbers_begin cd_numbers_begin ct_numbers_begin, PySem.W.fnOf "numbers_count" "numbers_count" (defArgs s_numbers_count) (defBody s_numbers_count) (defScope s_numbers_count) .none kV_numbers_count dc_numbers_count pm_numbers_count an_numbers_count cd_numbers_count ct_numbers_count, PySem.W.fnOf "answer_call" "answer_call" (defArgs s_answer_call) (defBody s_answer_call) (defScope s_answer_call) .none kV_answer_call dc_answer_call pm_answer_call an_answer_call cd_answer_call ct_answer_call⟩ where
  cl_Night := ⟨pg_Night, hd_Night, po_Night, sa_Night⟩
  gc_Night := PySem.W.mg_of X G hc_Night
  mk_Night := ⟨mk_Night, a_Night___init__, i_Night___init__, kc_Night⟩
  na_Night_depth := na_Night_depth
  na_Night_depths := na_Night_depths
  na_Night_plan := na_Night_plan
  na_Night_worked := na_Night_worked
  na_Night_call_outs := na_Night_call_outs
  na_Night_in_row := na_Night_in_row
  na_Night_rested := na_Night_rested
  cl_Watch := ⟨pg_Watch, hd_Watch, po_Watch, sa_Watch⟩
  gc_Watch := PySem.W.mg_of X G hc_Watch
  mk_Watch := ⟨mk_Watch, a_Watch___init__, i_Watch___init__, kc_Watch⟩
  na_Watch_deep := na_Watch_deep
  na_Watch_clears := na_Watch_clears
  na_Watch_may_lie := na_Watch_may_lie
  na_Watch_most_in_row := na_Watch_most_in_row
  na_Watch_least_rest := na_Watch_least_rest
  na_Watch_hour_costs := na_Watch_hour_costs
  na_Watch_call_costs := na_Watch_call_costs
  na_Watch_falls := na_Watch_falls
  F_Night___init__ := fun_mk (st := s_Night___init__) l_Night___init__ cc_Night___init__ k_Night___init__
  b_Night___init__ := (fun_mk (st := s_Night___init__) l_Night___init__ cc_Night___init__ k_Night___init__).binds (ps := ["self", "depth"]) fun _ _ _ _ _ _ us hl => match us, hl with | [_, _], _ => rfl
  F_Night_copied := fun_mk (st := s_Night_copied) l_Night_copied cc_Night_copied k_Night_copied
  b_Night_copied := (fun_mk (st := s_Night_copied) l_Night_copied cc_Night_copied k_Night_copied).binds (ps := ["self"]) fun _ _ _ _ _ _ us hl => match us, hl with | [_], _ => rfl
  mt_Night_copied := ⟨a_Night_copied, i_Night_copied, k_Night_copied⟩
  F_Night_works := fun_mk (st := s_Night_works) l_Night_works cc_Night_works k_Night_works
  b_Night_works := (fun_mk (st := s_Night_works) l_Night_works cc_Night_works k_Night_works).binds (ps := ["self"]) fun _ _ _ _ _ _ us hl => match us, hl with | [_], _ => rfl
  mt_Night_works := ⟨a_Night_works, i_Night_works, k_Night_works⟩
  F_Night_rests := fun_mk (st := s_Night_rests) l_Night_rests cc_Night_rests k_Night_rests
  b_Night_rests := (fun_mk (st := s_Night_rests) l_Night_rests cc_Night_rests k_Night_rests).binds (ps := ["self"]) fun _ _ _ _ _ _ us hl => match us, hl with | [_], _ => rfl
  mt_Night_rests := ⟨a_Night_rests, i_Night_rests, k_Night_rests⟩
  F_Night_lies := fun_mk (st := s_Night_lies) l_Night_lies cc_Night_lies k_Night_lies
  b_Night_lies := (fun_mk (st := s_Night_lies) l_Night_lies cc_Night_lies k_Night_lies).binds (ps := ["self", "depth"]) fun _ _ _ _ _ _ us hl => match us, hl with | [_, _], _ => rfl
  mt_Night_lies := ⟨a_Night_lies, i_Night_lies, k_Night_lies⟩
  F_Night_deepest := fun_mk (st := s_Night_deepest) l_Night_deepest cc_Night_deepest k_Night_deepest
  b_Night_deepest := (fun_mk (st := s_Night_deepest) l_Night_deepest cc_Night_deepest k_Night_deepest).binds (ps := ["self"]) fun _ _ _ _ _ _ us hl => match us, hl with | [_], _ => rfl
  mt_Night_deepest := ⟨a_Night_deepest, i_Night_deepest, k_Night_deepest⟩
  F_Watch___init__ := fun_mk (st := s_Watch___init__) l_Watch___init__ cc_Watch___init__ k_Watch___init__
  b_Watch___init__ := (fun_mk (st := s_Watch___init__) l_Watch___init__ cc_Watch___init__ k_Watch___init__).binds (ps := ["self"]) fun _ _ _ _ _ _ us hl => match us, hl with | [_], _ => rfl
  F_Watch_start_over := fun_mk (st := s_Watch_start_over) l_Watch_start_over cc_Watch_start_over k_Watch_start_over
  b_Watch_start_over := (fun_mk (st := s_Watch_start_over) l_Watch_start_over cc_Watch_start_over k_Watch_start_over).binds (ps := ["self", "deep", "clears", "may_lie"]) fun _ _ _ _ _ _ us hl => match us, hl with | [_, _, _, _], _ => rfl
  mt_Watch_start_over := ⟨a_Watch_start_over, i_Watch_start_over, k_Watch_start_over⟩
  F_Watch_begins := fun_mk (st := s_Watch_begins) l_Watch_begins cc_Watch_begins k_Watch_begins
  b_Watch_begins := (fun_mk (st := s_Watch_begins) l_Watch_begins cc_Watch_begins k_Watch_begins).binds (ps := ["self", "deep", "clears", "may_lie"]) fun _ _ _ _ _ _ us hl => match us, hl with | [_, _, _, _], _ => rfl
  mt_Watch_begins := ⟨a_Watch_begins, i_Watch_begins, k_Watch_begins⟩
  F_Watch_crew := fun_mk (st := s_Watch_crew) l_Watch_crew cc_Watch_crew k_Watch_crew
  b_Watch_crew := (fun_mk (st := s_Watch_crew) l_Watch_crew cc_Watch_crew k_Watch_crew).binds (ps := ["self", "in_row", "rest", "hour_costs", "call_costs"]) fun _ _ _ _ _ _ us hl => match us, hl with | [_, _, _, _, _], _ => rfl
  mt_Watch_crew := ⟨a_Watch_crew, i_Watch_crew, k_Watch_crew⟩
  F_Watch_snow := fun_mk (st := s_Watch_snow) l_Watch_snow cc_Watch_snow k_Watch_snow
  b_Watch_snow := (fun_mk (st := s_Watch_snow) l_Watch_snow cc_Watch_snow k_Watch_snow).binds (ps := ["self", "much"]) fun _ _ _ _ _ _ us hl => match us, hl with | [_, _], _ => rfl
  mt_Watch_snow := ⟨a_Watch_snow, i_Watch_snow, k_Watch_snow⟩
  F_Watch_check := fun_mk (st := s_Watch_check) l_Watch_check cc_Watch_check k_Watch_check
  b_Watch_check := (fun_mk (st := s_Watch_check) l_Watch_check cc_Watch_check k_Watch_check).binds (ps := ["self", "plan"]) fun _ _ _ _ _ _ us hl => match us, hl with | [_, _], _ => rfl
  mt_Watch_check := ⟨a_Watch_check, i_Watch_check, k_Watch_check⟩
  F_Watch_cheapest := fun_mk (st := s_Watch_cheapest) l_Watch_cheapest cc_Watch_cheapest k_Watch_cheapest
  b_Watch_cheapest := (fun_mk (st := s_Watch_cheapest) l_Watch_cheapest cc_Watch_cheapest k_Watch_cheapest).binds (ps := ["self"]) fun _ _ _ _ _ _ us hl => match us, hl with | [_], _ => rfl
  mt_Watch_cheapest := ⟨a_Watch_cheapest, i_Watch_cheapest, k_Watch_cheapest⟩
  F_Watch_fewest := fun_mk (st := s_Watch_fewest) l_Watch_fewest cc_Watch_fewest k_Watch_fewest
  b_Watch_fewest := (fun_mk (st := s_Watch_fewest) l_Watch_fewest cc_Watch_fewest k_Watch_fewest).binds (ps := ["self"]) fun _ _ _ _ _ _ us hl => match us, hl with | [_], _ => rfl
  mt_Watch_fewest := ⟨a_Watch_fewest, i_Watch_fewest, k_Watch_fewest⟩
  F_Watch_shallow := fun_mk (st := s_Watch_shallow) l_Watch_shallow cc_Watch_shallow k_Watch_shallow
  b_Watch_shallow := (fun_mk (st := s_Watch_shallow) l_Watch_shallow cc_Watch_shallow k_Watch_shallow).binds (ps := ["self"]) fun _ _ _ _ _ _ us hl => match us, hl with | [_], _ => rfl
  mt_Watch_shallow := ⟨a_Watch_shallow, i_Watch_shallow, k_Watch_shallow⟩
  F_Watch_nights_that_can_be := fun_mk (st := s_Watch_nights_that_can_be) l_Watch_nights_that_can_be cc_Watch_nights_that_can_be k_Watch_nights_that_can_be
  b_Watch_nights_that_can_be := (fun_mk (st := s_Watch_nights_that_can_be) l_Watch_nights_that_can_be cc_Watch_nights_that_can_be k_Watch_nights_that_can_be).binds (ps := ["self"]) fun _ _ _ _ _ _ us hl => match us, hl with | [_], _ => rfl
  mt_Watch_nights_that_can_be := ⟨a_Watch_nights_that_can_be, i_Watch_nights_that_can_be, k_Watch_nights_that_can_be⟩
  F_Watch_nights_of_crew := fun_mk (st := s_Watch_nights_of_crew) l_Watch_nights_of_crew cc_Watch_nights_of_crew k_Watch_nights_of_crew
  b_Watch_nights_of_crew := (fun_mk (st := s_Watch_nights_of_crew) l_Watch_nights_of_crew cc_Watch_nights_of_crew k_Watch_nights_of_crew).binds (ps := ["self"]) fun _ _ _ _ _ _ us hl => match us, hl with | [_], _ => rfl
  mt_Watch_nights_of_crew := ⟨a_Watch_nights_of_crew, i_Watch_nights_of_crew, k_Watch_nights_of_crew⟩
  F_Watch_is_plan := fun_mk (st := s_Watch_is_plan) l_Watch_is_plan cc_Watch_is_plan k_Watch_is_plan
  b_Watch_is_plan := (fun_mk (st := s_Watch_is_plan) l_Watch_is_plan cc_Watch_is_plan k_Watch_is_plan).binds (ps := ["self", "numbers"]) fun _ _ _ _ _ _ us hl => match us, hl with | [_, _], _ => rfl
  mt_Watch_is_plan := ⟨a_Watch_is_plan, i_Watch_is_plan, k_Watch_is_plan⟩
  F_Watch_pass_hour := fun_mk (st := s_Watch_pass_hour) l_Watch_pass_hour cc_Watch_pass_hour k_Watch_pass_hour
  b_Watch_pass_hour := (fun_mk (st := s_Watch_pass_hour) l_Watch_pass_hour cc_Watch_pass_hour k_Watch_pass_hour).binds (ps := ["self", "night", "fall", "works"]) fun _ _ _ _ _ _ us hl => match us, hl with | [_, _, _, _], _ => rfl
  mt_Watch_pass_hour := ⟨a_Watch_pass_hour, i_Watch_pass_hour, k_Watch_pass_hour⟩
  F_Watch_wrong_with_work := fun_mk (st := s_Watch_wrong_with_work) l_Watch_wrong_with_work cc_Watch_wrong_with_work k_Watch_wrong_with_work
  b_Watch_wrong_with_work := (fun_mk (st := s_Watch_wrong_with_work) l_Watch_wrong_with_work cc_Watch_wrong_with_work k_Watch_wrong_with_work).binds (ps := ["self", "night"]) fun _ _ _ _ _ _ us hl => match us, hl with | [_, _], _ => rfl
  mt_Watch_wrong_with_work := ⟨a_Watch_wrong_with_work, i_Watch_wrong_with_work, k_Watch_wrong_with_work⟩
  F_Watch_cost := fun_mk (st := s_Watch_cost) l_Watch_cost cc_Watch_cost k_Watch_cost
  b_Watch_cost := (fun_mk (st := s_Watch_cost) l_Watch_cost cc_Watch_cost k_Watch_cost).binds (ps := ["self", "night"]) fun _ _ _ _ _ _ us hl => match us, hl with | [_, _], _ => rfl
  mt_Watch_cost := ⟨a_Watch_cost, i_Watch_cost, k_Watch_cost⟩
  F_best_answer := fun_mk (st := s_best_answer) l_best_answer cc_best_answer k_best_answer
  b_best_answer := (fun_mk (st := s_best_answer) l_best_answer cc_best_answer k_best_answer).binds (ps := ["ranked"]) fun _ _ _ _ _ _ us hl => match us, hl with | [_], _ => rfl
  gf_best_answer := PySem.W.mg_of X G a_best_answer
  F_answers := fun_mk (st := s_answers) l_answers cc_answers k_answers
  b_answers := (fun_mk (st := s_answers) l_answers cc_answers k_answers).binds (ps := ["calls"]) fun _ _ _ _ _ _ us hl => match us, hl with | [_], _ => rfl
  gf_answers := PySem.W.mg_of X G a_answers
  F_numbers_begin := fun_mk (st := s_numbers_begin) l_numbers_begin cc_numbers_begin k_numbers_begin
  b_numbers_begin := (fun_mk (st := s_numbers_begin) l_numbers_begin cc_numbers_begin k_numbers_begin).binds (ps := ["calls", "at"]) fun _ _ _ _ _ _ us hl => match us, hl with | [_, _], _ => rfl
  gf_numbers_begin := PySem.W.mg_of X G a_numbers_begin
  F_numbers_count := fun_mk (st := s_numbers_count) l_numbers_count cc_numbers_count k_numbers_count
  b_numbers_count := (fun_mk (st := s_numbers_count) l_numbers_count cc_numbers_count k_numbers_count).binds (ps := ["calls", "at"]) fun _ _ _ _ _ _ us hl => match us, hl with | [_, _], _ => rfl
  gf_numbers_count := PySem.W.mg_of X G a_numbers_count
  F_answer_call := fun_mk (st := s_answer_call) l_answer_call cc_answer_call k_answer_call
  b_answer_call := (fun_mk (st := s_answer_call) l_answer_call cc_answer_call k_answer_call).binds (ps := ["watch", "call", "numbers"]) fun _ _ _ _ _ _ us hl => match us, hl with | [_, _, _], _ => rfl
  gf_answer_call := PySem.W.mg_of X G a_answer_call
  g_BEGINS := ⟨_, PySem.W.mg_of X G g_BEGINS⟩
  g_CREW := ⟨_, PySem.W.mg_of X G g_CREW⟩
  g_SNOW := ⟨_, PySem.W.mg_of X G g_SNOW⟩
  g_CHECK := ⟨_, PySem.W.mg_of X G g_CHECK⟩
  g_CHEAPEST := ⟨_, PySem.W.mg_of X G g_CHEAPEST⟩
  g_FEWEST := ⟨_, PySem.W.mg_of X G g_FEWEST⟩
  g_SHALLOW := ⟨_, PySem.W.mg_of X G g_SHALLOW⟩
  g_NOT_AS_TOLD := ⟨_, PySem.W.mg_of X G g_NOT_AS_TOLD⟩
  g_NO_HOUR_LEFT := ⟨_, PySem.W.mg_of X G g_NO_HOUR_LEFT⟩
  g_CANNOT_BE := ⟨_, PySem.W.mg_of X G g_CANNOT_BE⟩
  g_NOTHING_WRONG := ⟨_, PySem.W.mg_of X G g_NOTHING_WRONG⟩
  g_TOO_LONG := ⟨_, PySem.W.mg_of X G g_TOO_LONG⟩
  g_TOO_SOON := ⟨_, PySem.W.mg_of X G g_TOO_SOON⟩
  g_TOO_DEEP := ⟨_, PySem.W.mg_of X G g_TOO_DEEP⟩
  g_MOST_DEPTH := ⟨_, PySem.W.mg_of X G g_MOST_DEPTH⟩
  g_MOST_COST := ⟨_, PySem.W.mg_of X G g_MOST_COST⟩
  g_MOST_CREW_HOURS := ⟨_, PySem.W.mg_of X G g_MOST_CREW_HOURS⟩
  g_MOST_FALL := ⟨_, PySem.W.mg_of X G g_MOST_FALL⟩
  g_MOST_HOURS := ⟨_, PySem.W.mg_of X G g_MOST_HOURS⟩
  bl_list := PySem.W.mg_none_of X G bl_list
  bl_max := PySem.W.mg_none_of X G bl_max
  bl_len := PySem.W.mg_none_of X G bl_len
  bl_enumerate := PySem.W.mg_none_of X G bl_enumerate
  bl_min := PySem.W.mg_none_of X G bl_min
  bl_all := PySem.W.mg_none_of X G bl_all
theorem all_mk {P : Program} {w : World} {K : PySem.W.Frag} {h : Heap} {mg : Str → Option Value} {fa : Addr} {x : Adr} (T : Txt K mg x) (hfa : mg "answers" = some (.ref fa)) (hb : ∀ (s : Shared) (us : List Value), us.length = (["calls"] : List Str).length → BindsTo s x.fd_answers ⟨us, []⟩ ((["calls"] : List Str).zip us)) :
    ∃ fd : FuncData, (∀ (s : Shared) (us : List Value), us.length = (["calls"] : List Str).length → BindsTo s fd ⟨us, []⟩ ((["calls"] : List Str).zip us)) ∧ ∀ base : Heap, K.In base → base.Ns mainGlobals mg → FnOk P w K mg base CX0 8 fa fd ["calls"] (spA K) := by
  have e := hfa.symm.trans T.gf_answers
  cases e
  exact ⟨x.fd_answers, hb, fun base _ _ => ok_answers T⟩
end Snow
open PySem PySem.W PyProof.Rows
set_option maxRecDepth 100000 in
set_option maxHeartbeats 0 in
theorem PySem.Challenge.cw_snowcrews_s01_answers_holds : PySem.Challenge.rw_snowcrews_s01_answers.Holds := by
  w_on; k_headS; (case hw => exact ⟨[.list [.int 6]], by decide +kernel, by decide +kernel⟩)
  k_fillS
  refine L2.walk_specK (r := PySem.Challenge.rw_snowcrews_s01_answers) (k := 8) (CX := L2.CX0) (ps := ["calls"]) (sp := Snow.spA) (by decide +kernel) rfl rfl ⟨rfl, by decide, by decide⟩ (fun w h Y => PySem.W.kIn_of Y) ?F ?S (fun _ _ _ _ z => z)
  case F =>
    intro w mg fa h Y KX G hmg
    refine' Snow.all_mk (x := _) (h := h) ?T hmg ?B
    case T =>
      refine' Snow.txt_mk KX G ?hc_Night ?hc_Watch ?a_Night___init__ ?i_Night___init__ ?l_Night___init__ ?cc_Night___init__ ?k_Night___init__ ?a_Night_copied ?i_Night_copied ?l_Night_copied ?cc_Night_copied ?k_Night_copied ?a_Night_works ?i_Night_works ?l_Night_works ?cc_Night_works ?k_Night_works ?a_Night_rests ?i_Night_rests ?l_Night_rests ?cc_Night_rests ?k_Night_rests ?a_Night_lies ?i_Night_lies ?l_Night_lies ?cc_Night_lies ?k_Night_lies ?a_Night_deepest ?i_Night_deepest ?l_Night_deepest ?cc_Night_deepest ?k_Night_deepest ?a_Watch___init__ ?i_Watch___init__ ?l_Watch___init__ ?cc_Watch___init__ ?k_Watch___init__ ?a_Watch_start_over ?i_Watch_start_over ?l_Watch_start_over ?cc_Watch_start_over ?k_Watch_start_over ?a_Watch_begins ?i_Watch_begins ?l_Watch_begins ?cc_Watch_begins ?k_Watch_begins ?a_Watch_crew ?i_Watch_crew ?l_Watch_crew ?cc_Watch_crew ?k_Watch_crew ?a_Watch_snow ?i_Watch_snow ?l_Watch_snow ?cc_Watch_snow ?k_Watch_snow ?a_Watch_check ?i_Watch_check ?l_Watch_check ?cc_Watch_check ?k_Watch_check ?a_Watch_cheapest ?i_Watch_cheapest ?l_Watch_cheapest ?cc_Watch_cheapest ?k_Watch_cheapest ?a_Watch_fewest ?i_Watch_fewest ?l_Watch_fewest ?cc_Watch_fewest ?k_Watch_fewest ?a_Watch_shallow ?i_Watch_shallow ?l_Watch_shallow ?cc_Watch_shallow ?k_Watch_shallow ?a_Watch_nights_that_can_be ?i_Watch_nights_that_can_be ?l_Watch_nights_that_can_be ?cc_Watch_nights_that_can_be ?k_Watch_nights_that_can_be ?a_Watch_nights_of_crew ?i_Watch_nights_of_crew ?l_Watch_nights_of_crew ?cc_Watch_nights_of_crew ?k_Watch_nights_of_crew ?a_Watch_is_plan ?i_Watch_is_plan ?l_Watch_is_plan ?cc_Watch_is_plan ?k_Watch_is_plan ?a_Watch_pass_hour ?i_Watch_pass_hour ?l_Watch_pass_hour ?cc_Watch_pass_hour ?k_Watch_pass_hour ?a_Watch_wrong_with_work ?i_Watch_wrong_with_work ?l_Watch_wrong_with_work ?cc_Watch_wrong_with_work ?k_Watch_wrong_with_work ?a_Watch_cost ?i_Watch_cost ?l_Watch_cost ?cc_Watch_cost ?k_Watch_cost ?a_best_answer ?l_best_answer ?cc_best_answer ?k_best_answer ?a_answers ?l_answers ?cc_answers ?k_answers ?a_numbers_begin ?l_numbers_begin ?cc_numbers_begin ?k_numbers_begin ?a_numbers_count ?l_numbers_count ?cc_numbers_count ?k_numbers_count ?a_answer_call ?l_answer_call ?cc_answer_call ?k_answer_call ?pg_Night ?hd_Night ?po_Night ?sa_Night ?mk_Night ?kc_Night ?na_Night_depth ?na_Night_depths ?na_Night_plan ?na_Night_worked ?na_Night_call_outs ?na_Night_in_row ?na_Night_rested ?pg_Watch ?hd_Watch ?po_Watch ?sa_Watch ?mk_Watch ?kc_Watch ?na_Watch_deep ?na_Watch_clears ?na_Watch_may_lie ?na_Watch_most_in_row ?na_Watch_least_rest ?na_Watch_hour_costs ?na_Watch_call_costs ?na_Watch_falls ?g_BEGINS ?g_CREW ?g_SNOW ?g_CHECK ?g_CHEAPEST ?g_FEWEST ?g_SHALLOW ?g_NOT_AS_TOLD ?g_NO_HOUR_LEFT ?g_CANNOT_BE ?g_NOTHING_WRONG ?g_TOO_LONG ?g_TOO_SOON ?g_TOO_DEEP ?g_MOST_DEPTH ?g_MOST_COST ?g_MOST_CREW_HOURS ?g_MOST_FALL ?g_MOST_HOURS ?bl_list ?bl_max ?bl_len ?bl_enumerate ?bl_min ?bl_all
      (case hc_Night => k_is)
      (case hc_Watch => k_is)
      (case a_Night___init__ => k_is)
      (case i_Night___init__ => k_is)
      (case l_Night___init__ => k_is)
      (case cc_Night___init__ => k_is)
      (case k_Night___init__ => k_is)
      (case a_Night_copied => k_is)
      (case i_Night_copied => k_is)
      (case l_Night_copied => k_is)
      (case cc_Night_copied => k_is)
      (case k_Night_copied => k_is)
      (case a_Night_works => k_is)
      (case i_Night_works => k_is)
      (case l_Night_works => k_is)
      (case cc_Night_works => k_is)
      (case k_Night_works => k_is)
      (case a_Night_rests => k_is)
      (case i_Night_rests => k_is)
      (case l_Night_rests => k_is)
      (case cc_Night_rests => k_is)
      (case k_Night_rests => k_is)
      (case a_Night_lies => k_is)
      (case i_Night_lies => k_is)
      (case l_Night_lies => k_is)
      (case cc_Night_lies => k_is)
      (case k_Night_lies => k_is)
      (case a_Night_deepest => k_is)
      (case i_Night_deepest => k_is)
      (case l_Night_deepest => k_is)
      (case cc_Night_deepest => k_is)
      (case k_Night_deepest => k_is)
      (case a_Watch___init__ => k_is)
      (case i_Watch___init__ => k_is)
      (case l_Watch___init__ => k_is)
      (case cc_Watch___init__ => k_is)
      (case k_Watch___init__ => k_is)
      (case a_Watch_start_over => k_is)
      (case i_Watch_start_over => k_is)
      (case l_Watch_start_over => k_is)
      (case cc_Watch_start_over => k_is)
      (case k_Watch_start_over => k_is)
      (case a_Watch_begins => k_is)
      (case i_Watch_begins => k_is)
      (case l_Watch_begins => k_is)
      (case cc_Watch_begins => k_is)
      (case k_Watch_begins => k_is)
      (case a_Watch_crew => k_is)
      (case i_Watch_crew => k_is)
      (case l_Watch_crew => k_is)
      (case cc_Watch_crew => k_is)
      (case k_Watch_crew => k_is)
      (case a_Watch_snow => k_is)
      (case i_Watch_snow => k_is)
      (case l_Watch_snow => k_is)
      (case cc_Watch_snow => k_is)
      (case k_Watch_snow => k_is)
      (case a_Watch_check => k_is)
      (case i_Watch_check => k_is)
      (case l_Watch_check => k_is)
      (case cc_Watch_check => k_is)
      (case k_Watch_check => k_is)
      (case a_Watch_cheapest => k_is)
      (case i_Watch_cheapest => k_is)
      (case l_Watch_cheapest => k_is)
      (case cc_Watch_cheapest => k_is)
      (case k_Watch_cheapest => k_is)
      (case a_Watch_fewest => k_is)
      (case i_Watch_fewest => k_is)
      (case l_Watch_fewest => k_is)
      (case cc_Watch_fewest => k_is)
      (case k_Watch_fewest => k_is)
      (case a_Watch_shallow => k_is)
      (case i_Watch_shallow => k_is)
      (case l_Watch_shallow => k_is)
      (case cc_Watch_shallow => k_is)
      (case k_Watch_shallow => k_is)
      (case a_Watch_nights_that_can_be => k_is)
      (case i_Watch_nights_that_can_be => k_is)
      (case l_Watch_nights_that_can_be => k_is)
      (case cc_Watch_nights_that_can_be => k_is)
      (case k_Watch_nights_that_can_be => k_is)
      (case a_Watch_nights_of_crew => k_is)
      (case i_Watch_nights_of_crew => k_is)
      (case l_Watch_nights_of_crew => k_is)
      (case cc_Watch_nights_of_crew => k_is)
      (case k_Watch_nights_of_crew => k_is)
      (case a_Watch_is_plan => k_is)
      (case i_Watch_is_plan => k_is)
      (case l_Watch_is_plan => k_is)
      (case cc_Watch_is_plan => k_is)
      (case k_Watch_is_plan => k_is)
      (case a_Watch_pass_hour => k_is)
      (case i_Watch_pass_hour => k_is)
      (case l_Watch_pass_hour => k_is)
      (case cc_Watch_pass_hour => k_is)
      (case k_Watch_pass_hour => k_is)
      (case a_Watch_wrong_with_work => k_is)
      (case i_Watch_wrong_with_work => k_is)
      (case l_Watch_wrong_with_work => k_is)
      (case cc_Watch_wrong_with_work => k_is)
      (case k_Watch_wrong_with_work => k_is)
      (case a_Watch_cost => k_is)
      (case i_Watch_cost => k_is)
      (case l_Watch_cost => k_is)
      (case cc_Watch_cost => k_is)
      (case k_Watch_cost => k_is)
      (case a_best_answer => k_is)
      (case l_best_answer => k_is)
      (case cc_best_answer => k_is)
      (case k_best_answer => k_is)
      (case a_answers => k_is)
      (case l_answers => k_is)
      (case cc_answers => k_is)
      (case k_answers => k_is)
      (case a_numbers_begin => k_is)
      (case l_numbers_begin => k_is)
      (case cc_numbers_begin => k_is)
      (case k_numbers_begin => k_is)
      (case a_numbers_count => k_is)
      (case l_numbers_count => k_is)
      (case cc_numbers_count => k_is)
      (case k_numbers_count => k_is)
      (case a_answer_call => k_is)
      (case l_answer_call => k_is)
      (case cc_answer_call => k_is)
      (case k_answer_call => k_is)
      (case pg_Night => k_is)
      (case hd_Night => k_is)
      (case po_Night => k_is)
      (case sa_Night => k_is)
      (case mk_Night => k_is)
      (case kc_Night => k_is)
      (case na_Night_depth => k_is)
      (case na_Night_depths => k_is)
      (case na_Night_plan => k_is)
      (case na_Night_worked => k_is)
      (case na_Night_call_outs => k_is)
      (case na_Night_in_row => k_is)
      (case na_Night_rested => k_is)
      (case pg_Watch => k_is)
      (case hd_Watch => k_is)
      (case po_Watch => k_is)
      (case sa_Watch => k_is)
      (case mk_Watch => k_is)
      (case kc_Watch => k_is)
      (case na_Watch_deep => k_is)
      (case na_Watch_clears => k_is)
      (case na_Watch_may_lie => k_is)
      (case na_Watch_most_in_row => k_is)
      (case na_Watch_least_rest => k_is)
      (case na_Watch_hour_costs => k_is)
      (case na_Watch_call_costs => k_is)
      (case na_Watch_falls => k_is)
      (case g_BEGINS => k_is)
      (case g_CREW => k_is)
      (case g_SNOW => k_is)
      (case g_CHECK => k_is)
      (case g_CHEAPEST => k_is)
      (case g_FEWEST => k_is)
      (case g_SHALLOW => k_is)
      (case g_NOT_AS_TOLD => k_is)
      (case g_NO_HOUR_LEFT => k_is)
      (case g_CANNOT_BE => k_is)
      (case g_NOTHING_WRONG => k_is)
      (case g_TOO_LONG => k_is)
      (case g_TOO_SOON => k_is)
      (case g_TOO_DEEP => k_is)
      (case g_MOST_DEPTH => k_is)
      (case g_MOST_COST => k_is)
      (case g_MOST_CREW_HOURS => k_is)
      (case g_MOST_FALL => k_is)
      (case g_MOST_HOURS => k_is)
      (case bl_list => k_is)
      (case bl_max => k_is)
      (case bl_len => k_is)
      (case bl_enumerate => k_is)
      (case bl_min => k_is)
      (case bl_all => k_is)
    case B => exact fun s us hu => match us, hu with | [_], _ => .of_eq rfl
  case S =>
    intro K H xs a hO hwi hask hx
    cases hx with
    | cons h1 h2 =>
      cases h2
      cases h1 with
      | lst hs ha =>
        have e := L2.ints_dw a.1 _ ha
        subst e
        have q : ((Codec.inLen 0 900 a.1 && a.1.all (Codec.inInt 0 4294967295)) && true) = true := hwi
        rw [Bool.and_eq_true, Bool.and_eq_true] at q
        exact ⟨_, a.1, rfl, hs, hask, (Codec.inNat_iff.mp q.1.1).2, fun H' p hp => .lst (L2.SqL.of hp) (L2.dw_ints _)⟩
