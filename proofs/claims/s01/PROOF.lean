import PyProof.Rows.All
import Wide.All
import OpenK.AllK
import Wide.FinOn
import PyProof.EqAt
import PyProof.EqKinds
import PyProof.TupleCall
import KE.BitLaws
import KE.IntBitsLaws
import Open.SpecLaws
import KE.OsHead
import KE.OsGo
import PySem.Challenge.RW_losinggames_s01_answers
-- CHANGE: your row's module here, as the last of these rows
set_option Elab.async false
set_option linter.all false
set_option maxRecDepth 100000
namespace L2
open PySem PySem.Spec PyProof.Rows
/-- a key: an int or a str -/
abbrev Key := Sum Int Str
def keyIs : Key → Value → Bool
  | .inl k, v => Value.isInt k v
  | .inr x, v => Value.isStrOf x v
def keyH (w : World) : Key → Int
  | .inl k => hashInt k
  | .inr x => hashStr w x
theorem keyIs_shape : ∀ {k : Key} {v : Value}, keyIs k v = true → (∃ i t, k = Sum.inl i ∧ v = Value.int i t) ∨ (∃ x t, k = Sum.inr x ∧ v = Value.str x t)
  | .inl i, v, h => by
    obtain ⟨t, e⟩ := Value.isInt_shape (k := i) (v := v) h
    exact .inl ⟨i, t, rfl, e⟩
  | .inr x, v, h => by
    obtain ⟨t, e⟩ := Value.isStrOf_shape (x := x) (v := v) h
    exact .inr ⟨x, t, rfl, e⟩
theorem key_ll (a b : Int) : decide ((Sum.inl a : Key) = Sum.inl b) = (a == b) := by
  by_cases e : a = b
  · subst e; simp
  · have h : ¬ (Sum.inl a : Key) = Sum.inl b := fun q => e (Sum.inl.inj q)
    rw [decide_eq_false h]
    exact (beq_eq_false_iff_ne.mpr e).symm
theorem key_rr (a b : Str) : decide ((Sum.inr a : Key) = Sum.inr b) = decide (a = b) := by
  by_cases e : a = b
  · subst e; simp
  · have h : ¬ (Sum.inr a : Key) = Sum.inr b := fun q => e (Sum.inr.inj q)
    rw [decide_eq_false h, decide_eq_false e]
theorem key_lr (a : Int) (b : Str) : decide ((Sum.inl a : Key) = Sum.inr b) = false := decide_eq_false (fun q => nomatch q)
theorem key_rl (a : Str) (b : Int) : decide ((Sum.inr a : Key) = Sum.inl b) = false := decide_eq_false (fun q => nomatch q)
def mixKind (prog : Program) (w : World) : PySem.KeyKind prog w Key where
  is := keyIs
  hash := keyH w
  inj := fun v a b ha hb => by
    rcases keyIs_shape ha with ⟨i, t, rfl, rfl⟩ | ⟨x, t, rfl, rfl⟩
    · rcases keyIs_shape hb with ⟨j, u, rfl, e⟩ | ⟨y, u, rfl, e⟩
      · injection e with e1 _; rw [e1]
      · exact nomatch e
    · rcases keyIs_shape hb with ⟨j, u, rfl, e⟩ | ⟨y, u, rfl, e⟩
      · exact nomatch e
      · injection e with e1 _; rw [e1]
  byValue := fun k v h => by
    rcases keyIs_shape h with ⟨i, t, rfl, rfl⟩ | ⟨x, t, rfl, rfl⟩ <;> rfl
  pyHash := fun hv h => by
    rcases keyIs_shape hv with ⟨i, t, rfl, rfl⟩ | ⟨x, t, rfl, rfl⟩
    · exact wpAny_pyHash_int h
    · exact wpAny_pyHash_str h
  eqBool := fun hu hv h => by
    rcases keyIs_shape hu with ⟨i, t, rfl, rfl⟩ | ⟨x, t, rfl, rfl⟩
    · rcases keyIs_shape hv with ⟨j, u, rfl, rfl⟩ | ⟨y, u, rfl, rfl⟩
      · rw [key_ll] at h; exact wpAny_eqBool_int h
      · rw [key_lr] at h; exact SeqAt.EqAt.int_str i t y u _ _ _ _ h
    · rcases keyIs_shape hv with ⟨j, u, rfl, rfl⟩ | ⟨y, u, rfl, rfl⟩
      · rw [key_rl] at h; exact SeqAt.EqAt.str_int x t j u _ _ _ _ h
      · rw [key_rr] at h; exact wpAny_eqBool_str h
  «strs» := fun k x t v h => by
    rcases keyIs_shape h with ⟨i, u, rfl, e⟩ | ⟨y, u, rfl, e⟩
    · exact nomatch e
    · injection e with e1 _
      subst e1
      cases v <;> rfl
end L2
namespace L2
open PySem PySem.Spec PyProof.Rows
/-- a value, without the heap -/
inductive V where
  | non | bl (b : Bool) | int (i : Int) | str (x : Str) | byt (b : Array UInt8) | flt (b : UInt64) | ref (a : Addr) | ty (n : String)
  deriving DecidableEq
def RelV : V → Value → Prop
  | .non, u => u = Value.none
  | .bl b, u => u = Value.bool b
  | .int i, u => ∃ t, u = Value.int i t
  | .str x, u => ∃ t, u = Value.str x t
  | .byt b, u => ∃ t, u = Value.bytes b t
  | .flt b, u => ∃ t, u = Value.float b t
  | .ref a, u => u = Value.ref a
  | .ty n, u => u = Value.type n
abbrev Vals : List V → List Value → Prop := Paired RelV
theorem Vals.length {xs : List V} {us : List Value} (r : Vals xs us) : xs.length = us.length := Paired.length r
theorem Vals.get : ∀ {xs : List V} {us : List Value} {i : Nat} {x : V}, Vals xs us → xs[i]? = some x → ∃ u, us[i]? = some u ∧ RelV x u
  | _, _, _, _, .nil, e => by simp at e
  | _, _, 0, _, .cons r _, e => by simp at e; subst e; exact ⟨_, rfl, r⟩
  | _, _, i + 1, x, .cons _ t, e => by
    obtain ⟨u, h1, h2⟩ := Vals.get (i := i) (x := x) t (by simpa using e)
    exact ⟨u, by simpa using h1, h2⟩
theorem Vals.set {x : V} {u : Value} (r : RelV x u) : ∀ {xs : List V} {us : List Value} (i : Nat), Vals xs us → Vals (xs.set i x) (us.set i u)
  | _, _, _, .nil => .nil
  | _, _, 0, .cons _ t => .cons r t
  | _, _, i + 1, .cons q t => .cons q (Vals.set r i t)
theorem Vals.append : ∀ {xs ys : List V} {us ws : List Value}, Vals xs us → Vals ys ws → Vals (xs ++ ys) (us ++ ws)
  | _, _, _, _, .nil, s => s
  | _, _, _, _, .cons r t, s => .cons r (Vals.append t s)
theorem Vals.take : ∀ {xs : List V} {us : List Value} (n : Nat), Vals xs us → Vals (xs.take n) (us.take n)
  | _, _, 0, _ => .nil
  | _, _, _ + 1, .nil => .nil
  | _, _, n + 1, .cons r t => .cons r (Vals.take n t)
theorem Vals.drop : ∀ {xs : List V} {us : List Value} (n : Nat), Vals xs us → Vals (xs.drop n) (us.drop n)
  | _, _, 0, r => r
  | _, _, _ + 1, .nil => .nil
  | _, _, n + 1, .cons _ t => Vals.drop n t
def RelO : Option V → Option Value → Prop
  | some v, some u => RelV v u
  | none, none => True
  | _, _ => False
def KV {κ : Type} : List (κ × V) → List (κ × Value) → Prop := Paired fun (p : κ × V) (q : κ × Value) => p.1 = q.1 ∧ RelV p.2 q.2
/-- a key of a dict (00_mix): an int or a text -/
def kV : Key → V
  | .inl i => .int i
  | .inr x => .str x
/-- what stands at a tracked address -/
inductive HO where
  /-- a list -/
  | lst (xs : List V)
  /-- a tuple (never changes) -/
  | tup (xs : List V)
  /-- a dict whose keys are ints and texts; one whose keys are tuples of ints and texts (the empty one is both) -/
  | dK (kvs : List (Key × V)) | dT (kvs : List (List Key × V))
  /-- a set of ints: its members, its size -/
  | set (S : Int → Bool) (n : Nat)
  /-- an instance of the class at C, its dict at dx, its attributes -/
  | ins (C dx : Addr) (fs : List (Str × V))
  /-- the dict of the instance at x -/
  | own (x : Addr)
  /-- the dict of an exception -/
  | xd (fs : List (Str × V))
  /-- a bound method, f of x -/
  | met (f x : Addr)
  /-- a range object lo, lo + 1, .. below hi -/
  | rng (lo hi : Int)
  /-- a thing that is known to the object (the script; a dict while a loop walks it): read, never written while it is so -/
  | frz (o : Obj) (u : HO)
  /-- a code object's table -/
  | tbl (ps : Array Value)
  /-- any other thing, by what is true of its one object (a def of one's own: SetO a S n := HO.ext fun h => ..) -/
  | ext (φ : Heap → Prop)
abbrev Hp := Addr → Option HO
def upd (H : Hp) (a : Addr) (o : HO) : Hp := fun b => if b = a then some o else H b
theorem upd_same {H : Hp} {a : Addr} {o : HO} : upd H a o a = some o := by unfold upd; rw [if_pos rfl]
theorem upd_ne {H : Hp} {a b : Addr} {o : HO} (h : b ≠ a) : upd H a o b = H b := by unfold upd; rw [if_neg h]
theorem upd_upd {H : Hp} {a : Addr} {o u : HO} : upd (upd H a o) a u = upd H a u := by
  funext b; unfold upd; split <;> rfl
/-- two objects of different content stand apart -/
theorem ne_of {H : Hp} {a b : Addr} {o u : HO} (h : H a = some o) (h' : H b = some u) (d : o ≠ u) : a ≠ b := by
  intro e; subst e; rw [h] at h'; exact d (Option.some.inj h')
theorem ne_of_none {H : Hp} {a b : Addr} {o : HO} (h : H a = some o) (h' : H b = none) : a ≠ b := by
  intro e; subst e; rw [h] at h'; cases h'
section
variable (P : Program) (w : World)
def ObjOk (H : Hp) (h : Heap) (a : Addr) : HO → Prop
  | .lst xs => xs.length ≤ sizeLine ∧ ∃ (its : List Value) (n : Nat), Vals xs its ∧ h.get? a = some { cls := .type "list", data := .seq its.toArray n }
  | .tup xs => xs.length ≤ sizeLine ∧ ∃ its : List Value, Vals xs its ∧ IsTup h a its.toArray
  | .dK kvs => kvs.length ≤ sizeLine ∧ (a == sysModules) = false ∧ ∃ vs, KV kvs vs ∧ h.DictOf (mixKind P w) a vs
  | .dT kvs => kvs.length ≤ sizeLine ∧ (a == sysModules) = false ∧ ∃ xs : List (List Key × Addr × Value),
      Paired (fun (p : List Key × V) (q : List Key × Addr × Value) => p.1 = q.1 ∧ H q.2.1 = some (.tup (p.1.map kV)) ∧ RelV p.2 q.2.2) kvs xs ∧
      ∃ o es ep, h.get? a = some o ∧ o.ExactDict ∧ o.data = .dict es ep ∧ es.toList = xs.map (entryOfKey (tupleKind (mixKind P w))) ∧ (xs.map (·.1)).Nodup
  | .set S n => h.SetOf (intKind P w) a S n
  | .ins C dx fs => H dx = some (.own a) ∧ fs.length ≤ 1000 ∧ dx ≠ a ∧ h.get? a = some (PySem.W.instObj C dx) ∧
      ∃ mA, h.Ns1 dx mA ∧ (∀ f, RelO (fs.lookup f) (mA f)) ∧ PySem.Within mA (fs.map (·.1))
  | .own _ => ∃ o, h.get? a = some o
  | .xd fs => ∃ mA, h.Ns1 a mA ∧ ∀ f, RelO (fs.lookup f) (mA f)
  | .rng lo hi => ∃ t u v, h.get? a = some { cls := .type "range", data := .fields #[.int lo t, .int hi u, .int 1 v] }
  | .frz o u => h.get? a = some o ∧ ObjOk H h a u
  | .tbl ps => h.get? a = some { cls := .none, data := .fields ps }
  | .met f x => h.get? a = some (PySem.W.methodObj (.ref f) (.ref x))
  | .ext φ => φ h ∧ (∃ o, h.get? a = some o) ∧ ∀ h1 h2 : Heap, φ h1 → (∀ o, h1.get? a = some o → h2.get? a = some o) → φ h2
/-- the abstract heap is held -/
def HOk (H : Hp) (h : Heap) : Prop := ∀ a o, H a = some o → ObjOk P w H h a o
end
section
variable {P : Program} {w : World} {H H' : Hp} {h h' : Heap} {a : Addr} {o : HO}
theorem ObjOk.lt (x : ObjOk P w H h a o) : a < h.objs.size := by
  cases o with
  | lst xs => obtain ⟨_, _, _, _, e⟩ := x; exact Heap.lt_size e
  | tup xs => obtain ⟨_, _, _, p⟩ := x; exact p.lt
  | dK kvs => obtain ⟨_, _, _, _, o, _, _, e, _⟩ := x; exact Heap.lt_size e
  | dT kvs => obtain ⟨_, _, _, _, o, _, _, e, _⟩ := x; exact Heap.lt_size e
  | set S n => obtain ⟨o, _, _, _, e, _⟩ := x; exact Heap.lt_size e
  | ins C dx fs => obtain ⟨_, _, _, e, _⟩ := x; exact Heap.lt_size e
  | own y => obtain ⟨_, e⟩ := x; exact Heap.lt_size e
  | xd fs => obtain ⟨_, ⟨_, _, _, e, _⟩, _⟩ := x; exact Heap.lt_size e
  | rng lo hi => obtain ⟨_, _, _, e⟩ := x; exact Heap.lt_size e
  | frz ob u => obtain ⟨e, _⟩ := x; exact Heap.lt_size e
  | tbl ps => exact Heap.lt_size (show h.get? a = some _ from x)
  | met f y => exact Heap.lt_size (show h.get? a = some _ from x)
  | ext φ => obtain ⟨_, ⟨_, e⟩, _⟩ := x; exact Heap.lt_size e
theorem Paired.mapP {α β : Type} {F G : α → β → Prop} : ∀ {l₁ : List α} {l₂ : List β}, Paired F l₁ l₂ → (∀ a b, F a b → G a b) → Paired G l₁ l₂
  | _, _, .nil, _ => .nil
  | _, _, .cons r t, f => .cons (f _ _ r) (Paired.mapP t f)
/-- what an object's description leans on: its own object, its own dict, the tuples -/
theorem ObjOk.stay (x : ObjOk P w H h a o) (k : ∀ b u, (b = a ∨ H b = some (.own a)) → h.get? b = some u → h'.get? b = some u)
    (ho : ∀ b, H b = some (.own a) → H' b = some (.own a)) (ht : ∀ b xs, H b = some (.tup xs) → H' b = some (.tup xs)) : ObjOk P w H' h' a o := by
  induction o with
  | lst xs => obtain ⟨z, its, n, r, e⟩ := x; exact ⟨z, its, n, r, k _ _ (.inl rfl) e⟩
  | tup xs => obtain ⟨z, its, r, ob, e, c⟩ := x; exact ⟨z, its, r, ob, k _ _ (.inl rfl) e, c⟩
  | dK kvs => obtain ⟨z, y, vs, r, ob, es, ep, e, c⟩ := x; exact ⟨z, y, vs, r, ob, es, ep, k _ _ (.inl rfl) e, c⟩
  | dT kvs =>
    obtain ⟨z, y, xs, r, ob, es, ep, e, c⟩ := x
    exact ⟨z, y, xs, Paired.mapP r fun p q z => ⟨z.1, ht _ _ z.2.1, z.2.2⟩, ob, es, ep, k _ _ (.inl rfl) e, c⟩
  | set S n => obtain ⟨ob, es, ep, t, e, c⟩ := x; exact ⟨ob, es, ep, t, k _ _ (.inl rfl) e, c⟩
  | ins C dx fs =>
    obtain ⟨d, z, ne, e, mA, ⟨od, es, ep, e2, c⟩, r⟩ := x
    exact ⟨ho _ d, z, ne, k _ _ (.inl rfl) e, mA, ⟨od, es, ep, k _ _ (.inr d) e2, c⟩, r⟩
  | own y => obtain ⟨ob, e⟩ := x; exact ⟨ob, k _ _ (.inl rfl) e⟩
  | xd fs => obtain ⟨mA, ⟨od, es, ep, e, c⟩, r⟩ := x; exact ⟨mA, ⟨od, es, ep, k _ _ (.inl rfl) e, c⟩, r⟩
  | rng lo hi => obtain ⟨t, u, v, e⟩ := x; exact ⟨t, u, v, k _ _ (.inl rfl) e⟩
  | frz ob u ih => obtain ⟨e, q⟩ := x; exact ⟨k _ _ (.inl rfl) e, ih q⟩
  | tbl ps =>
    have e : h.get? a = some { cls := .none, data := .fields ps } := x
    show h'.get? a = some { cls := .none, data := .fields ps }
    exact k a _ (.inl rfl) e
  | met f y =>
    have e : h.get? a = some (PySem.W.methodObj (.ref f) (.ref y)) := x
    show h'.get? a = some (PySem.W.methodObj (.ref f) (.ref y))
    exact k a _ (.inl rfl) e
  | ext φ => obtain ⟨p, ⟨o, e⟩, st⟩ := x; exact ⟨st _ _ p fun o q => k _ _ (.inl rfl) q, ⟨o, k _ _ (.inl rfl) e⟩, st⟩
theorem HOk.lt (x : HOk P w H h) (e : H a = some o) : a < h.objs.size := (x a o e).lt
theorem HOk.fresh (x : HOk P w H h) (e : h.objs.size ≤ a) : H a = none := by
  cases q : H a with
  | none => rfl
  | some u => exact absurd (Nat.lt_of_lt_of_le (x.lt q) e) (Nat.lt_irrefl _)
/-- every object of the heap is kept -/
theorem HOk.kept (x : HOk P w H h) (k : ∀ b u, h.get? b = some u → h'.get? b = some u) : HOk P w H h' := fun a o e =>
  (x a o e).stay (fun b u _ q => k b u q) (fun _ q => q) fun _ _ q => q
/-- a new object is laid and tracked -/
theorem HOk.laid (x : HOk P w H h) (k : ∀ b u, h.get? b = some u → h'.get? b = some u) (hp : h.objs.size ≤ a) (new : ObjOk P w (upd H a o) h' a o) : HOk P w (upd H a o) h' := fun b u e => by
  have hn := x.fresh hp
  by_cases hb : b = a
  · subst hb; rw [upd_same] at e; cases e; exact new
  · rw [upd_ne hb] at e
    exact (x b u e).stay (fun c v _ q => k c v q) (fun c q => by rw [upd_ne (ne_of_none q hn)]; exact q) fun c xs q => by rw [upd_ne (ne_of_none q hn)]; exact q
end
/-- what may be read as u: it is u, or a known u -/
def Rd (H : Hp) (a : Addr) (u : HO) : Prop := H a = some u ∨ ∃ o, H a = some (.frz o u)
theorem Rd.ok {P : Program} {w : World} {H : Hp} {h : Heap} {a : Addr} {u : HO} (r : Rd H a u) (x : HOk P w H h) : ObjOk P w H h a u := by
  rcases r with r | ⟨o, r⟩
  · exact x a u r
  · obtain ⟨_, q⟩ := x a _ r
    exact q
/-- what may be written -/
def Mut : Option HO → Prop
  | some (.lst _) => True
  | some (.dK _) => True
  | some (.dT _) => True
  | some (.set _ _) => True
  | some (.ins _ _ _) => True
  | some (.ext _) => True
  | _ => False
section
variable {P : Program} {w : World} {H : Hp} {h h' : Heap} {x e : Addr} {o' : HO}
/-- the object at e is changed: x itself, or the dict of the instance x -/
theorem HOk.write (ok : HOk P w H h) (mu : Mut (H x)) (he : e = x ∨ H e = some (.own x)) (k : ∀ b u, b ≠ e → h.get? b = some u → h'.get? b = some u) (heo : ∃ u, h'.get? e = some u)
    (new : ObjOk P w (upd H x o') h' x o') : HOk P w (upd H x o') h' := fun b u q => by
  have nown : ∀ c y, H c = some (.own y) → c ≠ x := fun c y r z => by subst z; rw [r] at mu; exact mu
  have ntup : ∀ c xs, H c = some (.tup xs) → c ≠ x := fun c xs r z => by subst z; rw [r] at mu; exact mu
  by_cases hb : b = x
  · subst hb; rw [upd_same] at q; cases q; exact new
  · rw [upd_ne hb] at q
    by_cases hbe : b = e
    · have q' : H b = some (.own x) := by
        rcases he with z | z
        · exact absurd (hbe.trans z) hb
        · rw [hbe]; exact z
      rw [q] at q'; cases q'
      obtain ⟨v, hv⟩ := heo
      exact ⟨v, by rw [hbe]; exact hv⟩
    · refine (ok b u q).stay (fun c v hc r => k c v ?_ r) (fun c r => by rw [upd_ne (nown c b r)]; exact r) fun c xs r => by rw [upd_ne (ntup c xs r)]; exact r
      rcases hc with rfl | hc
      · exact hbe
      · rintro rfl
        rcases he with z | z
        · exact nown c b hc z
        · rw [hc] at z; cases z; exact hb rfl
end
structure Un (fs ex : List Addr) (H H' : Hp) (h h' : Heap) : Prop where
  keep : ∀ b o, h.get? b = some o → H b = none → b ∉ fs → b ∉ ex → h'.get? b = some o
  slot : ∀ b o, h.get? b = some o → H b = none → b ∈ fs → b ∉ ex → ∃ sl, h'.get? b = some { o with slots := sl }
  free : ∀ b o, h.get? b = some o → H b = none → b ∉ ex → H' b = none
  there : ∀ b o, h.get? b = some o → b ∉ ex → ∃ o', h'.get? b = some o'
  tups : ∀ b xs, H b = some (.tup xs) → H' b = some (.tup xs)
  frzs : ∀ b o u, H b = some (.frz o u) → H' b = some (.frz o u)
  tbls : ∀ b ps, H b = some (.tbl ps) → ∃ more, H' b = some (.tbl (ps ++ more))
section
variable {fs fs' ex ex' : List Addr} {H H1 H2 : Hp} {h h1 h2 h' : Heap} {a x e : Addr} {o : HO}
theorem Un.any (u : Un fs ex H H1 h h1) {b : Addr} {ob : Obj} (q : h.get? b = some ob) (n : H b = none) (hx : b ∉ ex) : ∃ sl, h1.get? b = some { ob with slots := sl } := by
  by_cases hb : b ∈ fs
  · exact u.slot b ob q n hb hx
  · exact ⟨ob.slots, u.keep b ob q n hb hx⟩
theorem Un.kept (k : ∀ b u, h.get? b = some u → h'.get? b = some u) : Un fs ex H H h h' :=
  ⟨fun b ob q _ _ _ => k b ob q, fun b ob q _ _ _ => ⟨ob.slots, k b ob q⟩, fun _ _ _ n _ => n, fun b ob q _ => ⟨ob, k b ob q⟩, fun _ _ q => q, fun _ _ _ q => q, fun _ ps q => ⟨#[], by rw [q]; simp⟩⟩
theorem Un.refl : Un fs ex H H h h := Un.kept fun _ _ q => q
theorem Un.laid (k : ∀ b u, h.get? b = some u → h'.get? b = some u) (hp : h.objs.size ≤ a) (hn : H a = none) : Un fs ex H (upd H a o) h h' where
  keep := fun b u q _ _ _ => k b u q
  slot := fun b u q _ _ _ => ⟨u.slots, k b u q⟩
  free := fun b u q n _ => by rw [upd_ne (Nat.ne_of_lt (Nat.lt_of_lt_of_le (Heap.lt_size q) hp))]; exact n
  there := fun b u q _ => ⟨u, k b u q⟩
  tups := fun b xs q => by rw [upd_ne (ne_of_none q hn)]; exact q
  frzs := fun b u xs q => by rw [upd_ne (ne_of_none q hn)]; exact q
  tbls := fun b ps q => ⟨#[], by rw [upd_ne (ne_of_none q hn), q]; simp⟩
theorem Un.write (mu : Mut (H x)) (he : e = x ∨ H e = some (.own x)) (k : ∀ b u, b ≠ e → h.get? b = some u → h'.get? b = some u) (heo : ∃ u, h'.get? e = some u) : Un fs ex H (upd H x o) h h' := by
  have hx : ∀ b, H b = none → b ≠ x := fun b n z => by subst z; rw [n] at mu; exact mu
  have hb : ∀ b, H b = none → b ≠ e := fun b n z => by
    subst z
    rcases he with r | r
    · exact hx b n r
    · rw [n] at r; cases r
  have hm : ∀ b u, H b = some u → ¬ Mut (some u) → b ≠ x := fun b u q nm z => by subst z; rw [q] at mu; exact nm mu
  refine ⟨fun b u q n _ _ => k b u (hb b n) q, fun b u q n _ _ => ⟨u.slots, k b u (hb b n) q⟩, fun b u q n _ => by rw [upd_ne (hx b n)]; exact n, fun b u q _ => ?_,
    fun b xs q => by rw [upd_ne (hm b _ q fun z => z)]; exact q, fun b u xs q => by rw [upd_ne (hm b _ q fun z => z)]; exact q, fun b ps q => ⟨#[], by rw [upd_ne (hm b _ q fun z => z), q]; simp⟩⟩
  by_cases hbe : b = e
  · subst hbe; exact heo
  · exact ⟨u, k b u hbe q⟩
end
def trk (h : Heap) (H : Hp) : List Addr := (List.range h.objs.size).filter fun a => (H a).isSome
def hidT (h : Heap) (H : Hp) : Heap := PySem.W.hideAll h (trk h H)
theorem hidT_size (h : Heap) (H : Hp) : (hidT h H).objs.size = h.objs.size := PySem.W.hideAll_size _ _
theorem hidT_get {h : Heap} {H : Hp} {b : Addr} {o : Obj} (e : h.get? b = some o) (n : H b = none) : (hidT h H).get? b = some o :=
  PySem.W.hideAll_get _ e fun hm => by
    have q : (H b).isSome = true := (List.mem_filter.mp hm).2
    rw [n] at q; simp at q
theorem of_hidT {h : Heap} {H : Hp} {b : Addr} {o : Obj} (e : (hidT h H).get? b = some o) : h.get? b = some o ∧ H b = none := by
  have e' : h.get? b = some o := PySem.W.of_hideAll (trk h H) e
  refine ⟨e', ?_⟩
  cases q : H b with
  | none => rfl
  | some x =>
    have hm : b ∈ trk h H := List.mem_filter.mpr ⟨List.mem_range.mpr (Heap.lt_size e'), by simp [q]⟩
    have z : (hidT h H).get? b = none := PySem.W.hideAll_none (trk h H) hm
    rw [z] at e; cases e
def allNews (g h : Heap) (L : Addr) : List (Addr × Obj) := (List.range h.objs.size).filterMap fun a => if a = L ∨ (g.get? a).isSome = true then none else (h.get? a).map fun o => (a, o)
def rest (g h : Heap) (L d : Addr) : List (Addr × Obj) := (allNews g h L).filter fun p => decide (p.1 ≠ d)
end L2
namespace L2
open PySem PySem.Spec PyProof.Rows
/-- the module's facts, over the base: the heap at the law's entry without what is tracked there -/
structure Mod (K : PySem.W.Frag) (mg : Str → Option Value) (base : Heap) : Prop where
  kin : K.In base
  glob : base.Ns mainGlobals mg
  blt : ∃ mb, base.Ns builtinsNs mb ∧ ∀ x : Str, x ≠ "__name__" → mb x = bootBuiltins x
  nolimit : base.NoLimit
/-- the context: a def's body (or a comprehension's block) running. base: fixed through the whole law; s₀, H₀: the entry; outer: the frames whose slots others may change (a def's callers); stack: all frames that run;
   ex: iterators that were made ahead of the entry and are walked here (a comprehension's); fn: the names whose cells were made at the entry (a def: all; a comprehension's block: its own); calm: not within an except suite; pn: pins that every state bears; xe: what is wanted of an exception that leaves the code -/
structure Cx where
  prog : Program
  w : World
  K : PySem.W.Frag
  mg : Str → Option Value
  base : Heap
  A : Around
  N : List Str
  s_0 : Shared
  H_0 : Hp
  env : Env
  outer : List Env
  stack : List Env
  ex : List Addr
  fn : Str → Bool
  calm : Bool
  pn : List (Addr × Obj)
  xe : Value → Shared → Prop
/-- the callers' frames -/
def frs (l : List Env) : List Addr := l.filterMap (·.frame)
abbrev Cx.fs (X : Cx) : List Addr := frs X.outer
def Vis (sc : Scope) (x : Str) : Prop := sc.names.lookup x = some .local ∨ sc.names.lookup x = some .cell ∨ sc.names.lookup x = some .free
def Loc (sc : Scope) (x : Str) : Prop := sc.names.lookup x = some .local ∨ sc.names.lookup x = some .cell
def Look (env : Env) (h : Heap) (m : Str → Option Value) (x : Str) (u : Value) : Prop :=
  (env.kindOf x = some .local ∧ m x = some u) ∨ ((env.kindOf x = some .cell ∨ env.kindOf x = some .free) ∧ ∃ c, env.cells.lookup x = some c ∧ h.IsCell c (some u))
structure Cx.Ok (X : Cx) : Prop where
  mod : Mod X.K X.mg X.base
  kind : X.env.scope.kind = .function
  glob : X.env.globals = mainGlobals
  blt : X.env.builtins = builtinsNs
  above : X.s_0.heap.objs.size ≤ X.env.locals
  inj : ∀ x y c, X.env.cells.lookup x = some c → X.env.cells.lookup y = some c → x = y
  has : ∀ x, (X.env.kindOf x = some .cell ∨ X.env.kindOf x = some .free) → ∃ c, X.env.cells.lookup x = some c
  cab : ∀ x c, X.fn x = true → X.env.cells.lookup x = some c → X.s_0.heap.objs.size ≤ c
  hd : X.calm = true → X.A.handled = none
  frames : X.A.frames = some X.stack
  stk : X.stack = X.outer ∨ (X.stack = X.env :: X.outer ∧ X.env.frame = some X.env.locals)
  exf : ∀ b ∈ X.ex, b ≠ X.env.locals ∧ ∀ x c, X.env.cells.lookup x = some c → c ≠ b
  bs : ∀ b o, X.base.get? b = some o → X.s_0.heap.get? b = some o ∧ X.H_0 b = none
  bsz : X.base.objs.size ≤ X.s_0.heap.objs.size
  noex : ∀ b o, X.base.get? b = some o → b ∉ X.ex
  exfs : ∀ b ∈ X.ex, b ∉ X.fs
  funs : X.s_0.heap.FunFrames X.base X.outer
  frf : ∀ b ∈ X.fs, X.H_0 b = none
structure Inv (X : Cx) (pins : List (Addr × Obj)) (σ : List (Option V)) (H : Hp) (s : Shared) : Prop where
  ok : X.Ok
  os : s.os = X.s_0.os
  bare : AllBare s.gens
  base : Un X.fs X.ex X.H_0 H X.s_0.heap s.heap
  loc : ∃ m, s.heap.Ns X.env.locals m ∧ ∀ (i : Nat) (x : Str) (v : V), X.N[i]? = some x → σ[i]? = some (some v) → Vis X.env.scope x → ∃ u, RelV v u ∧ Look X.env s.heap m x u
  cell : ∀ x c, X.env.cells.lookup x = some c → ∃ v, s.heap.IsCell c v
  free : H X.env.locals = none
  freeC : ∀ x c, X.env.cells.lookup x = some c → H c = none
  pin : ∀ p ∈ X.pn ++ pins, s.heap.get? p.1 = some p.2 ∧ H p.1 = none ∧ p.1 ≠ X.env.locals ∧ p.1 ∉ X.fs ∧ ∀ v, p.2.data ≠ .cell v
  hok : HOk X.prog X.w H s.heap
  len : σ.length = X.N.length
section
variable {X : Cx} {pins : List (Addr × Obj)} {σ : List (Option V)} {H H' : Hp} {s : Shared} {h' : Heap}
theorem Cx.Ok.nofr (ok : X.Ok) {b : Addr} {o : Obj} (e : X.base.get? b = some o) : b ∉ X.fs := fun hb => by
  have := (ok.funs.mem hb).1
  rw [e] at this; cases this
theorem Inv.bs (I : Inv X pins σ H s) : ∀ b o, X.base.get? b = some o → s.heap.get? b = some o ∧ H b = none := fun b o e =>
  ⟨I.base.keep b o (I.ok.bs b o e).1 (I.ok.bs b o e).2 (I.ok.nofr e) (I.ok.noex b o e), I.base.free b o (I.ok.bs b o e).1 (I.ok.bs b o e).2 (I.ok.noex b o e)⟩
theorem Inv.bk (I : Inv X pins σ H s) : ∀ b o, X.base.get? b = some o → s.heap.get? b = some o := fun b o e => (I.bs b o e).1
theorem Inv.mod (I : Inv X pins σ H s) : Mod X.K X.mg X.base := I.ok.mod
theorem Inv.kIn (I : Inv X pins σ H s) : X.K.In s.heap := I.ok.mod.kin.keeps I.bk
/-- the frame over the base: for OpenK's rules (K.In X.base is I.mod.kin) -/
theorem Inv.fr (I : Inv X pins σ H s) : ∃ m, Fr X.base X.env.locals s.heap m :=
  let ⟨m, hn, _⟩ := I.loc
  ⟨m, hn, I.bk, Nat.le_trans I.ok.bsz I.ok.above⟩
theorem Inv.lt (I : Inv X pins σ H s) : X.env.locals < s.heap.objs.size := let ⟨_, hn, _⟩ := I.loc; hn.lt
theorem Inv.sz (I : Inv X pins σ H s) : X.s_0.heap.objs.size ≤ s.heap.objs.size := Nat.le_trans I.ok.above (Nat.le_of_lt I.lt)
theorem Inv.nofs (I : Inv X pins σ H s) {a : Addr} (h : s.heap.objs.size ≤ a) : a ∉ X.fs := fun hb => by
  obtain ⟨_, o, ho, _⟩ := I.ok.funs.mem hb
  exact absurd (Nat.lt_of_lt_of_le (Heap.lt_size ho) (Nat.le_trans I.sz h)) (Nat.lt_irrefl _)
theorem Inv.cne (I : Inv X pins σ H s) : ∀ x c, X.env.cells.lookup x = some c → c ≠ X.env.locals := fun x c e z => by
  obtain ⟨v, o, ho, hd⟩ := I.cell x c e
  obtain ⟨m, ⟨o', es, ep, ho', hd', _⟩, _⟩ := I.loc
  rw [z, ho'] at ho; cases ho; rw [hd'] at hd; cases hd
theorem Inv.funs (I : Inv X pins σ H s) : s.heap.FunFrames X.base X.outer := by
  have all : ∀ (l : List Env), (∀ b ∈ frs l, b ∈ X.fs) → X.s_0.heap.FunFrames X.base l → s.heap.FunFrames X.base l := by
    intro l
    induction l with
    | nil => intro _ _; trivial
    | cons env r ih =>
      intro hs hl
      obtain ⟨hk, ⟨L, o, hf, hn, ho, hd⟩, hr⟩ := hl
      have hL : L ∈ X.fs := hs L (by unfold frs; rw [List.filterMap_cons, hf]; exact List.mem_cons_self)
      obtain ⟨sl, e⟩ := I.base.slot L o ho (I.ok.frf L hL) hL fun z => I.ok.exfs L z hL
      exact ⟨hk, ⟨L, _, hf, hn, e, hd⟩, ih (fun b hb => hs b (by unfold frs; rw [List.filterMap_cons, hf]; exact List.mem_cons_of_mem _ hb)) hr⟩
  exact all X.outer (fun _ hb => hb) I.ok.funs
/-- the frames that run, for a call -/
theorem Inv.stack (I : Inv X pins σ H s) : s.heap.FunFrames X.base X.stack := by
  rcases I.ok.stk with e | ⟨e, hf⟩
  · rw [e]; exact I.funs
  · rw [e]
    obtain ⟨m, hn, _⟩ := I.loc
    refine .cons (by rw [I.ok.kind]; decide) hf hn ?_ I.funs
    exact Heap.get?_none_of_le (Nat.le_trans I.ok.bsz I.ok.above)
theorem Inv.stkSub (I : Inv X pins σ H s) : ∀ b ∈ frs X.stack, b ∈ X.env.locals :: X.fs := fun b hb => by
  rcases I.ok.stk with e | ⟨e, hf⟩
  · rw [e] at hb; exact List.mem_cons_of_mem _ hb
  · rw [e] at hb
    unfold frs at hb
    rw [List.filterMap_cons, hf] at hb
    exact hb
theorem Inv.stkFree (I : Inv X pins σ H s) : ∀ b ∈ frs X.stack, H b = none := fun b hb => by
  rcases List.mem_cons.mp (I.stkSub b hb) with e | hb
  · rw [e]; exact I.free
  · obtain ⟨_, o, ho, _⟩ := I.ok.funs.mem hb
    exact I.base.free b o ho (I.ok.frf b hb) fun z => I.ok.exfs b z hb
/-- THE STEP: the untracked objects but the frame and the records at ch are kept (the callers' frames up to slots), the frame's map is kept, the new abstract heap is held -/
theorem Inv.step {g' : Array GenState} {t' : Nat} {d' : Drawn} {ch : List Addr} (I : Inv X pins σ H s)
    (hch : ∀ b ∈ ch, (b ∈ X.ex ∨ X.s_0.heap.objs.size ≤ b) ∧ b ≠ X.env.locals ∧ (∀ x c, X.env.cells.lookup x = some c → c ≠ b) ∧ ∀ p ∈ X.pn ++ pins, p.1 ≠ b)
    (keep : ∀ b o, b ≠ X.env.locals → b ∉ X.fs → b ∉ ch → s.heap.get? b = some o → H b = none → h'.get? b = some o)
    (slot : ∀ b o, b ≠ X.env.locals → b ∈ X.fs → b ∉ ch → s.heap.get? b = some o → H b = none → ∃ sl, h'.get? b = some { o with slots := sl }) (free : ∀ b o, b ∉ ch → s.heap.get? b = some o → H b = none → H' b = none)
    (there : ∀ b o, b ∉ ch → s.heap.get? b = some o → ∃ o', h'.get? b = some o')
    (tups : ∀ b xs, H b = some (.tup xs) → H' b = some (.tup xs)) (frzs : ∀ b o u, H b = some (.frz o u) → H' b = some (.frz o u)) (tbls : ∀ b ps, H b = some (.tbl ps) → ∃ more, H' b = some (.tbl (ps ++ more)))
    (ns : ∀ m, s.heap.Ns X.env.locals m → h'.Ns X.env.locals m) (hok : HOk X.prog X.w H' h') (hg : AllBare g') :
    Inv X pins σ H' { s with heap := h', gens := g', drawn := d', toks := t' } := by
  have neL : ∀ b o, X.s_0.heap.get? b = some o → b ≠ X.env.locals := fun b o e => Nat.ne_of_lt (Nat.lt_of_lt_of_le (Heap.lt_size e) I.ok.above)
  have neC : ∀ b o, X.s_0.heap.get? b = some o → b ∉ X.ex → b ∉ ch := fun b o e hx hb => by
    rcases (hch b hb).1 with z | z
    · exact hx z
    · exact absurd (Nat.lt_of_lt_of_le (Heap.lt_size e) z) (Nat.lt_irrefl _)
  have cellK : ∀ x c, X.env.cells.lookup x = some c → ∀ v, s.heap.IsCell c v → h'.IsCell c v := fun x c e v ⟨o, ho, hd⟩ => by
    have nch : c ∉ ch := fun z => (hch c z).2.2.1 x c e rfl
    by_cases hc : c ∈ X.fs
    · obtain ⟨sl, q⟩ := slot c o (I.cne x c e) hc nch ho (I.freeC x c e)
      exact ⟨_, q, hd⟩
    · exact ⟨o, keep c o (I.cne x c e) hc nch ho (I.freeC x c e), hd⟩
  refine ⟨I.ok, I.os, hg, ⟨fun b o e n hb hx => ?_, fun b o e n hb hx => ?_, fun b o e n hx => ?_, fun b o e hx => ?_, fun b xs e => tups b xs (I.base.tups b xs e), fun b o xs e => frzs b o xs (I.base.frzs b o xs e), fun b ps e => ?_⟩, ?_, fun x c e => ?_, ?_, fun x c e => ?_, fun p hp => ?_, hok, I.len⟩
  · exact keep b o (neL b o e) hb (neC b o e hx) (I.base.keep b o e n hb hx) (I.base.free b o e n hx)
  · obtain ⟨sl, e1⟩ := I.base.slot b o e n hb hx
    obtain ⟨sl', e2⟩ := slot b _ (neL b o e) hb (neC b o e hx) e1 (I.base.free b o e n hx)
    exact ⟨sl', e2⟩
  · obtain ⟨o', e1⟩ := I.base.there b o e hx
    exact free b o' (neC b o e hx) e1 (I.base.free b o e n hx)
  · obtain ⟨o', e1⟩ := I.base.there b o e hx
    exact there b o' (neC b o e hx) e1
  · obtain ⟨m1, e1⟩ := I.base.tbls b ps e
    obtain ⟨m2, e2⟩ := tbls b _ e1
    exact ⟨m1 ++ m2, by rw [e2, Array.append_assoc]⟩
  · obtain ⟨m, hn, hl⟩ := I.loc
    refine ⟨m, ns m hn, fun i x v e1 e2 e3 => ?_⟩
    obtain ⟨u, r, l⟩ := hl i x v e1 e2 e3
    refine ⟨u, r, ?_⟩
    rcases l with l | ⟨k, c, e, z⟩
    · exact .inl l
    · exact .inr ⟨k, c, e, cellK x c e _ z⟩
  · obtain ⟨v, z⟩ := I.cell x c e
    exact ⟨v, cellK x c e v z⟩
  · obtain ⟨m, ⟨o, _, _, ho, _⟩, _⟩ := I.loc
    exact free _ o (fun z => (hch _ z).2.1 rfl) ho I.free
  · obtain ⟨v, o, ho, hd⟩ := I.cell x c e
    exact free c o (fun z => (hch c z).2.2.1 x c e rfl) ho (I.freeC x c e)
  · obtain ⟨e, n, ne, nf, d⟩ := I.pin p hp
    have nch : p.1 ∉ ch := fun z => (hch p.1 z).2.2.2 p hp rfl
    exact ⟨keep p.1 p.2 ne nf nch e n, free p.1 p.2 nch e n, ne, nf, d⟩
/-- .. where the frame's own object is kept too -/
theorem Inv.un {t' : Nat} (I : Inv X pins σ H s) (u : Un X.fs [] H H' s.heap h') (hok : HOk X.prog X.w H' h') : Inv X pins σ H' { s with heap := h', toks := t' } := by
  obtain ⟨m, ⟨o, es, ep, ho, r⟩, _⟩ := id I.loc
  obtain ⟨sl, hL⟩ := u.any ho I.free (by simp)
  exact I.step (g' := s.gens) (d' := s.drawn) (ch := []) (fun _ z => nomatch z) (fun b o _ hb _ e n => u.keep b o e n hb (by simp)) (fun b o _ hb _ e n => u.slot b o e n hb (by simp)) (fun b o _ e n => u.free b o e n (by simp)) (fun b o _ e => u.there b o e (by simp)) u.tups u.frzs u.tbls (fun m' hm => by
    obtain ⟨o', es', ep', ho', r'⟩ := hm
    rw [ho] at ho'; cases ho'
    exact ⟨_, es', ep', hL, r'⟩) hok I.bare
/-- behind a call (or a comprehension's block): the slots of this frame may have changed too, the records at ch may have turned -/
theorem Inv.call {g' : Array GenState} {t' : Nat} {d' : Drawn} {ch : List Addr} (I : Inv X pins σ H s) (u : Un (frs X.stack) ch H H' s.heap h') (hok : HOk X.prog X.w H' h') (hg : AllBare g')
    (hch : ∀ b ∈ ch, (b ∈ X.ex ∨ X.s_0.heap.objs.size ≤ b) ∧ b ≠ X.env.locals ∧ (∀ x c, X.env.cells.lookup x = some c → c ≠ b) ∧ ∀ p ∈ X.pn ++ pins, p.1 ≠ b) :
    Inv X pins σ H' { s with heap := h', gens := g', drawn := d', toks := t' } := by
  obtain ⟨m, ⟨o, es, ep, ho, r⟩, _⟩ := id I.loc
  obtain ⟨sl, hL⟩ := u.any ho I.free fun z => (hch _ z).2.1 rfl
  exact I.step (ch := ch) hch (fun b o hL hb hc e n => u.keep b o e n (fun z => (List.mem_cons.mp (I.stkSub b z)).elim hL hb) hc) (fun b o _ _ hc e n => u.any e n hc) (fun b o hc e n => u.free b o e n hc) (fun b o hc e => u.there b o e hc) u.tups u.frzs u.tbls (fun m' hm => by
    obtain ⟨o', es', ep', ho', r'⟩ := hm
    rw [ho] at ho'; cases ho'
    exact ⟨_, es', ep', hL, r'⟩) hok hg
/-- an untracked record of ours (an iterator) has turned -/
theorem Inv.turned {t' : Nat} {it : Addr} (I : Inv X pins σ H s) (k : ∀ b o, b ≠ it → s.heap.get? b = some o → h'.get? b = some o) (hn : H it = none) (hL : it ≠ X.env.locals)
    (h1 : it ∈ X.ex ∨ X.s_0.heap.objs.size ≤ it) (h2 : ∀ x c, X.env.cells.lookup x = some c → c ≠ it) (h3 : ∀ p ∈ X.pn ++ pins, p.1 ≠ it) : Inv X pins σ H { s with heap := h', toks := t' } := by
  have nit : ∀ b u, H b = some u → b ≠ it := fun b u e z => by rw [z, hn] at e; cases e
  refine I.step (g' := s.gens) (d' := s.drawn) (ch := [it]) (fun b hb => ?_) (fun b o _ _ hc e _ => k b o (fun z => hc (by simp [z])) e) (fun b o _ _ hc e _ => ⟨o.slots, k b o (fun z => hc (by simp [z])) e⟩) (fun _ _ _ _ n => n)
    (fun b o hc e => ⟨o, k b o (fun z => hc (by simp [z])) e⟩) (fun _ _ e => e) (fun _ _ _ e => e) (fun b ps e => ⟨#[], by rw [e]; simp⟩) (fun m hm => ?_) (fun b u e => ?_) I.bare
  · have e : b = it := by simpa using hb
    subst e
    exact ⟨h1, hL, h2, h3⟩
  · obtain ⟨o, es, ep, ho, r⟩ := hm
    exact ⟨o, es, ep, k _ o (Ne.symm hL) ho, r⟩
  · refine (I.hok b u e).stay (fun c v hc q => k c v ?_ q) (fun _ q => q) fun _ _ q => q
    rcases hc with z | z
    · rw [z]; exact nit b u e
    · exact nit c _ z
theorem Inv.tok (I : Inv X pins σ H s) (t : Nat) : Inv X pins σ H { s with toks := t } := I.un (h' := s.heap) (t' := t) Un.refl I.hok
/-- all objects kept -/
theorem Inv.kept {t' : Nat} (I : Inv X pins σ H s) (k : ∀ b u, s.heap.get? b = some u → h'.get? b = some u) : Inv X pins σ H { s with heap := h', toks := t' } := I.un (Un.kept k) (I.hok.kept k)
/-- a new object laid and tracked -/
theorem Inv.laid {a : Addr} {o : HO} {t' : Nat} (I : Inv X pins σ H s) (k : ∀ b u, s.heap.get? b = some u → h'.get? b = some u) (hp : s.heap.objs.size ≤ a) (new : ObjOk X.prog X.w (upd H a o) h' a o) :
    Inv X pins σ (upd H a o) { s with heap := h', toks := t' } := I.un (Un.laid k hp (I.hok.fresh hp)) (I.hok.laid k hp new)
/-- an object written -/
theorem Inv.write {x e : Addr} {o : HO} {t' : Nat} (I : Inv X pins σ H s) (mu : Mut (H x)) (he : e = x ∨ H e = some (.own x)) (k : ∀ b u, b ≠ e → s.heap.get? b = some u → h'.get? b = some u) (heo : ∃ u, h'.get? e = some u)
    (new : ObjOk X.prog X.w (upd H x o) h' x o) : Inv X pins σ (upd H x o) { s with heap := h', toks := t' } := I.un (Un.write mu he k heo) (I.hok.write mu he k heo new)
/-- forgetting slots, pins -/
theorem Inv.weak {σ' : List (Option V)} (I : Inv X pins σ H s) (hl : σ'.length = σ.length) (w : ∀ (i : Nat) v, σ'[i]? = some (some v) → σ[i]? = some (some v)) : Inv X pins σ' H s :=
  ⟨I.ok, I.os, I.bare, I.base, let ⟨m, hn, hl'⟩ := I.loc; ⟨m, hn, fun i x v e1 e2 e3 => hl' i x v e1 (w i v e2) e3⟩, I.cell, I.free, I.freeC, I.pin, I.hok, hl.trans I.len⟩
theorem Inv.pins_of {pins' : List (Addr × Obj)} (I : Inv X pins σ H s) (h : ∀ p ∈ pins', s.heap.get? p.1 = some p.2 ∧ H p.1 = none ∧ p.1 ≠ X.env.locals ∧ p.1 ∉ X.fs ∧ ∀ v, p.2.data ≠ .cell v) : Inv X pins' σ H s :=
  ⟨I.ok, I.os, I.bare, I.base, I.loc, I.cell, I.free, I.freeC, fun p hp => (List.mem_append.mp hp).elim (fun z => I.pin p (List.mem_append_left _ z)) (h p), I.hok, I.len⟩
theorem nodup_ix {N : List Str} (hN : N.Nodup) {i j : Nat} {x : Str} (a : N[i]? = some x) (b : N[j]? = some x) : i = j := by
  obtain ⟨h1, e1⟩ := List.getElem?_eq_some_iff.mp a
  obtain ⟨h2, e2⟩ := List.getElem?_eq_some_iff.mp b
  exact (List.getElem_inj hN).mp (e1.trans e2.symm)
/-- a name is stored; what changed -/
theorem store_ok2 {M : Model} {A : Around} {E : Value → Shared → Prop} {i : Nat} {x : Str} {v : V} {u : Value} {Q : Unit → Shared → Prop} (I : Inv X pins σ H s) (hN : X.N.Nodup) (hi : X.N[i]? = some x) (hx : Loc X.env.scope x) (r : RelV v u)
    (h : ∀ s', Inv X pins (σ.set i (some v)) H s' → (∃ a, Heap.SameBut a s.heap s'.heap ∧ (a = X.env.locals ∨ X.env.cells.lookup x = some a)) → Q () s') (hf : X.fn x = true ∨ X.env.scope.names.lookup x = some .local := by first | exact .inl rfl | exact .inr rfl | assumption) : wpAny M A (storeName X.env x u) Q E s := by
  obtain ⟨m, hn, hl⟩ := id I.loc
  have hcls : (X.env.scope.kind == .class || (X.env.scope.kind == .module && X.env.locals != X.env.globals)) = false := by rw [I.ok.kind]; rfl
  have hiσ : i < σ.length := by rw [I.len]; exact (List.getElem?_eq_some_iff.mp hi).1
  have cne := I.cne
  have tracked : ∀ {a : Addr} {h' : Heap}, (∃ o, s.heap.get? a = some o ∧ H a = none) → Heap.SameBut a s.heap h' → HOk X.prog X.w H h' := fun {a h'} ha hs b ob e => by
    obtain ⟨_, _, hfree⟩ := ha
    refine (I.hok b ob e).stay (fun c w' hc q => (hs.2 c ?_).trans q) (fun _ q => q) fun _ _ q => q
    rintro rfl
    rcases hc with rfl | hc
    · rw [hfree] at e; cases e
    · rw [hfree] at hc; cases hc
  rcases hx with hk | hk
  · refine wpAny_storeName_local hk hn (fun h' hn' hs => ?_) hcls
    obtain ⟨oL, _, _, hoL, _⟩ := id hn
    refine h _ ⟨I.ok, I.os, I.bare, ⟨fun b o e n hb hx => ?_, fun b o e n hb hx => ?_, I.base.free, fun b o e hx => ?_, I.base.tups, I.base.frzs, I.base.tbls⟩, ⟨_, hn', fun j y v' e1 e2 e3 => ?_⟩, fun y c e => ?_, I.free, I.freeC, fun p hp => ?_, tracked ⟨oL, hoL, I.free⟩ hs, by simpa using I.len⟩ ⟨_, hs, .inl rfl⟩
    · exact (hs.2 b (Nat.ne_of_lt (Nat.lt_of_lt_of_le (Heap.lt_size e) I.ok.above))).trans (I.base.keep b o e n hb hx)
    · obtain ⟨sl, e1⟩ := I.base.slot b o e n hb hx
      exact ⟨sl, (hs.2 b (Nat.ne_of_lt (Nat.lt_of_lt_of_le (Heap.lt_size e) I.ok.above))).trans e1⟩
    · obtain ⟨o', e1⟩ := I.base.there b o e hx
      exact ⟨o', (hs.2 b (Nat.ne_of_lt (Nat.lt_of_lt_of_le (Heap.lt_size e) I.ok.above))).trans e1⟩
    · by_cases hj : j = i
      · subst hj
        rw [hi] at e1; cases e1
        rw [List.getElem?_set_self hiσ] at e2
        cases e2
        exact ⟨u, r, .inl ⟨hk, by simp⟩⟩
      · rw [List.getElem?_set_ne (Ne.symm hj)] at e2
        obtain ⟨u', r', q⟩ := hl j y v' e1 e2 e3
        refine ⟨u', r', ?_⟩
        rcases q with ⟨k, e⟩ | ⟨k, c, e, z⟩
        · refine .inl ⟨k, ?_⟩
          have : y ≠ x := fun e => hj (nodup_ix hN e1 (e ▸ hi))
          simp [this, e]
        · exact .inr ⟨k, c, e, z.sameBut hs (cne y c e)⟩
    · obtain ⟨w', z⟩ := I.cell y c e
      exact ⟨w', z.sameBut hs (cne y c e)⟩
    · obtain ⟨e, n, ne, nf, d⟩ := I.pin p hp
      exact ⟨(hs.2 p.1 ne).trans e, n, ne, nf, d⟩
  · have hfn : X.fn x = true := by
      rcases hf with z | z
      · exact z
      · rw [z] at hk; cases hk
    obtain ⟨c, hc⟩ := I.ok.has x (.inl hk)
    obtain ⟨w', z⟩ := I.cell x c hc
    refine wpAny_storeName_cell I.ok.kind hk hc z (fun h' hc' hs => ?_)
    obtain ⟨oc, hoc, hocd⟩ := id z
    refine h { s with heap := h' } ⟨I.ok, I.os, I.bare, ⟨fun b o e n hb hx => ?_, fun b o e n hb hx => ?_, I.base.free, fun b o e hx => ?_, I.base.tups, I.base.frzs, I.base.tbls⟩, ⟨m, hn.sameBut hs (Ne.symm (cne x c hc)), fun j y v' e1 e2 e3 => ?_⟩, fun y c' e => ?_, I.free, I.freeC, fun p hp => ?_, tracked ⟨oc, hoc, I.freeC x c hc⟩ hs, by simpa using I.len⟩ ⟨c, hs, .inr hc⟩
    · exact (hs.2 b (Nat.ne_of_lt (Nat.lt_of_lt_of_le (Heap.lt_size e) (I.ok.cab x c hfn hc)))).trans (I.base.keep b o e n hb hx)
    · obtain ⟨sl, e1⟩ := I.base.slot b o e n hb hx
      exact ⟨sl, (hs.2 b (Nat.ne_of_lt (Nat.lt_of_lt_of_le (Heap.lt_size e) (I.ok.cab x c hfn hc)))).trans e1⟩
    · obtain ⟨o', e1⟩ := I.base.there b o e hx
      exact ⟨o', (hs.2 b (Nat.ne_of_lt (Nat.lt_of_lt_of_le (Heap.lt_size e) (I.ok.cab x c hfn hc)))).trans e1⟩
    · by_cases hj : j = i
      · subst hj
        rw [hi] at e1; cases e1
        rw [List.getElem?_set_self hiσ] at e2
        cases e2
        exact ⟨u, r, .inr ⟨.inl hk, c, hc, hc'⟩⟩
      · rw [List.getElem?_set_ne (Ne.symm hj)] at e2
        obtain ⟨u', r', q⟩ := hl j y v' e1 e2 e3
        refine ⟨u', r', ?_⟩
        rcases q with q | ⟨k, c', e, z'⟩
        · exact .inl q
        · refine .inr ⟨k, c', e, z'.sameBut hs ?_⟩
          rintro rfl
          exact hj (nodup_ix hN e1 (I.ok.inj _ _ _ e hc ▸ hi))
    · by_cases hcc : c' = c
      · subst hcc; exact ⟨_, hc'⟩
      · obtain ⟨w2, z2⟩ := I.cell y c' e
        exact ⟨w2, z2.sameBut hs hcc⟩
    · obtain ⟨e, n, ne, nf, d⟩ := I.pin p hp
      refine ⟨(hs.2 p.1 ?_).trans e, n, ne, nf, d⟩
      intro q
      rw [q, hoc] at e
      have q' : oc = p.2 := Option.some.inj e
      exact d w' (by rw [← q']; exact hocd)
theorem store_ok {M : Model} {A : Around} {E : Value → Shared → Prop} {i : Nat} {x : Str} {v : V} {u : Value} {Q : Unit → Shared → Prop} (I : Inv X pins σ H s) (hN : X.N.Nodup) (hi : X.N[i]? = some x) (hx : Loc X.env.scope x) (r : RelV v u)
    (h : ∀ s', Inv X pins (σ.set i (some v)) H s' → Q () s') (hf : X.fn x = true ∨ X.env.scope.names.lookup x = some .local := by first | exact .inl rfl | exact .inr rfl | assumption) : wpAny M A (storeName X.env x u) Q E s :=
  store_ok2 I hN hi hx r (fun s' I' _ => h s' I') hf
/-- behind a call or a block, the state as it is -/
theorem Inv.call' {s' : Shared} {ch : List Addr} (I : Inv X pins σ H s) (ho : s'.os = s.os) (u : Un (frs X.stack) ch H H' s.heap s'.heap) (hok : HOk X.prog X.w H' s'.heap) (hg : AllBare s'.gens)
    (hch : ∀ b ∈ ch, (b ∈ X.ex ∨ X.s_0.heap.objs.size ≤ b) ∧ b ≠ X.env.locals ∧ (∀ x c, X.env.cells.lookup x = some c → c ≠ b) ∧ ∀ p ∈ X.pn ++ pins, p.1 ≠ b) : Inv X pins σ H' s' := by
  obtain ⟨h', g', d', t', o'⟩ := s'
  have e : o' = s.os := ho
  subst e
  exact I.call (g' := g') (t' := t') (d' := d') u hok hg hch
end
/-- an exception: its class, its own dict's address (where it has one), the abstract heap behind it -/
abbrev XK := Value → Option Addr → Hp → Prop
abbrev St := List (Option V)
abbrev VK := V → Hp → Prop
/-- an expression's reading; a test's; an argument list's -/
abbrev TE := St → Hp → VK → Prop
abbrev TT := St → Hp → (Bool → Hp → Prop) → Prop
abbrev TA := St → Hp → (List V → Hp → Prop) → Prop
/-- what is wanted behind a statement -/
structure Ends where
  nx : St → Hp → Prop
  rt : VK
  bk : St → Hp → Prop := fun _ _ => False
  ct : St → Hp → Prop := fun _ _ => False
abbrev TS := Ends → St → Hp → Prop
def EP (X : Cx) (pins : List (Addr × Obj)) (σ : St) (Q : VK) (u : Value) (s' : Shared) : Prop := ∃ v H', Inv X pins σ H' s' ∧ RelV v u ∧ Q v H'
def TP (X : Cx) (pins : List (Addr × Obj)) (σ : St) (Q : Bool → Hp → Prop) (b : Bool) (s' : Shared) : Prop := ∃ H', Inv X pins σ H' s' ∧ Q b H'
def AP (X : Cx) (pins : List (Addr × Obj)) (σ : St) (Q : List V → Hp → Prop) (us : List Value) (s' : Shared) : Prop := ∃ vs H', Inv X pins σ H' s' ∧ Vals vs us ∧ Q vs H'
def SP (X : Cx) (pins : List (Addr × Obj)) (D : Ends) (f : Flow) (s' : Shared) : Prop :=
  match f with
  | .next => ∃ σ' H', Inv X pins σ' H' s' ∧ D.nx σ' H'
  | .brk => ∃ σ' H', Inv X pins σ' H' s' ∧ D.bk σ' H'
  | .cont => ∃ σ' H', Inv X pins σ' H' s' ∧ D.ct σ' H'
  | .ret u => ∃ v σ' H', Inv X pins σ' H' s' ∧ RelV v u ∧ D.rt v H'
def PE (X : Cx) (e : Expr) (t : TE) : Prop :=
  ∀ (pins : List (Addr × Obj)) (s : Shared) (σ : St) (H : Hp) (Q : VK), Inv X pins σ H s → t σ H Q → wpAny (model X.prog X.w) X.A (eval e X.env) (EP X pins σ Q) X.xe s
def PT (X : Cx) (e : Expr) (t : TT) : Prop :=
  ∀ (pins : List (Addr × Obj)) (s : Shared) (σ : St) (H : Hp) (Q : Bool → Hp → Prop), Inv X pins σ H s → t σ H Q → wpAny (model X.prog X.w) X.A (isTrue e X.env (eval e X.env)) (TP X pins σ Q) X.xe s
/-- a test whatever its 'whole' is (and, or) -/
def PW (X : Cx) (e : Expr) (t : TT) : Prop :=
  ∀ (whole : Sem Value) (pins : List (Addr × Obj)) (s : Shared) (σ : St) (H : Hp) (Q : Bool → Hp → Prop), Inv X pins σ H s → t σ H Q → wpAny (model X.prog X.w) X.A (isTrue e X.env whole) (TP X pins σ Q) X.xe s
theorem PW.pt {X : Cx} {e : Expr} {t : TT} (h : PW X e t) : PT X e t := h _
/-- an argument list (no star), from the left -/
def PA (X : Cx) (es : List Expr) (t : TA) : Prop :=
  ∀ (pos : Pos) (pins : List (Addr × Obj)) (s : Shared) (σ : St) (H : Hp) (Q : List V → Hp → Prop), Inv X pins σ H s → t σ H Q → wpAny (model X.prog X.w) X.A (spliced (backTo pos (starEach es X.env))) (AP X pins σ Q) X.xe s
def PS (X : Cx) (st : Stmt) (t : TS) : Prop :=
  ∀ (pins : List (Addr × Obj)) (s : Shared) (σ : St) (H : Hp) (D : Ends), Inv X pins σ H s → t D σ H → wpAny (model X.prog X.w) X.A (exec st X.env) (SP X pins D) X.xe s
def PSs (X : Cx) (st : List Stmt) (t : TS) : Prop :=
  ∀ (pins : List (Addr × Obj)) (s : Shared) (σ : St) (H : Hp) (D : Ends), Inv X pins σ H s → t D σ H → wpAny (model X.prog X.w) X.A (execs st X.env) (SP X pins D) X.xe s
/-- weaken the end -/
theorem thn {α : Type} {t : Sem α} {Q Q' : α → Shared → Prop} {M : Model} {A : Around} {E : Value → Shared → Prop} {s : Shared} (h : wpAny M A t Q E s) (hQ : ∀ a s, Q a s → Q' a s) : wpAny M A t Q' E s := wpAny_mono h hQ fun _ _ x => x
end L2
namespace L2
open PySem PySem.Spec PyProof.Rows
section
variable {X : Cx}
/-- two expressions in a row -/
theorem bin {a b : Expr} {ta tb : TE} (ha : PE X a ta) (hb : PE X b tb) {pins : List (Addr × Obj)} {s : Shared} {σ : St} {H : Hp} {R : V → V → Hp → Prop} (I : Inv X pins σ H s) (h : ta σ H fun x H1 => tb σ H1 fun y H2 => R x y H2)
    {α : Type} {Q : α → Shared → Prop} {f : Value → Value → Sem α}
    (hf : ∀ v u s2 x y H2, Inv X pins σ H2 s2 → RelV x v → RelV y u → R x y H2 → wpAny (model X.prog X.w) X.A (f v u) Q X.xe s2) :
    wpAny (model X.prog X.w) X.A (eval a X.env) (fun v s₁ => wpAny (model X.prog X.w) X.A (eval b X.env) (fun u s₂ => wpAny (model X.prog X.w) X.A (f v u) Q X.xe s₂) X.xe s₁) X.xe s := by
  refine thn (ha pins s σ H _ I h) fun v s1 ⟨x, H1, I1, r1, q1⟩ => ?_
  refine thn (hb pins s1 σ H1 _ I1 q1) fun u s2 ⟨y, H2, I2, r2, q2⟩ => ?_
  exact hf v u s2 x y H2 I2 r1 r2 q2
def tVar (i : Nat) : TE := fun σ H Q => ∃ v, σ[i]? = some (some v) ∧ Q v H
def tC (v : V) : TE := fun _ H Q => Q v H
theorem pe_var {i : Nat} {x : Str} {pos : Pos} (hN : X.N[i]? = some x) (hv : Vis X.env.scope x) (hd : (x == ("__debug__" : Str)) = false := by decide) (hcd : (x == ("__classdict__" : Str)) = false := by decide) : PE X (.Name x pos) (tVar i) := by
  intro pins s σ H Q I h
  obtain ⟨v, e, h⟩ := h
  obtain ⟨m, hn, hl⟩ := I.loc
  obtain ⟨u, r, l⟩ := hl i x v hN e hv
  have fin : EP X pins σ Q u s := ⟨v, H, I, r, h⟩
  rcases l with ⟨hk, hm⟩ | ⟨hk, c, hc, hcell⟩
  · exact wpAny_Name (wpAny_loadName_local I.ok.kind hk hn hm fin) hd
  · rcases hk with hk | hk
    · exact wpAny_Name (wpAny_loadName_cell I.ok.kind hk hc hcell fin) hd
    · exact wpAny_Name (wpAny_loadName_free I.ok.kind hk hc hcell fin hcd) hd
theorem pe_int {i j pos} : PE X (.Constant (.int i) j pos) (tC (.int i)) := fun _ _ _ H _ I h => wpAny_Constant_int ⟨.int i, H, I.tok _, ⟨_, rfl⟩, h⟩
theorem pe_bl {b j pos} : PE X (.Constant (.bool b) j pos) (tC (.bl b)) := fun _ _ _ H _ I h => Constant_bool ⟨.bl b, H, I, rfl, h⟩
/-- a global name of the def -/
def Gl (X : Cx) (x : Str) : Prop := X.env.kindOf x = some .globalImplicit
theorem ld_glob {E : Value → Shared → Prop} {pins : List (Addr × Obj)} {s : Shared} {σ : St} {H : Hp} {x : Str} {u : Value} {pos : Pos} {Q : Value → Shared → Prop} (I : Inv X pins σ H s) (hg : Gl X x) (hm : X.mg x = some u) (h : Q u s)
    (hd : (x == ("__debug__" : Str)) = false := by decide) : wpAny (model X.prog X.w) X.A (eval (.Name x pos) X.env) Q E s :=
  Calls.Name_function_global I.ok.kind hg (Calls.loadGlobal_global (by rw [I.ok.glob]; exact I.mod.glob.keeps I.bk) hm h) hd
theorem ld_blt {E : Value → Shared → Prop} {pins : List (Addr × Obj)} {s : Shared} {σ : St} {H : Hp} {x : Str} {u : Value} {pos : Pos} {Q : Value → Shared → Prop} (I : Inv X pins σ H s) (hg : Gl X x) (hm : X.mg x = none) (hv : bootBuiltins x = some u) (h : Q u s)
    (hn : x ≠ "__name__" := by decide) (hd : (x == ("__debug__" : Str)) = false := by decide) : wpAny (model X.prog X.w) X.A (eval (.Name x pos) X.env) Q E s := by
  obtain ⟨mb, h1, h2⟩ := I.mod.blt
  exact Calls.Name_function_global I.ok.kind hg (Calls.loadGlobal_builtin (by rw [I.ok.glob]; exact I.mod.glob.keeps I.bk) hm (by rw [I.ok.blt]; exact h1.keeps I.bk) ((h2 x hn).trans hv) h) hd
/-- a module's constant, a class, a function, as a value -/
theorem pe_glob {x : Str} {v : V} {u : Value} {pos : Pos} (hg : Gl X x) (hm : X.mg x = some u) (r : RelV v u) (hd : (x == ("__debug__" : Str)) = false := by decide) : PE X (.Name x pos) (tC v) :=
  fun _ _ _ H _ I h => ld_glob I hg hm ⟨v, H, I, r, h⟩ hd
/-- two ints -/
def t2I (ta tb : TE) (k : Int → Int → Hp → Prop) : St → Hp → Prop := fun σ H => ta σ H fun x H1 => tb σ H1 fun y H2 => ∃ i j, x = .int i ∧ y = .int j ∧ k i j H2
def tAdd (ta tb : TE) : TE := fun σ H Q => t2I ta tb (fun i j H2 => Q (.int (i + j)) H2) σ H
def tSub (ta tb : TE) : TE := fun σ H Q => t2I ta tb (fun i j H2 => Q (.int (i - j)) H2) σ H
/-- the left factor below 2^64 -/
def tMul (ta tb : TE) : TE := fun σ H Q => t2I ta tb (fun i j H2 => (-(2 ^ 64) < i ∧ i < 2 ^ 64) ∧ Q (.int (i * j)) H2) σ H
variable {a b : Expr} {ta tb : TE} {pos : Pos}
def PC (X : Cx) (op : CmpOp) (a b : Expr) (t : TE) : Prop :=
  ∀ (pins : List (Addr × Obj)) (s : Shared) (σ : St) (H : Hp) (Q : VK), Inv X pins σ H s → t σ H Q →
    wpAny (model X.prog X.w) X.A (eval a X.env) (fun v s₁ => wpAny (model X.prog X.w) X.A (eval b X.env) (fun u s₂ => wpAny (model X.prog X.w) X.A (compareOp op v u) (EP X pins σ Q) X.xe s₂) X.xe s₁) X.xe s
def tCmp (p : Int → Int → Bool) (ta tb : TE) : TE := fun σ H Q => t2I ta tb (fun i j H2 => Q (.bl (p i j)) H2) σ H
abbrev tLt : TE → TE → TE := tCmp fun i j => decide (i < j)
abbrev tLe : TE → TE → TE := tCmp fun i j => decide (i ≤ j)
abbrev tGt : TE → TE → TE := tCmp fun i j => decide (j < i)
abbrev tGe : TE → TE → TE := tCmp fun i j => decide (j ≤ i)
abbrev tEqI : TE → TE → TE := tCmp fun i j => decide (i = j)
abbrev tNeI : TE → TE → TE := tCmp fun i j => !decide (i = j)
/-- is None -/
def tIsN (ta : TE) : TE := fun σ H Q => ta σ H fun x H1 => Q (.bl (decide (x = .non))) H1
def tNotN (ta : TE) : TE := fun σ H Q => ta σ H fun x H1 => Q (.bl (!decide (x = .non))) H1
/-- a comparison as a value, as a test -/
def tB (t : TE) : TT := fun σ H Q => t σ H fun x H1 => ∃ c, x = .bl c ∧ Q c H1
theorem pt_cmp {op : CmpOp} {t : TE} (h : PC X op a b t) (h1 : behindInMarks op b = false := by first | exact nobehind _ (by decide) (by decide) | rfl) : PT X (.Compare a [op] [b] pos) (tB t) := by
  intro pins s σ H Q I hw
  refine wpAny_isTrue_Compare1 (thn (h pins s σ H _ I hw) fun v s1 h1 => thn h1 fun u s2 h2 => thn h2 fun c s3 ⟨x, H1, I1, r1, q1⟩ => ?_) h1
  obtain ⟨d, rfl, q⟩ := q1
  cases r1
  exact wpAny_truthy_bool ⟨H1, I1, q⟩
/-- an expression whose value is a bool, as a test -/
theorem pt_val {e : Expr} {t : TE} (h : PE X e t) (he : ∀ whole, isTrue e X.env whole = (do let v ← whole; standAt e.pos; holding [v] (truthy v)) := by intro _; rfl) : PT X e (tB t) := by
  intro pins s σ H Q I hw
  refine isTrue_plain (thn (h pins s σ H _ I hw) fun v s1 ⟨x, H1, I1, r1, q1⟩ => ?_) (he _)
  obtain ⟨d, rfl, q⟩ := q1
  cases r1
  exact wpAny_truthy_bool ⟨H1, I1, q⟩
variable {tA tB' : TT} {rest : List Expr}
def tAnd (t u : TT) : TT := fun σ H Q => t σ H fun c H1 => if c = true then u σ H1 Q else Q false H1
def tOr (t u : TT) : TT := fun σ H Q => t σ H fun c H1 => if c = true then Q true H1 else u σ H1 Q
def tNot (t : TT) : TT := fun σ H Q => t σ H fun c H1 => Q (!c) H1
theorem pw_or1 (ha : PT X a tA) : PW X (.BoolOp .Or [a] pos) tA := by
  intro wh pins s σ H Q I h
  refine isTrue_or (thn (ha pins s σ H Q I h) fun c s1 e => ?_)
  cases c with
  | false => exact isTrue_or_nil e
  | true => exact e
theorem pw_or (ha : PT X a tA) (hb : PW X (.BoolOp .Or (b :: rest) pos) tB') : PW X (.BoolOp .Or (a :: b :: rest) pos) (tOr tA tB') := by
  intro wh pins s σ H Q I h
  refine isTrue_or (thn (ha pins s σ H _ I h) fun c s1 ⟨H1, I1, q1⟩ => ?_)
  cases c with
  | true => exact ⟨H1, I1, q1⟩
  | false => exact hb wh pins s1 σ H1 Q I1 q1
theorem pt_not (ha : PT X a tA) : PT X (.UnaryOp .Not a pos) (tNot tA) := by
  intro pins s σ H Q I h
  exact isTrue_not (ha pins s σ H (fun c H1 => Q (!c) H1) I h)
/-- .. as values (bools) -/
def tAndV (ta tb : TE) : TE := fun σ H Q => ta σ H fun x H1 => ∃ c, x = .bl c ∧ if c = true then tb σ H1 Q else Q (.bl false) H1
def tOrV (ta tb : TE) : TE := fun σ H Q => ta σ H fun x H1 => ∃ c, x = .bl c ∧ if c = true then Q (.bl true) H1 else tb σ H1 Q
def tNotV (ta : TE) : TE := fun σ H Q => ta σ H fun x H1 => ∃ c, x = .bl c ∧ Q (.bl (!c)) H1
theorem pe_one {op} {t : TE} (h : PE X a t) : PE X (.BoolOp op [a] pos) t := fun pins s σ H Q I hw => BoolOp_one (h pins s σ H Q I hw)
theorem pe_and (ha : PE X a ta) (hb : PE X (.BoolOp .And (b :: rest) pos) tb) : PE X (.BoolOp .And (a :: b :: rest) pos) (tAndV ta tb) := by
  intro pins s σ H Q I h
  refine BoolOp_and (thn (ha pins s σ H _ I h) fun v s1 ⟨x, H1, I1, r1, q1⟩ => ?_)
  obtain ⟨c, rfl, q1⟩ := q1
  cases r1
  refine wpAny_truthy_bool ?_
  cases c with
  | true => exact hb pins s1 σ H1 Q I1 q1
  | false => exact ⟨.bl false, H1, I1, rfl, q1⟩
/-- a if t else b -/
def tIf (t : TT) (ta tb : TE) : TE := fun σ H Q => t σ H fun c H1 => if c = true then ta σ H1 Q else tb σ H1 Q
end
end L2
namespace L2
open PySem PySem.Spec PyProof.Rows
def SqL (K : PySem.W.Frag) (H : Hp) (a : Addr) (xs : List V) : Prop :=
  Rd H a (.lst xs) ∨
    ∃ (o : Obj) (its : Array Value) (n : Nat), K.lookup a = some o ∧ o.cls = .type "list" ∧ o.dict = none ∧ o.data = .seq its n ∧ its.size ≤ sizeLine ∧ Vals xs its.toList
def SqT (K : PySem.W.Frag) (H : Hp) (a : Addr) (xs : List V) : Prop :=
  Rd H a (.tup xs) ∨
    ∃ (o : Obj) (its : Array Value) (n : Nat), K.lookup a = some o ∧ o.cls = .type "tuple" ∧ o.data = .seq its n ∧ its.size ≤ sizeLine ∧ Vals xs its.toList
def absV : Value → Option V
  | .none => some .non
  | .bool b => some (.bl b)
  | .int i _ => some (.int i)
  | .str x _ => some (.str x)
  | .bytes b _ => some (.byt b)
  | .float b _ => some (.flt b)
  | .ref a => some (.ref a)
  | .type n => some (.ty n)
  | _ => none
theorem RelV.abs {x : V} {u : Value} (r : RelV x u) : absV u = some x := by
  cases x with
  | non => cases r; rfl
  | bl _ => cases r; rfl
  | int _ => obtain ⟨t, rfl⟩ := r; rfl
  | str _ => obtain ⟨t, rfl⟩ := r; rfl
  | byt _ => obtain ⟨t, rfl⟩ := r; rfl
  | flt _ => obtain ⟨t, rfl⟩ := r; rfl
  | ref _ => cases r; rfl
  | ty _ => cases r; rfl
theorem RelV.inj {x y : V} {u : Value} (r : RelV x u) (q : RelV y u) : x = y := Option.some.inj (r.abs.symm.trans q.abs)
theorem Vals.inj : ∀ {xs ys : List V} {us : List Value}, Vals xs us → Vals ys us → xs = ys
  | _, _, _, .nil, .nil => rfl
  | _, _, _, .cons r t, .cons r' t' => by rw [r.inj r', Vals.inj t t']
section
variable {X : Cx} {pins : List (Addr × Obj)} {σ : St} {H : Hp} {s : Shared} {a : Addr} {xs ys : List V}
theorem SqL.of {K : PySem.W.Frag} (h : H a = some (.lst xs)) : SqL K H a xs := .inl (.inl h)
theorem SqT.of {K : PySem.W.Frag} (h : H a = some (.tup xs)) : SqT K H a xs := .inl (.inl h)
theorem Inv.list (I : Inv X pins σ H s) (h : SqL X.K H a xs) : ∃ its : List Value, Vals xs its ∧ PlainL s.heap a its.toArray ∧ xs.length ≤ sizeLine := by
  rcases h with h | ⟨o, its, n, hk, hc, hd, hs, hz, r⟩
  · obtain ⟨z, its, n, r, e⟩ := h.ok I.hok
    exact ⟨its, r, ⟨_, n, e, rfl, rfl, rfl⟩, z⟩
  · refine ⟨its.toList, r, ⟨o, n, I.kIn a o hk, hc, hd, by simpa using hs⟩, ?_⟩
    have e := r.length
    simp only [Array.length_toList] at e
    omega
theorem Inv.tuple (I : Inv X pins σ H s) (h : SqT X.K H a xs) : ∃ its : List Value, Vals xs its ∧ IsTup s.heap a its.toArray ∧ xs.length ≤ sizeLine := by
  rcases h with h | ⟨o, its, n, hk, hc, hs, hz, r⟩
  · obtain ⟨z, its, r, p⟩ := h.ok I.hok
    exact ⟨its, r, p, z⟩
  · refine ⟨its.toList, r, ⟨o, I.kIn a o hk, hc, n, by simpa using hs⟩, ?_⟩
    have e := r.length
    simp only [Array.length_toList] at e
    omega
theorem Inv.list_inj (I : Inv X pins σ H s) (h : SqL X.K H a xs) (h' : SqL X.K H a ys) : xs = ys := by
  obtain ⟨its, r, ⟨o, n, e, _, _, d⟩, _⟩ := I.list h
  obtain ⟨its', r', ⟨o', n', e', _, _, d'⟩, _⟩ := I.list h'
  rw [e] at e'; cases e'
  rw [d] at d'
  injection d' with d1 _
  have : its = its' := by simpa using congrArg Array.toList d1
  subst this
  exact r.inj r'
end
abbrev Cx.wish (X : Cx) (E : Value → Shared → Prop) : Cx := { X with xe := E }
/-- no exception leaves -/
abbrev Cx.nox (X : Cx) : Cx := X.wish fun _ _ => False
theorem Cx.Ok.wish {X : Cx} (ok : X.Ok) (E : Value → Shared → Prop) : (X.wish E).Ok :=
  ⟨ok.mod, ok.kind, ok.glob, ok.blt, ok.above, ok.inj, ok.has, ok.cab, ok.hd, ok.frames, ok.stk, ok.exf, ok.bs, ok.bsz, ok.noex, ok.exfs, ok.funs, ok.frf⟩
theorem Cx.Ok.unwish {X : Cx} {E : Value → Shared → Prop} (ok : (X.wish E).Ok) : X.Ok :=
  ⟨ok.mod, ok.kind, ok.glob, ok.blt, ok.above, ok.inj, ok.has, ok.cab, ok.hd, ok.frames, ok.stk, ok.exf, ok.bs, ok.bsz, ok.noex, ok.exfs, ok.funs, ok.frf⟩
section
variable {X : Cx} {pins : List (Addr × Obj)} {σ : St} {H : Hp} {s : Shared} {E : Value → Shared → Prop}
theorem Inv.wish (I : Inv X pins σ H s) (E : Value → Shared → Prop) : Inv (X.wish E) pins σ H s := ⟨I.ok.wish E, I.os, I.bare, I.base, I.loc, I.cell, I.free, I.freeC, I.pin, I.hok, I.len⟩
theorem Inv.unwish (I : Inv (X.wish E) pins σ H s) : Inv X pins σ H s := ⟨I.ok.unwish, I.os, I.bare, I.base, I.loc, I.cell, I.free, I.freeC, I.pin, I.hok, I.len⟩
theorem SP.unwish {D : Ends} {f : Flow} {s' : Shared} (h : SP (X.wish E) pins D f s') : SP X pins D f s' := by
  cases f with
  | next => obtain ⟨σ', H', I, q⟩ := h; exact ⟨σ', H', I.unwish, q⟩
  | brk => obtain ⟨σ', H', I, q⟩ := h; exact ⟨σ', H', I.unwish, q⟩
  | cont => obtain ⟨σ', H', I, q⟩ := h; exact ⟨σ', H', I.unwish, q⟩
  | ret u => obtain ⟨v, σ', H', I, r, q⟩ := h; exact ⟨v, σ', H', I.unwish, r, q⟩
theorem PSs.nox {st : List Stmt} {t : TS} (h : PSs X.nox st t) : PSs X st t := fun pins s σ H D I hw =>
  wpAny_mono (h pins s σ H D (I.wish _) hw) (fun _ _ q => q.unwish) fun _ _ z => False.elim z
end
section
variable {X : Cx} {st : Stmt} {rest : List Stmt} {t u : TS} {e : Expr} {te : TE} {pos : Pos}
def tNext : TS := fun D σ H => D.nx σ H
def tSeq (t u : TS) : TS := fun D σ H => t { D with nx := u D } σ H
theorem pss_nil : PSs X [] tNext := fun _ _ σ H _ I h => wpAny_execs_nil ⟨σ, H, I, h⟩
theorem pss_cons (h1 : PS X st t) (h2 : PSs X rest u) : PSs X (st :: rest) (tSeq t u) := by
  intro pins s σ H D I h
  refine wpAny_execs_cons (thn (h1 pins s σ H { D with nx := u D } I h) fun f s1 q => ?_)
  cases f with
  | next =>
    obtain ⟨σ', H', I', q⟩ := q
    exact h2 pins s1 σ' H' D I' q
  | ret v => exact q
  | brk => exact q
  | cont => exact q
theorem pss_one (h1 : PS X st t) : PSs X [st] t := by
  intro pins s σ H D I h
  refine wpAny_execs_cons (thn (h1 pins s σ H D I h) fun f s1 q => ?_)
  cases f with
  | next => exact wpAny_execs_nil q
  | ret v => exact q
  | brk => exact q
  | cont => exact q
def tBreak : TS := fun D σ H => D.bk σ H
def tCont : TS := fun D σ H => D.ct σ H
/-- in a def's body nothing is shown -/
theorem Inv.quiet {pins : List (Addr × Obj)} {σ : St} {H : Hp} {s : Shared} (I : Inv X pins σ H s) : interactive X.env = false := by simp [interactive, I.ok.kind]
/-- an expression whose value is dropped -/
def tDrop (te : TE) : TS := fun D σ H => te σ H fun _ H1 => D.nx σ H1
theorem ps_expr (he : PE X e te) (hs : swapsWith e none pos.line X.env = pure false := by rfl) : PS X (.Expr e pos) (tDrop te) := by
  intro pins s σ H D I h
  exact wpAny_Expr_any (thn (he pins s σ H _ I h) fun v s1 ⟨x, H1, I1, r1, q1⟩ => ⟨σ, H1, I1, q1⟩) I.quiet hs
def tRet (te : TE) : TS := fun D σ H => te σ H D.rt
theorem ps_ret (he : PE X e te) : PS X (.Return (some e) pos) (tRet te) := by
  intro pins s σ H D I h
  exact wpAny_Return_some (thn (he pins s σ H _ I h) fun v s1 ⟨x, H1, I1, r1, q1⟩ => ⟨x, σ, H1, I1, r1, q1⟩)
def tRetN : TS := fun D _ H => D.rt .non H
def tIfS (c : TT) (t u : TS) : TS := fun D σ H => c σ H fun b H1 => if b = true then t D σ H1 else u D σ H1
theorem ps_if {c : Expr} {a b : List Stmt} {tc : TT} (hc : PT X c tc) (ha : PSs X a t) (hb : PSs X b u) : PS X (.If c a b pos) (tIfS tc t u) := by
  intro pins s σ H D I h
  refine wpAny_If (thn (hc pins s σ H _ I h) fun d s1 ⟨H1, I1, q1⟩ => ?_)
  cases d with
  | true => exact ha pins s1 σ H1 D I1 q1
  | false => exact hb pins s1 σ H1 D I1 q1
/-- code that the proof never comes to -/
def tNever : TS := fun _ _ _ => False
end
abbrev TG := V → St → Hp → (St → Hp → Prop) → Prop
abbrev TGs := List V → St → Hp → (St → Hp → Prop) → Prop
def PG (X : Cx) (target : Expr) (t : TG) : Prop :=
  ∀ (pins : List (Addr × Obj)) (s : Shared) (σ : St) (H : Hp) (v : V) (u : Value) (Q : St → Hp → Prop), Inv X pins σ H s → RelV v u → t v σ H Q →
    wpAny (model X.prog X.w) X.A (assign target X.env u) (fun _ s' => ∃ σ' H', Inv X pins σ' H' s' ∧ Q σ' H') X.xe s
/-- several targets, one after another -/
def PGs (X : Cx) (ts : List Expr) (t : TGs) : Prop :=
  ∀ (pins : List (Addr × Obj)) (s : Shared) (σ : St) (H : Hp) (vs : List V) (us : List Value) (Q : St → Hp → Prop), Inv X pins σ H s → Vals vs us → t vs σ H Q →
    wpAny (model X.prog X.w) X.A (assignInOrder ((assignEach ts X.env).map (·.2)) us) (fun _ s' => ∃ σ' H', Inv X pins σ' H' s' ∧ Q σ' H') X.xe s
/-- o[i] = v, by values -/
abbrev TSet := V → V → V → Hp → (Hp → Prop) → Prop
def PSet (X : Cx) (t : TSet) : Prop :=
  ∀ (pins : List (Addr × Obj)) (s : Shared) (σ : St) (H : Hp) (o i v : V) (ov iv u : Value) (Q : Hp → Prop), Inv X pins σ H s → RelV o ov → RelV i iv → RelV v u → t o i v H Q →
    wpAny (model X.prog X.w) X.A (setItem ov iv u) (fun _ s' => ∃ H', Inv X pins σ H' s' ∧ Q H') X.xe s
/-- a op= b, by values -/
abbrev TIp := V → V → Hp → VK → Prop
def PIp (X : Cx) (op : Operator) (t : TIp) : Prop :=
  ∀ (pins : List (Addr × Obj)) (s : Shared) (σ : St) (H : Hp) (x y : V) (v u : Value) (Q : VK), Inv X pins σ H s → RelV x v → RelV y u → t x y H Q →
    wpAny (model X.prog X.w) X.A (inplaceOp op v u) (EP X pins σ Q) X.xe s
section
variable {X : Cx} {pos : Pos}
def gName (i : Nat) : TG := fun v σ H Q => Q (σ.set i (some v)) H
theorem pg_name {i : Nat} {x : Str} (hN : X.N.Nodup) (hi : X.N[i]? = some x) (hx : Loc X.env.scope x) (hf : X.fn x = true ∨ X.env.scope.names.lookup x = some .local := by first | exact .inl rfl | exact .inr rfl | assumption) : PG X (.Name x pos) (gName i) := by
  intro pins s σ H v u Q I r h
  exact wpAny_assign_Name (store_ok I hN hi hx r (fun s' I' => ⟨_, H, I', h⟩) hf)
def gNil : TGs := fun vs σ H Q => vs = [] ∧ Q σ H
def gCons (t : TG) (u : TGs) : TGs := fun vs σ H Q => ∃ v r, vs = v :: r ∧ t v σ H fun σ' H' => u r σ' H' Q
/-- (a, b, ..) = a tuple of that length -/
def gTup (K : PySem.W.Frag) (n : Nat) (t : TGs) : TG := fun v σ H Q => ∃ a xs, v = .ref a ∧ SqT K H a xs ∧ xs.length = n ∧ t xs σ H Q
/-- o[i] = .. -/
def gSub (to ti : TE) (t : TSet) : TG := fun v σ H Q => to σ H fun o H1 => ti σ H1 fun i H2 => t o i v H2 fun H3 => Q σ H3
theorem pg_sub {o i : Expr} {to ti : TE} {t : TSet} (ho : PE X o to) (hi : PE X i ti) (hs : PSet X t)
    (ha : ∀ v, assign (.Subscript o i pos) X.env v = (do
      let ov ← holding [v] (eval o X.env)
      let iv ← holding [v, ov] (eval i X.env)
      standAt pos
      holding [v, ov, iv] (setItem ov iv v)
      release [v, ov, iv] []) := by intro _; rfl) : PG X (.Subscript o i pos) (gSub to ti t) := by
  intro pins s σ H v u Q I r h
  rw [ha]
  refine wpAny_bind (wpAny_holding (thn (ho pins s σ H _ I h) fun ov s1 ⟨x, H1, I1, r1, q1⟩ => ?_))
  refine wpAny_bind (wpAny_holding (thn (hi pins s1 σ H1 _ I1 q1) fun iv s2 ⟨y, H2, I2, r2, q2⟩ => ?_))
  refine wpAny_bind (wpAny_standAt (wpAny_bind (wpAny_holding (thn (hs pins s2 σ H2 x y v ov iv u _ I2 r1 r2 r q2) fun _ s3 ⟨H3, I3, q3⟩ => ?_))))
  exact wpAny_release ⟨σ, H3, I3, q3⟩
/-- target = value -/
def tAsg (te : TE) (g : TG) : TS := fun D σ H => te σ H fun x H1 => g x σ H1 D.nx
theorem ps_asg {tg e : Expr} {te : TE} {g : TG} (he : PE X e te) (hg : PG X tg g) (hs : swapsWithSole [tg] e pos.line X.env = pure false := by rfl) (hw : swappedStores [tg] e X.env = pure none := by rfl)
    (h1 : (assignEach [tg] X.env).map (·.2) = [assign tg X.env] := by rfl) : PS X (.Assign [tg] e pos) (tAsg te g) := by
  intro pins s σ H D I h
  refine wpAny_Assign_stores (thn (he pins s σ H _ I h) fun v s1 ⟨x, H1, I1, r1, q1⟩ => ?_) hs hw
  rw [h1]
  exact thn (hg pins s1 σ H1 x v _ I1 r1 q1) fun _ s2 q => q
/-- name = value -/
theorem ps_set {i : Nat} {x : Str} {e : Expr} {te : TE} {pos' : Pos} (hN : X.N.Nodup) (hi : X.N[i]? = some x) (hx : Loc X.env.scope x) (he : PE X e te) (hs : swapsWith e (some (.Name x pos')) pos.line X.env = pure false := by rfl) (hf : X.fn x = true ∨ X.env.scope.names.lookup x = some .local := by first | exact .inl rfl | exact .inr rfl | assumption) :
    PS X (.Assign [.Name x pos'] e pos) (tAsg te (gName i)) := by
  intro pins s σ H D I h
  refine wpAny_Assign_Name (thn (he pins s σ H _ I h) fun v s1 ⟨y, H1, I1, r1, q1⟩ => ?_) hs
  exact store_ok I1 hN hi hx r1 (fun s2 I2 => ⟨_, H1, I2, q1⟩) hf
/-- a, b = x, y with plain local names: stored from the right; the pair itself is not tracked (the opening rows as in PyProof/Rows/TupAssign.lean:23) -/
def tPar (i j : Nat) (ta : TA) : TS := fun D σ H => ta σ H fun vs H1 => ∃ v w, vs = [v, w] ∧ D.nx ((σ.set i (some v)).set j (some w)) H1
/-- name op= e -/
def tAug (i : Nat) (te : TE) (ti : TIp) : TS := fun D σ H => ∃ x, σ[i]? = some (some x) ∧ te σ H fun y H1 => ti x y H1 fun z H2 => D.nx (σ.set i (some z)) H2
/-- o[i] op= e -/
def tAugS (to ti te : TE) (tget : V → V → Hp → VK → Prop) (tip : TIp) (tset : TSet) : TS := fun D σ H => to σ H fun o H1 => ti σ H1 fun i H2 => tget o i H2 fun x H3 => te σ H3 fun y H4 => tip x y H4 fun z H5 => tset o i z H5 fun H6 => D.nx σ H6
/-- o[i], by values -/
def PGet (X : Cx) (t : V → V → Hp → VK → Prop) : Prop :=
  ∀ (pins : List (Addr × Obj)) (s : Shared) (σ : St) (H : Hp) (o i : V) (ov iv : Value) (Q : VK), Inv X pins σ H s → RelV o ov → RelV i iv → t o i H Q →
    wpAny (model X.prog X.w) X.A (getItem ov iv) (EP X pins σ Q) X.xe s
theorem ps_augS {o i e : Expr} {to ti te : TE} {tget : V → V → Hp → VK → Prop} {tip : TIp} {tset : TSet} {op : Operator} {tpos : Pos} (ho : PE X o to) (hi : PE X i ti) (hg : PGet X tget) (he : PE X e te) (hp : PIp X op tip) (hs : PSet X tset)
    (ha : ∀ ov iv new, augStore i ov iv new = (do holding [new, ov, iv] (setItem ov iv new); release [new, ov, iv] []; pure .next) := by intros; rfl) : PS X (.AugAssign (.Subscript o i tpos) op e pos) (tAugS to ti te tget tip tset) := by
  intro pins s σ H D I h
  refine wpAny_AugAssign_SubscriptAny (thn (ho pins s σ H _ I h) fun ov s1 ⟨x1, H1, I1, r1, q1⟩ => ?_) ha
  refine thn (hi pins s1 σ H1 _ I1 q1) fun iv s2 ⟨x2, H2, I2, r2, q2⟩ => ?_
  refine thn (hg pins s2 σ H2 x1 x2 ov iv _ I2 r1 r2 q2) fun old s3 ⟨x3, H3, I3, r3, q3⟩ => ?_
  refine thn (he pins s3 σ H3 _ I3 q3) fun v s4 ⟨x4, H4, I4, r4, q4⟩ => ?_
  refine thn (hp pins s4 σ H4 x3 x4 old v _ I4 r3 r4 q4) fun new s5 ⟨x5, H5, I5, r5, q5⟩ => ?_
  exact thn (hs pins s5 σ H5 x1 x2 x5 ov iv new _ I5 r1 r2 r5 q5) fun _ s6 ⟨H6, I6, q6⟩ => ⟨σ, H6, I6, q6⟩
/-- ints -/
def ipI (f : Int → Int → Int) : TIp := fun x y H Q => ∃ i j, x = .int i ∧ y = .int j ∧ Q (.int (f i j)) H
theorem ip_add : PIp X .Add (ipI fun i j => i + j) := by
  intro pins s σ H x y v u Q I r1 r2 h
  obtain ⟨i, j, e1, e2, q⟩ := h
  subst e1; subst e2
  obtain ⟨t, rfl⟩ := r1
  obtain ⟨t', rfl⟩ := r2
  exact iadd_int ⟨.int _, H, I.tok _, ⟨_, rfl⟩, q⟩
end
section
variable {X : Cx} {pos : Pos}
/-- the invariant W with its measure -/
def tWhile (c : TT) (tb : TS) : TS := fun D σ H => ∃ W : Nat → St → Hp → Prop, (∃ m, W m σ H) ∧ ∀ m σ H, W m σ H →
  c σ H fun b H1 => if b = true then ∃ N : St → Hp → Prop, (∀ σ' H', N σ' H' → ∃ m', m' < m ∧ W m' σ' H') ∧ tb { D with nx := N, ct := N, bk := D.nx } σ H1 else D.nx σ H1
theorem ps_while {c : Expr} {body : List Stmt} {tc : TT} {tb : TS} (hp : PassesOwn (model X.prog X.w) X.A X.env X.xe) (hc : PT X c tc) (hb : PSs X body tb) : PS X (.While c body [] pos) (tWhile tc tb) := by
  intro pins s σ H D I h
  obtain ⟨W, ⟨m0, w0⟩, turn⟩ := h
  refine wpAny_While (codeAny_whileLoop (fun n s' => ∃ σ' H', Inv X pins σ' H' s' ∧ W n σ' H') ?_ m0 ⟨σ, H, I, w0⟩)
  rintro n s1 ⟨σ1, H1, I1, w1⟩
  refine wpAny_passesOwn hp (thn (hc pins s1 σ1 H1 _ I1 (turn n σ1 H1 w1)) fun b s2 ⟨H2, I2, q2⟩ => ?_)
  cases b with
  | true =>
    obtain ⟨N, hN, q2⟩ := q2
    rw [if_pos rfl]
    refine wpAny_passesOwn hp (thn (hb pins s2 σ1 H2 _ I2 q2) fun f s3 q3 => ?_)
    cases f with
    | next =>
      obtain ⟨σ3, H3, I3, n3⟩ := q3
      obtain ⟨m', hm, w3⟩ := hN σ3 H3 n3
      exact ⟨m', hm, σ3, H3, I3, w3⟩
    | cont =>
      obtain ⟨σ3, H3, I3, n3⟩ := q3
      obtain ⟨m', hm, w3⟩ := hN σ3 H3 n3
      exact ⟨m', hm, σ3, H3, I3, w3⟩
    | brk => exact q3
    | ret v => exact q3
  | false =>
    rw [if_neg Bool.false_ne_true]
    exact wpAny_execs_nil ⟨σ1, H2, I2, q2⟩
end
/-- at turn i: it yields x (the heap may grow), or it stops -/
structure It where
  go : Nat → Hp → Prop
  yld : Nat → Hp → V → Hp → Prop
  stop : Nat → Hp → Prop
/-- the iterator's own objects may turn: they are not the frame's, not pinned, younger than the entry (or a comprehension's own) -/
def FpOk (X : Cx) (pins : List (Addr × Obj)) (H : Hp) (b : Addr) : Prop :=
  H b = none ∧ b ≠ X.env.locals ∧ b ∉ X.fs ∧ (b ∈ X.ex ∨ X.s_0.heap.objs.size ≤ b) ∧ (∀ x c, X.env.cells.lookup x = some c → c ≠ b) ∧ ∀ p ∈ X.pn ++ pins, p.1 ≠ b
theorem Inv.fpOk {X : Cx} {pins : List (Addr × Obj)} {σ : St} {H H' : Hp} {s : Shared} {b : Addr} (I : Inv X pins σ H s) (hb : s.heap.objs.size ≤ b) (hn : H' b = none) : FpOk X pins H' b := by
  refine ⟨hn, Nat.ne_of_gt (Nat.lt_of_lt_of_le I.lt hb), I.nofs hb, .inr (Nat.le_trans I.sz hb), fun x c e z => ?_, fun p hp z => ?_⟩
  · obtain ⟨v, q⟩ := I.cell x c e
    exact absurd (Nat.lt_of_lt_of_le q.lt (by rw [z]; exact hb)) (Nat.lt_irrefl _)
  · exact absurd (Nat.lt_of_lt_of_le (Heap.lt_size (I.pin p hp).1) (by rw [z]; exact hb)) (Nat.lt_irrefl _)
structure Turn (P : Program) (w : World) (K : PySem.W.Frag) (tg : Expr) (J : It) (fp : List Addr) (it : Addr) (tn : Nat → Heap → Prop) : Prop where
  mem : it ∈ fp
  obj : ∀ i h, tn i h → ∀ b ∈ fp, ∃ o, h.get? b = some o ∧ ∀ v, o.data ≠ .cell v
  keep : ∀ i h h', tn i h → (∀ b ∈ fp, ∀ o, h.get? b = some o → h'.get? b = some o) → tn i h'
  item : ∀ (X : Cx), X.prog = P → X.w = w → X.K = K → X.calm = true → ∀ (i : Nat) (pins : List (Addr × Obj)) (s : Shared) (σ : St) (H : Hp) (E : Value → Shared → Prop), Inv X pins σ H s → (∀ b ∈ fp, FpOk X pins H b) → tn i s.heap → J.go i H →
    wpAny (model P w) X.A (pyNext (.ref it)) (fun r s1 => ∃ u, r = some u ∧
      wpAny (model P w) X.A (letOwnedTupleGo tg (.ref it) u) (fun _ s2 => ∃ x H', Inv X pins σ H' s2 ∧ RelV x u ∧ J.yld i H x H' ∧ tn (i + 1) s2.heap ∧ ∀ b ∈ fp, H' b = none) E s1) E s
  done : ∀ (X : Cx), X.prog = P → X.w = w → X.K = K → X.calm = true → ∀ (i : Nat) (pins : List (Addr × Obj)) (s : Shared) (σ : St) (H : Hp) (E : Value → Shared → Prop), Inv X pins σ H s → (∀ b ∈ fp, FpOk X pins H b) → tn i s.heap → J.stop i H →
    wpAny (model P w) X.A (pyNext (.ref it)) (fun r s1 => r = none ∧ Inv X pins σ H s1) E s
  self : ∀ (A : Around) (i : Nat) (s : Shared) (Q : Value → Shared → Prop) (E : Value → Shared → Prop), tn i s.heap → Q (.ref it) s → wpAny (model P w) A (pyIter (.ref it)) Q E s
abbrev TI := St → Hp → (It → Hp → Prop) → Prop
/-- an iterator has come -/
def PIE (X : Cx) (pins : List (Addr × Obj)) (σ : St) (tg : Expr) (R : It → Hp → Prop) (itv : Value) (s2 : Shared) : Prop :=
  ∃ (it : Addr) (fp : List Addr) (tn : Nat → Heap → Prop) (J : It) (H' : Hp), itv = .ref it ∧ Inv X pins σ H' s2 ∧ Turn X.prog X.w X.K tg J fp it tn ∧ tn 0 s2.heap ∧ (∀ b ∈ fp, FpOk X pins H' b) ∧ R J H'
def PI (X : Cx) (tg iter : Expr) (wi : TI) : Prop :=
  ∀ (pins : List (Addr × Obj)) (s : Shared) (σ : St) (H : Hp) (R : It → Hp → Prop), Inv X pins σ H s → wi σ H R →
    wpAny (model X.prog X.w) X.A (eval iter X.env) (fun v s1 => wpAny (model X.prog X.w) X.A (pyIter v) (PIE X pins σ tg R) X.xe s1) X.xe s
/-- the step ahead of the store is nothing for an iterator that keeps no tuple -/
theorem go_of {M : Model} {A : Around} {E : Value → Shared → Prop} {s : Shared} {tg : Expr} {it : Addr} {u : Value} {o : Obj} {n : String} {vs : Array Value} {Q : Unit → Shared → Prop} (ho : s.heap.get? it = some o) (hc : o.cls = .type n) (hd : o.data = .fields vs)
    (hn : ["enumerate", "zip", "dict_itemiterator", "dict_reverseitemiterator", "odict_iterator", "itertools.zip_longest", "itertools.pairwise"].contains n = false) (hQ : Q () s) : wpAny M A (letOwnedTupleGo tg (.ref it) u) Q E s := by
  unfold letOwnedTupleGo
  cases tg <;> first
    | exact wpAny_pure hQ
    | (cases u <;> first
        | exact wpAny_pure hQ
        | (refine wpAny_bind (wpAny_load ho ?_)
           rw [hc, hd]
           show wpAny M A (if (["enumerate", "zip", "dict_itemiterator", "dict_reverseitemiterator", "odict_iterator", "itertools.zip_longest", "itertools.pairwise"].contains n && vs[0]? == some (rawInt _)) = true then _ else _) Q E s
           rw [if_neg (by intro h; rw [hn, Bool.false_and] at h; cases h)]
           exact wpAny_pure hQ))
/-- the list at a, as it stands at each turn (a loop may append to it) -/
def Itl (K : PySem.W.Frag) (a : Addr) : It :=
  ⟨fun i H => ∃ xs x, SqL K H a xs ∧ xs[i]? = some x, fun i H x H' => H' = H ∧ ∀ xs, SqL K H a xs → xs[i]? = some x, fun i H => ∃ xs, SqL K H a xs ∧ xs.length ≤ i⟩
def Itt (K : PySem.W.Frag) (a : Addr) : It :=
  ⟨fun i H => ∃ xs x, SqT K H a xs ∧ xs[i]? = some x, fun i H x H' => H' = H ∧ ∀ xs, SqT K H a xs → xs[i]? = some x, fun i H => ∃ xs, SqT K H a xs ∧ xs.length ≤ i⟩
/-- lo, lo + 1, .. (n of them) -/
def Itr (lo : Int) (n : Nat) : It := ⟨fun i _ => i < n, fun i H x H' => H' = H ∧ x = .int (lo + i), fun i _ => n ≤ i⟩
theorem turn_list {P : Program} {w : World} {K : PySem.W.Frag} {tg : Expr} (a it : Addr) : Turn P w K tg (Itl K a) [it] it (fun i h => h.IsListIter it a i) where
  mem := by simp
  obj := fun i h st b hb => by
    have e : b = it := by simpa using hb
    subst e
    obtain ⟨o, e, c, d⟩ := st
    exact ⟨o, e, fun v z => by rw [d] at z; cases z⟩
  keep := fun i h h' st k => st.at fun o e => k it (by simp) o e
  item := by
    intro X hP hw hK hc i pins s σ H E I hf st hg
    subst hP hw hK
    obtain ⟨xs, x, hq, hx⟩ := hg
    obtain ⟨its, rv, p, hz⟩ := I.list hq
    obtain ⟨u, hu, ru⟩ := rv.get hx
    obtain ⟨f0, f1, f2, f3, f4, f5⟩ := hf it (by simp)
    refine wpAny_pyNext_list_item st p.isList (x := u) (by simpa using hu) fun h' st' sb => ?_
    have I1 : Inv X pins σ H { s with heap := h' } := I.turned (t' := s.toks) (fun b o hb e => (sb.2 b hb).trans e) f0 f1 f3 f4 f5
    obtain ⟨o, e, c, d⟩ := id st'
    exact ⟨u, rfl, go_of (s := { s with heap := h' }) e c d (by decide) ⟨x, H, I1, ru, ⟨rfl, fun ys hy => by rw [I.list_inj hy hq]; exact hx⟩, st', fun b hb => (hf b hb).1⟩⟩
  done := by
    intro X hP hw hK hc i pins s σ H E I hf st hg
    subst hP hw hK
    obtain ⟨xs, hq, hx⟩ := hg
    obtain ⟨its, rv, p, hz⟩ := I.list hq
    obtain ⟨f0, f1, f2, f3, f4, f5⟩ := hf it (by simp)
    have hl := rv.length
    exact wpAny_pyNext_list_end (I.ok.hd hc) st p.isList (by simp; omega) fun h' eb => ⟨rfl, I.turned (t' := s.toks) (fun b o hb e => eb b o hb e) f0 f1 f3 f4 f5⟩
  self := fun _ _ _ _ _ st h => wpAny_pyIter_listiter st h
theorem turn_range {P : Program} {w : World} {K : PySem.W.Frag} {tg : Expr} (it : Addr) (lo : Int) (n : Nat) : Turn P w K tg (Itr lo n) [it] it (fun i h => IsRangeIter h it (lo + (i : Nat) * 1) ((n : Int) - (i : Nat)) 1) where
  mem := by simp
  obj := fun i h st b hb => by
    have e : b = it := by simpa using hb
    subst e
    exact ⟨_, st, fun v z => by
      have z' : Data.fields _ = Data.cell v := z
      cases z'⟩
  keep := fun i h h' st k => k it (by simp) _ st
  item := by
    intro X hP hw hK hc i pins s σ H E I hf st hg
    subst hP hw hK
    obtain ⟨f0, f1, f2, f3, f4, f5⟩ := hf it (by simp)
    have W := Walks.range (prog := X.prog) (w := X.w) (I.ok.hd hc) it lo 1 n
    refine W.item i s _ _ hg st fun v h' tk hv st' kk => ?_
    obtain ⟨t, rfl⟩ := hv
    have I1 : Inv X pins σ H { s with heap := h', toks := tk } := I.turned (fun b o hb e => kk b o (by simpa using hb) e) f0 f1 f3 f4 f5
    refine ⟨_, rfl, go_of (s := { s with heap := h', toks := tk }) (n := "range_iterator") st' rfl rfl (by decide) ⟨.int (lo + i), H, I1, ⟨t, ?_⟩, ⟨rfl, rfl⟩, st', fun b hb => (hf b hb).1⟩⟩
    rw [Int.mul_one]
  done := by
    intro X hP hw hK hc i pins s σ H E I hf st hg
    subst hP hw hK
    obtain ⟨f0, f1, f2, f3, f4, f5⟩ := hf it (by simp)
    exact wpAny_pyNext_range_end (I.ok.hd hc) st (by have : n ≤ i := hg; omega) fun h' eb => ⟨rfl, I.turned (t' := s.toks) (fun b o hb e => eb b o hb e) f0 f1 f3 f4 f5⟩
  self := fun _ _ _ _ _ st h => wpAny_pyIter_rangeiter st h
end L2
namespace L2
open PySem PySem.Spec PyProof.Rows
section
variable {X : Cx} {tg : Expr}
def iList (K : PySem.W.Frag) (tl : TE) : TI := fun σ H R => tl σ H fun x H1 => ∃ a, x = .ref a ∧ (∃ xs, SqL K H1 a xs) ∧ R (Itl K a) H1
def iTup (K : PySem.W.Frag) (tl : TE) : TI := fun σ H R => tl σ H fun x H1 => ∃ a, x = .ref a ∧ (∃ xs, SqT K H1 a xs) ∧ R (Itt K a) H1
theorem pi_list {l : Expr} {tl : TE} (hl : PE X l tl) : PI X tg l (iList X.K tl) := by
  intro pins s σ H R I h
  refine thn (hl pins s σ H _ I h) fun v s1 ⟨x, H1, I1, r1, q1⟩ => ?_
  obtain ⟨a, e, ⟨xs, hq⟩, q⟩ := q1
  subst e
  cases r1
  obtain ⟨its, rv, p, hz⟩ := I1.list hq
  refine wpAny_pyIter_list p.isList ?_
  refine ⟨s1.heap.objs.size, [s1.heap.objs.size], _, _, H1, rfl, I1.kept (t' := s1.toks) fun b o e => Heap.get?_push_of_some _ e, turn_list a _, ⟨_, Heap.get?_push_size _ rfl, rfl, rfl⟩, fun b hb => ?_, q⟩
  have e : b = s1.heap.objs.size := by simpa using hb
  subst e
  exact I1.fpOk (Nat.le_refl _) (I1.hok.fresh (Nat.le_refl _))
/-- a range object just made, walked -/
theorem range_it {pins : List (Addr × Obj)} {σ : St} {H : Hp} {s : Shared} {R : It → Hp → Prop} {E : Value → Shared → Prop} {lo hi : Int} {t u v : Tok} {tk : Nat} (I : Inv X pins σ H s) (h1 : -(2 ^ 62) ≤ lo) (h2 : lo < 2 ^ 62) (h3 : -(2 ^ 62) ≤ hi) (h4 : hi < 2 ^ 62)
    (q : R (Itr lo (hi - lo).toNat) H) : wpAny (model X.prog X.w) X.A (pyIter (.ref s.heap.objs.size)) (PIE X pins σ tg R) E { s with heap := s.heap.push { cls := .type "range", data := .fields #[.int lo t, .int hi u, .int 1 v] }, toks := tk } := by
  refine wpAny_pyIter_range (IsRange.new ..) (small_one h1 h2 h3 h4) ?_
  have I1 : Inv X pins σ H { s with heap := s.heap.push { cls := .type "range", data := .fields #[.int lo t, .int hi u, .int 1 v] }, toks := tk } := I.kept fun b o e => Heap.get?_push_of_some _ e
  refine ⟨(s.heap.push { cls := .type "range", data := .fields #[.int lo t, .int hi u, .int 1 v] }).objs.size, [(s.heap.push { cls := .type "range", data := .fields #[.int lo t, .int hi u, .int 1 v] }).objs.size], _, _, H, rfl,
    I1.kept (t' := tk) fun b o e => Heap.get?_push_of_some _ e, turn_range _ lo (hi - lo).toNat, ?_, fun b hb => ?_, q⟩
  · have e1 : lo + ((0 : Nat) : Int) * 1 = lo := by simp
    have e2 : (((hi - lo).toNat : Nat) : Int) - ((0 : Nat) : Int) = Builtin.Range.rangeSize lo hi 1 := by rw [rangeSize_one]; split <;> omega
    show IsRangeIter _ _ (lo + ((0 : Nat) : Int) * 1) ((((hi - lo).toNat : Nat) : Int) - ((0 : Nat) : Int)) 1
    rw [e1, e2]
    exact Heap.get?_push_size _ rfl
  · have e : b = (s.heap.push { cls := .type "range", data := .fields #[.int lo t, .int hi u, .int 1 v] }).objs.size := by simpa using hb
    subst e
    exact I1.fpOk (Nat.le_refl _) (I1.hok.fresh (Nat.le_refl _))
def iRng1 (ta : TA) : TI := fun σ H R => ta σ H fun vs H1 => ∃ j : Int, vs = [.int j] ∧ -(2 ^ 62) ≤ j ∧ j < 2 ^ 62 ∧ R (Itr 0 j.toNat) H1
def iRng2 (ta : TA) : TI := fun σ H R => ta σ H fun vs H1 => ∃ i j : Int, vs = [.int i, .int j] ∧ (-(2 ^ 62) ≤ i ∧ i < 2 ^ 62 ∧ -(2 ^ 62) ≤ j ∧ j < 2 ^ 62) ∧ R (Itr i (j - i).toNat) H1
theorem pi_range1 {a : Expr} {ta : TA} {p pos : Pos} (hg : Gl X "range") (hm : X.mg "range" = none) (ha : PA X [a] ta) (hs : starEach [a] X.env = [(false, eval a X.env)] := by rfl) : PI X tg (.Call (.Name "range" p) [a] [] pos) (iRng1 ta) := by
  intro pins s σ H R I h
  refine Call_ (ld_blt I hg hm boot_range (PyProof.Rows.callWith_type1 (thn (ha pos pins s σ H _ I h) fun us s1 ⟨vs, H1, I1, r1, q1⟩ => ?_) hs rfl))
  obtain ⟨j, e, q1, q2, q⟩ := q1
  subst e
  cases r1 with
  | cons r rr =>
    cases rr
    obtain ⟨t, rfl⟩ := r
    exact call_range_1 (range_it I1 (by omega) (by omega) q1 q2 (by simpa using q))
/-- W: the invariant by the turn and a measure; N: what the body is to reach -/
def tFor (wi : TI) (g : TG) (tb : TS) : TS := fun D σ H => wi σ H fun J H1 => ∃ W : Nat → Nat → St → Hp → Prop, (∃ m, W 0 m σ H1) ∧ ∀ i m σ H, W i m σ H →
  (J.stop i H ∧ D.nx σ H) ∨ (J.go i H ∧ ∃ N : St → Hp → Prop, (∀ σ' H', N σ' H' → ∃ m', m' < m ∧ W (i + 1) m' σ' H') ∧ ∀ x H', J.yld i H x H' → g x σ H' fun σ2 H2 => tb { D with nx := N, ct := N, bk := D.nx } σ2 H2)
/-- the records at fp as they stand -/
def pinsAt (fp : List Addr) (h : Heap) : List (Addr × Obj) := fp.filterMap fun b => (h.get? b).map fun o => (b, o)
theorem mem_pinsAt {fp : List Addr} {h : Heap} {b : Addr} {o : Obj} (hb : b ∈ fp) (e : h.get? b = some o) : (b, o) ∈ pinsAt fp h := List.mem_filterMap.mpr ⟨b, hb, by rw [e]; rfl⟩
theorem of_pinsAt {fp : List Addr} {h : Heap} {p : Addr × Obj} (hp : p ∈ pinsAt fp h) : p.1 ∈ fp ∧ h.get? p.1 = some p.2 := by
  obtain ⟨b, hb, e⟩ := List.mem_filterMap.mp hp
  cases q : h.get? b with
  | none => rw [q] at e; cases e
  | some o =>
    rw [q] at e
    have e' : (b, o) = p := Option.some.inj e
    subst e'
    exact ⟨hb, q⟩
theorem Inv.pinned {pins : List (Addr × Obj)} {σ : St} {H : Hp} {s : Shared} {fp : List Addr} (I : Inv X pins σ H s) (hf : ∀ b ∈ fp, FpOk X pins H b) (ho : ∀ b ∈ fp, ∃ o, s.heap.get? b = some o ∧ ∀ v, o.data ≠ .cell v) : Inv X (pins ++ pinsAt fp s.heap) σ H s :=
  I.pins_of fun p hp => (List.mem_append.mp hp).elim (fun z => I.pin p (List.mem_append_right _ z)) fun z => by
    obtain ⟨hb, e⟩ := of_pinsAt z
    obtain ⟨f0, f1, f2, _⟩ := hf p.1 hb
    obtain ⟨o, e', d⟩ := ho p.1 hb
    rw [e] at e'; cases e'
    exact ⟨e, f0, f1, f2, d⟩
theorem Inv.unpinned {pins pl : List (Addr × Obj)} {σ : St} {H : Hp} {s : Shared} (I : Inv X (pins ++ pl) σ H s) : Inv X pins σ H s := I.pins_of fun p hp => I.pin p (List.mem_append_right _ (List.mem_append_left _ hp))
theorem ps_for {iter : Expr} {body : List Stmt} {wi : TI} {g : TG} {tb : TS} {pos : Pos} (hp : PassesOwn (model X.prog X.w) X.A X.env X.xe) (hc : X.calm = true) (hi : PI X tg iter wi) (hg : PG X tg g) (hb : PSs X body tb)
    (hs : ∀ x, foldedSetIterable iter X.env x = pure x := by intro _; rfl) : PS X (.For tg iter body [] pos) (tFor wi g tb) := by
  intro pins s σ H D I h
  refine wpAny_For (thn (hi pins s σ H _ I h) fun v s1 h1 => thn h1 fun itv s2 h2 => ?_) hs
  obtain ⟨it, fp, tn, J, H2, e, I2, T, st2, f2, W, ⟨m0, w0⟩, turn⟩ := h2
  subst e
  -- what stays true of the iterator's objects through the loop
  have stat : ∀ {H' : Hp}, (∀ b ∈ fp, H' b = none) → ∀ b ∈ fp, FpOk X pins H' b := fun hn b hb => ⟨hn b hb, (f2 b hb).2⟩
  refine codeAny_forLoop_any (fun n s' => ∃ i σ' H', Inv X pins σ' H' s' ∧ tn i s'.heap ∧ (∀ b ∈ fp, H' b = none) ∧ W i n σ' H') ?_ m0 ⟨0, σ, H2, I2, st2, fun b hb => (f2 b hb).1, w0⟩
  rintro n s3 ⟨i, σ3, H3, I3, st3, fr3, w3⟩
  rcases turn i n σ3 H3 w3 with ⟨stop, qn⟩ | ⟨go, N, hN, step⟩
  · refine wpAny_passesOwn hp (thn (T.done X rfl rfl rfl hc i pins s3 σ3 H3 X.xe I3 (stat fr3) st3 stop) fun r s4 ⟨hr, I4⟩ => ?_)
    subst hr
    exact wpAny_execs_nil ⟨σ3, H3, I4, qn⟩
  · refine wpAny_passesOwn hp (thn (T.item X rfl rfl rfl hc i pins s3 σ3 H3 X.xe I3 (stat fr3) st3 go) fun r s4 ⟨u, hr, h4⟩ => ?_)
    subst hr
    refine wpAny_passesOwn hp (thn h4 fun _ s5 ⟨x, H5, I5, r5, y5, st5, fr5⟩ => ?_)
    have I5' := I5.pinned (stat fr5) (T.obj _ _ st5)
    refine wpAny_passesOwn hp (thn (hg _ s5 σ3 H5 x u _ I5' r5 (step x H5 y5)) fun _ s6 ⟨σ6, H6, I6, q6⟩ => ?_)
    refine wpAny_passesOwn hp (thn (hb _ s6 σ6 H6 _ I6 q6) fun f s7 q7 => ?_)
    have again : ∀ {σ7 : St} {H7 : Hp}, Inv X (pins ++ pinsAt fp s5.heap) σ7 H7 s7 → N σ7 H7 → ∃ m, m < n ∧ ∃ i σ' H', Inv X pins σ' H' s7 ∧ tn i s7.heap ∧ (∀ b ∈ fp, H' b = none) ∧ W i m σ' H' := fun {σ7 H7} I7 n7 => by
      obtain ⟨m', hm, w7⟩ := hN σ7 H7 n7
      refine ⟨m', hm, i + 1, σ7, H7, I7.unpinned, T.keep _ _ _ st5 fun b hb o e => (I7.pin (b, o) (List.mem_append_right _ (List.mem_append_right _ (mem_pinsAt hb e)))).1, fun b hb => ?_, w7⟩
      obtain ⟨o, e, d⟩ := T.obj _ _ st5 b hb
      exact (I7.pin (b, o) (List.mem_append_right _ (List.mem_append_right _ (mem_pinsAt hb e)))).2.1
    cases f with
    | next => obtain ⟨σ7, H7, I7, n7⟩ := q7; exact again I7 n7
    | cont => obtain ⟨σ7, H7, I7, n7⟩ := q7; exact again I7 n7
    | brk => obtain ⟨σ7, H7, I7, q7⟩ := q7; exact ⟨σ7, H7, I7.unpinned, q7⟩
    | ret v => obtain ⟨x7, σ7, H7, I7, r7, q7⟩ := q7; exact ⟨x7, σ7, H7, I7.unpinned, r7, q7⟩
end
/-- over a list that the body leaves as it is -/
theorem for_list {K : PySem.W.Frag} {a : Addr} {xs : List V} {g : TG} {tb : TS} {D : Ends} {σ : St} {H : Hp} (Pv : Nat → St → Hp → Prop) (h0 : Pv 0 σ H) (hl : ∀ i σ H, i ≤ xs.length → Pv i σ H → SqL K H a xs)
    (hs : ∀ i x σ H, xs[i]? = some x → Pv i σ H → g x σ H fun σ2 H2 => tb { D with nx := Pv (i + 1), ct := Pv (i + 1), bk := D.nx } σ2 H2) (hd : ∀ σ H, Pv xs.length σ H → D.nx σ H) :
    ∃ W : Nat → Nat → St → Hp → Prop, (∃ m, W 0 m σ H) ∧ ∀ i m σ H, W i m σ H →
      ((Itl K a).stop i H ∧ D.nx σ H) ∨ ((Itl K a).go i H ∧ ∃ N : St → Hp → Prop, (∀ σ' H', N σ' H' → ∃ m', m' < m ∧ W (i + 1) m' σ' H') ∧ ∀ x H', (Itl K a).yld i H x H' → g x σ H' fun σ2 H2 => tb { D with nx := N, ct := N, bk := D.nx } σ2 H2) := by
  refine ⟨fun i m σ H => m = xs.length - i ∧ i ≤ xs.length ∧ Pv i σ H, ⟨xs.length, by simp, Nat.zero_le _, h0⟩, ?_⟩
  rintro i m σ H ⟨rfl, hi, p⟩
  have q := hl i σ H hi p
  by_cases hlt : i < xs.length
  · refine .inr ⟨⟨xs, xs[i], q, by simp [hlt]⟩, Pv (i + 1), fun σ' H' p' => ⟨xs.length - (i + 1), by omega, rfl, hlt, p'⟩, fun x H' y => ?_⟩
    obtain ⟨e, y⟩ := y
    subst e
    exact hs i x σ _ (y xs q) p
  · have e : i = xs.length := by omega
    subst e
    exact .inl ⟨⟨xs, q, Nat.le_refl _⟩, hd σ H p⟩
theorem for_range {lo : Int} {n : Nat} {g : TG} {tb : TS} {D : Ends} {σ : St} {H : Hp} (Pv : Nat → St → Hp → Prop) (h0 : Pv 0 σ H)
    (hs : ∀ i σ H, i < n → Pv i σ H → g (.int (lo + i)) σ H fun σ2 H2 => tb { D with nx := Pv (i + 1), ct := Pv (i + 1), bk := D.nx } σ2 H2) (hd : ∀ σ H, Pv n σ H → D.nx σ H) :
    ∃ W : Nat → Nat → St → Hp → Prop, (∃ m, W 0 m σ H) ∧ ∀ i m σ H, W i m σ H →
      ((Itr lo n).stop i H ∧ D.nx σ H) ∨ ((Itr lo n).go i H ∧ ∃ N : St → Hp → Prop, (∀ σ' H', N σ' H' → ∃ m', m' < m ∧ W (i + 1) m' σ' H') ∧ ∀ x H', (Itr lo n).yld i H x H' → g x σ H' fun σ2 H2 => tb { D with nx := N, ct := N, bk := D.nx } σ2 H2) := by
  refine ⟨fun i m σ H => m = n - i ∧ i ≤ n ∧ Pv i σ H, ⟨n, by simp, Nat.zero_le _, h0⟩, ?_⟩
  rintro i m σ H ⟨rfl, hi, p⟩
  by_cases hlt : i < n
  · refine .inr ⟨hlt, Pv (i + 1), fun σ' H' p' => ⟨n - (i + 1), by omega, rfl, hlt, p'⟩, fun x H' y => ?_⟩
    obtain ⟨e, y⟩ := y
    subst e y
    exact hs i σ _ hlt p
  · have e : i = n := by omega
    subst e
    exact .inl ⟨Nat.le_refl _, hd σ H p⟩
/-- while, by a word and a measure of the state -/
theorem while_by {c : TT} {tb : TS} {D : Ends} {σ : St} {H : Hp} (Pv : St → Hp → Prop) (μ : St → Hp → Nat) (h0 : Pv σ H)
    (hs : ∀ σ H, Pv σ H → c σ H fun b H1 => if b = true then tb { D with nx := fun σ' H' => Pv σ' H' ∧ μ σ' H' < μ σ H, ct := fun σ' H' => Pv σ' H' ∧ μ σ' H' < μ σ H, bk := D.nx } σ H1 else D.nx σ H1)
    (mono : ∀ σ H Q Q', (∀ b H1, Q b H1 → Q' b H1) → c σ H Q → c σ H Q') : tWhile c tb D σ H := by
  refine ⟨fun m σ H => m = μ σ H ∧ Pv σ H, ⟨_, rfl, h0⟩, ?_⟩
  rintro m σ H ⟨rfl, p⟩
  refine mono σ H _ _ (fun b H1 q => ?_) (hs σ H p)
  cases b with
  | true => exact ⟨_, fun σ' H' ⟨p', l⟩ => ⟨_, l, rfl, p'⟩, q⟩
  | false => exact q
end L2
namespace L2
open PySem PySem.Spec PyProof.Rows
abbrev R2 := V → V → Hp → VK → Prop
/-- a two-place operation on values: f is binaryOp op, inplaceOp op or compareOp op -/
def OpR (X : Cx) (f : Value → Value → Sem Value) (r : R2) : Prop :=
  ∀ (pins : List (Addr × Obj)) (s : Shared) (σ : St) (H : Hp) (x y : V) (v u : Value) (Q : VK), Inv X pins σ H s → RelV x v → RelV y u → r x y H Q →
    wpAny (model X.prog X.w) X.A (f v u) (EP X pins σ Q) X.xe s
/-- a one-place operation -/
def UnR (X : Cx) (f : Value → Sem Value) (r : V → Hp → VK → Prop) : Prop :=
  ∀ (pins : List (Addr × Obj)) (s : Shared) (σ : St) (H : Hp) (x : V) (v : Value) (Q : VK), Inv X pins σ H s → RelV x v → r x H Q →
    wpAny (model X.prog X.w) X.A (f v) (EP X pins σ Q) X.xe s
/-- a call of a value that is known (a builtin, a type) with values -/
def CallR (X : Cx) (f : Value) (r : List V → Hp → VK → Prop) : Prop :=
  ∀ (pins : List (Addr × Obj)) (s : Shared) (σ : St) (H : Hp) (xs : List V) (us : List Value) (Q : VK), Inv X pins σ H s → Vals xs us → r xs H Q →
    wpAny (model X.prog X.w) X.A (call f us) (EP X pins σ Q) X.xe s
/-- a value's truth -/
def TruR (X : Cx) (r : V → Hp → (Bool → Hp → Prop) → Prop) : Prop :=
  ∀ (pins : List (Addr × Obj)) (s : Shared) (σ : St) (H : Hp) (x : V) (v : Value) (Q : Bool → Hp → Prop), Inv X pins σ H s → RelV x v → r x H Q →
    wpAny (model X.prog X.w) X.A (truthy v) (TP X pins σ Q) X.xe s
def tOp (r : R2) (ta tb : TE) : TE := fun σ H Q => ta σ H fun x H1 => tb σ H1 fun y H2 => r x y H2 Q
def tUn (r : V → Hp → VK → Prop) (ta : TE) : TE := fun σ H Q => ta σ H fun x H1 => r x H1 Q
/-- ints in, under C, and a value out -/
def rI (C : Int → Int → Prop) (g : Int → Int → V) : R2 := fun x y H Q => ∃ i j, x = .int i ∧ y = .int j ∧ C i j ∧ Q (g i j) H
def rI0 (g : Int → Int → V) : R2 := fun x y H Q => ∃ i j, x = .int i ∧ y = .int j ∧ Q (g i j) H
def rU (g : Int → V) : V → Hp → VK → Prop := fun x H Q => ∃ i, x = .int i ∧ Q (g i) H
section
variable {X : Cx} {a b c : Expr} {ta tb tc : TE} {pos : Pos}
theorem binT (ha : PE X a ta) (hb : PE X b tb) {pins : List (Addr × Obj)} {s : Shared} {σ : St} {H : Hp} {R : V → V → Hp → Prop} (I : Inv X pins σ H s)
    (h : ta σ H fun x H1 => tb σ H1 fun y H2 => R x y H2) {Q : Value → Shared → Prop} {f : Value → Value → Sem Value}
    (hf : ∀ v u s2 x y H2, Inv X pins σ H2 s2 → RelV x v → RelV y u → R x y H2 → wpAny (model X.prog X.w) X.A (f v u) Q X.xe s2) :
    wpAny (model X.prog X.w) X.A (eval a X.env) (fun v s₁ => wpAny (model X.prog X.w) X.A (eval b X.env) (fun u s₂ => wpAny (model X.prog X.w) X.A (f v u) Q X.xe s₂) X.xe s₁) X.xe s := by
  refine thn (ha pins s σ H _ I h) fun v s1 ⟨x, H1, I1, r1, q1⟩ => ?_
  refine thn (hb pins s1 σ H1 _ I1 q1) fun u s2 ⟨y, H2, I2, r2, q2⟩ => ?_
  exact hf v u s2 x y H2 I2 r1 r2 q2
theorem pe_op {op : Operator} {r : R2} (ho : OpR X (binaryOp op) r) (ha : PE X a ta) (hb : PE X b tb) : PE X (.BinOp a op b pos) (tOp r ta tb) := by
  intro pins s σ H Q I h
  exact wpAny_BinOp (binT ha hb I h fun v u s2 x y H2 I2 rx ry q => ho pins s2 σ H2 x y v u Q I2 rx ry q)
theorem pe_un {op : UnaryOp} {r : V → Hp → VK → Prop} (ho : UnR X (unaryOp op) r) (ha : PE X a ta) : PE X (.UnaryOp op a pos) (tUn r ta) := by
  intro pins s σ H Q I h
  exact UnaryOp_ (thn (ha pins s σ H _ I h) fun v s1 ⟨x, H1, I1, r1, q1⟩ => ho pins s1 σ H1 x v Q I1 r1 q1)
theorem opI {f : Value → Value → Sem Value} {C : Int → Int → Prop} {g : Int → Int → Int}
    (rule : ∀ (i j : Int) (t u : Tok) (s : Shared) (Q : Value → Shared → Prop) (E : Value → Shared → Prop), C i j → Q (.int (g i j) s.toks) { s with toks := s.toks + 1 } → wpAny (model X.prog X.w) X.A (f (.int i t) (.int j u)) Q E s) :
    OpR X f (rI C fun i j => .int (g i j)) := by
  intro pins s σ H x y v u Q I rx ry h
  obtain ⟨i, j, rfl, rfl, hc, q⟩ := h
  obtain ⟨t, rfl⟩ := rx
  obtain ⟨t', rfl⟩ := ry
  exact rule i j t t' s _ _ hc ⟨.int (g i j), H, I.tok _, ⟨_, rfl⟩, q⟩
theorem opI0 {f : Value → Value → Sem Value} {g : Int → Int → Int}
    (rule : ∀ (i j : Int) (t u : Tok) (s : Shared) (Q : Value → Shared → Prop) (E : Value → Shared → Prop), Q (.int (g i j) s.toks) { s with toks := s.toks + 1 } → wpAny (model X.prog X.w) X.A (f (.int i t) (.int j u)) Q E s) :
    OpR X f (rI0 fun i j => .int (g i j)) := by
  intro pins s σ H x y v u Q I rx ry h
  obtain ⟨i, j, rfl, rfl, q⟩ := h
  obtain ⟨t, rfl⟩ := rx
  obtain ⟨t', rfl⟩ := ry
  exact rule i j t t' s _ _ ⟨.int (g i j), H, I.tok _, ⟨_, rfl⟩, q⟩
theorem opB0 {f : Value → Value → Sem Value} {g : Int → Int → Bool}
    (rule : ∀ (i j : Int) (t u : Tok) (s : Shared) (Q : Value → Shared → Prop) (E : Value → Shared → Prop), Q (.bool (g i j)) s → wpAny (model X.prog X.w) X.A (f (.int i t) (.int j u)) Q E s) :
    OpR X f (rI0 fun i j => .bl (g i j)) := by
  intro pins s σ H x y v u Q I rx ry h
  obtain ⟨i, j, rfl, rfl, q⟩ := h
  obtain ⟨t, rfl⟩ := rx
  obtain ⟨t', rfl⟩ := ry
  exact rule i j t t' s _ _ ⟨.bl (g i j), H, I, rfl, q⟩
def CDiv (i j : Int) : Prop := 0 < j ∧ j < 1073741824
def CDivN (i j : Int) : Prop := j ≠ 0 ∧ j.natAbs < 1073741824
def CPow (i j : Int) : Prop := 0 ≤ j ∧ j ≤ 1000000 ∧ i.natAbs < 2 ^ 64
def CMul (i j : Int) : Prop := (-(2 ^ 64) < i ∧ i < 2 ^ 64) ∨ (-(2 ^ 64) < j ∧ j < 2 ^ 64)
theorem CMul.ok {i j : Int} (h : CMul i j) : IntMulOk i j := by
  rcases h with ⟨h1, h2⟩ | ⟨h1, h2⟩
  · exact .of_left (intBits_le_64 h1 h2)
  · exact .of_right (intBits_le_64 h1 h2)
theorem op_add : OpR X (binaryOp .Add) (rI0 fun i j => .int (i + j)) := opI0 fun _ _ _ _ _ _ _ q => add_int q
theorem op_sub : OpR X (binaryOp .Sub) (rI0 fun i j => .int (i - j)) := opI0 fun _ _ _ _ _ _ _ q => sub_int q
/-- % by a positive divisor of any size -/
theorem op_mod : OpR X (binaryOp .Mod) (rI (fun _ j => 0 < j) fun i j => .int (i % j)) := opI fun i j _ _ _ _ _ hc q => by
  have h1 : (0 : Int) < j := hc
  exact mod_int' (by omega) (by rw [Int.fmod_eq_emod_of_nonneg i (by omega)]; exact q)
theorem unI {f : Value → Sem Value} {g : Int → Int}
    (rule : ∀ (i : Int) (t : Tok) (s : Shared) (Q : Value → Shared → Prop) (E : Value → Shared → Prop), Q (.int (g i) s.toks) { s with toks := s.toks + 1 } → wpAny (model X.prog X.w) X.A (f (.int i t)) Q E s) :
    UnR X f (rU fun i => .int (g i)) := by
  intro pins s σ H x v Q I rx h
  obtain ⟨i, rfl, q⟩ := h
  obtain ⟨t, rfl⟩ := rx
  exact rule i t s _ _ ⟨.int (g i), H, I.tok _, ⟨_, rfl⟩, q⟩
theorem un_neg : UnR X (unaryOp .USub) (rU fun i => .int (-i)) := unI fun _ _ _ _ _ q => neg_int q
end
/-- the scalars that == tells apart as data does -/
def scal : V → V → Bool
  | .non, .non => true | .non, .int _ => true | .int _, .non => true | .non, .bl _ => true | .bl _, .non => true | .non, .str _ => true | .str _, .non => true
  | .int _, .int _ => true | .bl _, .bl _ => true | .str _, .str _ => true | .byt _, .byt _ => true
  | .int _, .str _ => true | .str _, .int _ => true | .bl _, .str _ => true | .str _, .bl _ => true
  | _, _ => false
def rEq : R2 := fun x y H Q => scal x y = true ∧ Q (.bl (decide (x = y))) H
def rNe : R2 := fun x y H Q => scal x y = true ∧ Q (.bl (!decide (x = y))) H
theorem dec_int {i j : Int} : decide (V.int i = V.int j) = (i == j) := by
  rw [Bool.eq_iff_iff]
  simp
theorem dec_bl {i j : Bool} : decide (V.bl i = V.bl j) = (i == j) := by
  rw [Bool.eq_iff_iff]
  simp
theorem dec_str {i j : Str} : decide (V.str i = V.str j) = (i == j) := by
  rw [Bool.eq_iff_iff]
  simp
theorem dec_byt {i j : Array UInt8} : decide (V.byt i = V.byt j) = (i.toList == j.toList) := by
  rw [Bool.eq_iff_iff]
  cases i
  cases j
  simp
section
variable {X : Cx} {a b c : Expr} {ta tb tc : TE} {pos : Pos}
theorem fin_bl {pins : List (Addr × Obj)} {σ : St} {H : Hp} {s : Shared} {Q : VK} {k k' : Bool} (I : Inv X pins σ H s) (q : Q (.bl k) H) (e : k = k') : EP X pins σ Q (.bool k') s := by
  subst e
  exact ⟨.bl k, H, I, rfl, q⟩
theorem op_eq : OpR X (compareOp .Eq) rEq := by
  intro pins s σ H x y v u Q I rx ry h
  obtain ⟨hs, q⟩ := h
  cases x with
  | non =>
    cases rx
    cases y with
    | non => cases ry; exact PySem.EqNone.eq_none_none (fin_bl I q (by simp))
    | bl j => cases ry; exact PySem.EqNone.eq_none_bool (fin_bl I q (by simp))
    | int j => obtain ⟨t', rfl⟩ := ry; exact PySem.EqNone.eq_none_int (fin_bl I q (by simp))
    | str j => obtain ⟨t', rfl⟩ := ry; exact PySem.EqNone.eq_none_str (fin_bl I q (by simp))
    | _ => exact absurd (show false = true from hs) Bool.false_ne_true
  | bl i =>
    cases rx
    cases y with
    | non => cases ry; exact PySem.EqNone.eq_bool_none (fin_bl I q (by simp))
    | bl j => cases ry; exact eq_bool (fin_bl I q dec_bl)
    | str j => obtain ⟨t', rfl⟩ := ry; exact PySem.EqMixed.eq_bool_str (fin_bl I q (by simp))
    | _ => exact absurd (show false = true from hs) Bool.false_ne_true
  | int i =>
    obtain ⟨t, rfl⟩ := rx
    cases y with
    | non => cases ry; exact PySem.EqNone.eq_int_none (fin_bl I q (by simp))
    | int j => obtain ⟨t', rfl⟩ := ry; exact eq_int (fin_bl I q dec_int)
    | str j => obtain ⟨t', rfl⟩ := ry; exact PySem.EqMixed.eq_int_str (fin_bl I q (by simp))
    | _ => exact absurd (show false = true from hs) Bool.false_ne_true
  | str i =>
    obtain ⟨t, rfl⟩ := rx
    cases y with
    | non => cases ry; exact PySem.EqNone.eq_str_none (fin_bl I q (by simp))
    | bl j => cases ry; exact PySem.EqMixed.eq_str_bool (fin_bl I q (by simp))
    | int j => obtain ⟨t', rfl⟩ := ry; exact PySem.EqMixed.eq_str_int (fin_bl I q (by simp))
    | str j => obtain ⟨t', rfl⟩ := ry; exact eq_str (fin_bl I q dec_str)
    | _ => exact absurd (show false = true from hs) Bool.false_ne_true
  | byt i =>
    obtain ⟨t, rfl⟩ := rx
    cases y with
    | byt j => obtain ⟨t', rfl⟩ := ry; exact PySem.W.eq_bytes (fin_bl I q dec_byt)
    | _ => exact absurd (show false = true from hs) Bool.false_ne_true
  | _ => cases y <;> exact absurd (show false = true from hs) Bool.false_ne_true
theorem op_ne : OpR X (compareOp .NotEq) rNe := by
  intro pins s σ H x y v u Q I rx ry h
  obtain ⟨hs, q⟩ := h
  cases x with
  | non =>
    cases rx
    cases y with
    | non => cases ry; exact PySem.EqNone.ne_none_none (fin_bl I q (by simp))
    | bl j => cases ry; exact PySem.EqNone.ne_none_bool (fin_bl I q (by simp))
    | int j => obtain ⟨t', rfl⟩ := ry; exact PySem.EqNone.ne_none_int (fin_bl I q (by simp))
    | str j => obtain ⟨t', rfl⟩ := ry; exact PySem.EqNone.ne_none_str (fin_bl I q (by simp))
    | _ => exact absurd (show false = true from hs) Bool.false_ne_true
  | bl i =>
    cases rx
    cases y with
    | non => cases ry; exact PySem.EqNone.ne_bool_none (fin_bl I q (by simp))
    | bl j => cases ry; exact ne_bool (fin_bl I q (congrArg not dec_bl))
    | str j => obtain ⟨t', rfl⟩ := ry; exact PySem.EqMixed.ne_bool_str (fin_bl I q (by simp))
    | _ => exact absurd (show false = true from hs) Bool.false_ne_true
  | int i =>
    obtain ⟨t, rfl⟩ := rx
    cases y with
    | non => cases ry; exact PySem.EqNone.ne_int_none (fin_bl I q (by simp))
    | int j => obtain ⟨t', rfl⟩ := ry; exact ne_int (fin_bl I q (congrArg not dec_int))
    | str j => obtain ⟨t', rfl⟩ := ry; exact PySem.EqMixed.ne_int_str (fin_bl I q (by simp))
    | _ => exact absurd (show false = true from hs) Bool.false_ne_true
  | str i =>
    obtain ⟨t, rfl⟩ := rx
    cases y with
    | non => cases ry; exact PySem.EqNone.ne_str_none (fin_bl I q (by simp))
    | bl j => cases ry; exact PySem.EqMixed.ne_str_bool (fin_bl I q (by simp))
    | int j => obtain ⟨t', rfl⟩ := ry; exact PySem.EqMixed.ne_str_int (fin_bl I q (by simp))
    | str j => obtain ⟨t', rfl⟩ := ry; exact ne_str (fin_bl I q (congrArg not dec_str))
    | _ => exact absurd (show false = true from hs) Bool.false_ne_true
  | byt i =>
    obtain ⟨t, rfl⟩ := rx
    cases y with
    | byt j => obtain ⟨t', rfl⟩ := ry; exact PySem.W.ne_bytes (fin_bl I q (congrArg not dec_byt))
    | _ => exact absurd (show false = true from hs) Bool.false_ne_true
  | _ => cases y <;> exact absurd (show false = true from hs) Bool.false_ne_true
theorem op_lt : OpR X (compareOp .Lt) (rI0 fun i j => .bl (decide (i < j))) := opB0 fun _ _ _ _ _ _ _ q => lt_int q
theorem op_le : OpR X (compareOp .LtE) (rI0 fun i j => .bl (decide (i ≤ j))) := opB0 fun _ _ _ _ _ _ _ q => le_int q
theorem op_gt : OpR X (compareOp .Gt) (rI0 fun i j => .bl (decide (j < i))) := opB0 fun _ _ _ _ _ _ _ q => gt_int q
theorem op_ge : OpR X (compareOp .GtE) (rI0 fun i j => .bl (decide (j ≤ i))) := opB0 fun _ _ _ _ _ _ _ q => ge_int q
/-- is, is not of two objects that are tracked lists or instances -/
def isObj : HO → Bool
  | .lst _ => true
  | .ins _ _ _ => true
  | _ => false
theorem nomark (b : Expr) {op : CmpOp} (h : op ≠ .In := by decide) (h2 : op ≠ .NotIn := by decide) : behindInMarks op b = false := by
  have e1 : (op == CmpOp.In) = false := by cases op <;> first | rfl | exact absurd rfl h
  have e2 : (op == CmpOp.NotIn) = false := by cases op <;> first | rfl | exact absurd rfl h2
  cases b <;> simp [behindInMarks, e1, e2]
/-- a comparison as a value; hm: nomark b, or (for in, not in) by with_unfolding_all rfl -/
theorem pe_cmpR {op : CmpOp} {r : R2} (ho : OpR X (compareOp op) r) (ha : PE X a ta) (hb : PE X b tb) (hm : behindInMarks op b = false) : PE X (.Compare a [op] [b] pos) (tOp r ta tb) := by
  intro pins s σ H Q I h
  exact wpAny_Compare1 (binT ha hb I h fun v u s2 x y H2 I2 rx ry q => ho pins s2 σ H2 x y v u Q I2 rx ry q) hm
/-- a reading of a value as a test -/
def tTest (t : TE) : TT := fun σ H Q => t σ H fun x H' => ∃ k, x = .bl k ∧ Q k H'
theorem pt_cmpR {op : CmpOp} {r : R2} (ho : OpR X (compareOp op) r) (ha : PE X a ta) (hb : PE X b tb) (hm : behindInMarks op b = false) : PT X (.Compare a [op] [b] pos) (tTest (tOp r ta tb)) := by
  intro pins s σ H Q I h
  refine wpAny_isTrue_Compare1 (thn (ha pins s σ H _ I h) fun v s1 ⟨x, H1, I1, r1, q1⟩ => thn (hb pins s1 σ H1 _ I1 q1) fun u s2 ⟨y, H2, I2, r2, q2⟩ =>
    thn (ho pins s2 σ H2 x y v u _ I2 r1 r2 q2) fun c s3 ⟨z, H3, I3, r3, k, e, q3⟩ => ?_) hm
  subst e
  cases r3
  exact wpAny_truthy_bool ⟨H3, I3, q3⟩
/-- a op1 b op2 c -/
def tChain (r r' : R2) (ta tb tc : TE) : TE := fun σ H Q => ta σ H fun x H1 => tb σ H1 fun y H2 => r x y H2 fun z H3 => ∃ k, z = .bl k ∧
  (if k = true then tc σ H3 fun w' H4 => r' y w' H4 Q else Q (.bl false) H3)
/-- a value's truth by the abstract heap -/
def TruV (K : PySem.W.Frag) (x : V) (H : Hp) (k : Bool) : Prop :=
  match x with
  | .non => k = false
  | .bl b => k = b
  | .int i => k = (i != 0)
  | .str y => y.length ≤ sizeLine ∧ k = ((y.length : Int) != 0)
  | .byt y => y.size ≤ sizeLine ∧ k = ((y.size : Int) != 0)
  | .ref p => (∃ xs, SqL K H p xs ∧ k = !xs.isEmpty) ∨ (∃ xs, SqT K H p xs ∧ k = !xs.isEmpty) ∨ ∃ kvs, H p = some (.dK kvs) ∧ k = !kvs.isEmpty
  | _ => False
theorem line63 : (sizeLine : Nat) < 2 ^ 63 := by rw [sizeLine_eq]; decide
def PlainIxT (b : Expr) : Prop := ∀ o i, subscripted b false o i = operate [o, i] (getItem o i)
theorem vals1 {x : V} {us : List Value} (r : Vals [x] us) : ∃ u, us = [u] ∧ RelV x u := by
  cases r with
  | cons r1 r2 => cases r2; exact ⟨_, rfl, r1⟩
theorem call_abs : CallR X (.builtin "abs") (fun xs H Q => ∃ i, xs = [.int i] ∧ Q (.int (if i < 0 then -i else i)) H) := by
  intro pins s σ H xs us Q I r h
  obtain ⟨i, rfl, q⟩ := h
  obtain ⟨u, rfl, t, rfl⟩ := vals1 r
  exact call_abs_int fun u tk => ⟨.int (if i < 0 then -i else i), H, I.tok _, ⟨_, rfl⟩, q⟩
/-- len of a str, a bytes, a list, a tuple -/
def LenV (K : PySem.W.Frag) (x : V) (H : Hp) (n : Nat) : Prop :=
  match x with
  | .str y => y.length ≤ sizeLine ∧ n = y.length
  | .byt y => y.size ≤ sizeLine ∧ n = y.size
  | .ref p => (∃ xs, SqL K H p xs ∧ n = xs.length) ∨ ∃ xs, SqT K H p xs ∧ n = xs.length
  | _ => False
end
end L2
namespace L2
open PySem PySem.Spec PyProof.Rows
structure ObjM (h : Heap) (x dx C : Addr) (mA : Str → Option Value) : Prop where
  obj : h.get? x = some (PySem.W.instObj C dx)
  ns : h.Ns1 dx mA
  ne : dx ≠ x
theorem lookIn_ns {h : Heap} {dx : Addr} {mA : Str → Option Value} (n : h.Ns1 dx mA) : ∃ od, h.get? dx = some od ∧ ∀ name, PySem.W.lookIn name od = some (mA name) := by
  obtain ⟨o, es, ep, ho, hd, hk, _, hm⟩ := n
  refine ⟨o, ho, fun name => ?_⟩
  have e := hm name
  unfold nsFind findBy at e
  rw [← Array.find?_toList] at e
  unfold PySem.W.lookIn
  rw [hd]
  dsimp only
  split
  · rename_i y q
    rw [q] at e
    exact congrArg some e
  · rename_i q
    rw [q] at e
    have a : es.toList.any (·.refKey) = false := by
      rw [List.any_eq_false]
      intro y hy
      obtain ⟨z, t, hkey⟩ := hk y (Array.mem_toList_iff.mp hy)
      simp [DictEntry.refKey, hkey]
    have a' : ¬ es.toList.any (·.refKey) = true := by rw [a]; exact Bool.false_ne_true
    rw [if_neg a']
    exact congrArg some e
theorem ObjM.look {h : Heap} {x dx C : Addr} {mA : Str → Option Value} (I : ObjM h x dx C mA) : ∃ od, PySem.W.InstAt h x (PySem.W.instObj C dx) C (some od) ∧ ∀ name, PySem.W.lookIn name od = some (mA name) :=
  let ⟨od, ho, hl⟩ := lookIn_ns I.ns
  ⟨od, ⟨I.obj, rfl, rfl, ho⟩, hl⟩
section
variable {prog : Program} {w : World} {A : Around} {E : Value → Shared → Prop} {s : Shared} {K : PySem.W.Frag} {x dx C f : Addr} {mA : Str → Option Value} {name : Str} {v : Value}
theorem get_map {expr : Bool} {Q : Value → Shared → Prop} (X : K.In s.heap) (I : ObjM s.heap x dx C mA) (hg : PySem.W.plainGet K C name = true) (hh : PySem.W.hasDictIn K C = true)
    (ha : PySem.W.findIn K (.ref C) name = some none) (hv : mA name = some v) (hv' : PySem.W.handedIn v = true) (h : Q v { s with toks := s.toks + 1 }) :
    wpAny (model prog w) A (getAttr (.ref x) name expr) Q E s := by
  obtain ⟨od, J, hl⟩ := I.look
  exact PySem.W.get_value X J (PySem.W.plainGet_of hg).1 (PySem.W.findObj_own hh ha rfl (by rw [hl, hv])) hv' h
theorem set_map {ns : List Str} {Q : Unit → Shared → Prop} (X : K.In s.heap) (I : ObjM s.heap x dx C mA)
    (hs : PySem.W.findIn K (.ref C) "__setattr__" = some (some (.builtin "object.__setattr__"))) (hp : PySem.W.plainOver K C = true) (ht : PySem.W.takerIn K C name = some none) (hh : PySem.W.hasDictIn K C = true)
    (hw : PySem.Within mA ns) (hsz : ns.length ≤ sizeLine)
    (h : ∀ h', ObjM h' x dx C (fun y => if y = name then some v else mA y) → Heap.SameBut dx s.heap h' → Q () { s with heap := h', toks := s.toks + 2 }) :
    wpAny (model prog w) A (setAttr (.ref x) name v) Q E s := by
  obtain ⟨od, J, hl⟩ := I.look
  refine PySem.W.set_plain X J hs (PySem.W.osa_open (s := { s with toks := s.toks + 1 }) (r := none) X J hp ht fun b => ?_)
  obtain ⟨cd, hc, hd'⟩ := PySem.W.any_some hh
  have hx : s.heap.get? x = some ⟨.ref C, some dx, .plain, #[]⟩ := I.obj
  refine wpAny_bind (wpAny_pure (wpAny_bind (wpAny_bind (wpAny_loadPart hx (wpAny_bind (PySem.W.Looks.here (s := { s with toks := s.toks + 1 }) (PySem.W.looks_clsIn X hc) ?_))))))
  rw [hd']
  refine wpAny_pure (a := some dx) (wpAny_bind (wpAny_pure (wpAny_bind ?_)))
  refine wpAny_nsSet1 (s := { s with toks := s.toks + 1 }) I.ns fun h' hn2 hs2 => ?_
  obtain ⟨oD, esD, epD, hoD, hdD, hcD⟩ := hn2.count (PySem.Within.cons name v hw)
  refine wpAny_bind (wpAny_lookBehind hoD (by rw [hdD]; exact pastItsLine_dict (Nat.le_trans hcD (by rw [List.length_cons]; omega))) ?_)
  exact wpAny_pure (h _ ⟨(hs2.2 _ (Ne.symm I.ne)).trans I.obj, hn2, I.ne⟩ hs2)
/-- C(..): the dict at the heap's end, the instance behind it; then its __init__ -/
theorem make_map {R : Result → Shared → Prop} {vs : List Value} {kw : List (Str × Value)} (X : K.In s.heap) (hm : PySem.W.makesIn K C = true)
    (hi : PySem.W.findIn K (.ref C) "__init__" = some (some (.ref f))) (hf : PySem.W.typeIn K (.ref f) = some (.type "function"))
    (h : codeAny (model prog w) (A.under (.builtin "type.__call__" ⟨.ref C :: vs, kw⟩)) (.call (.ref f) ⟨.ref (s.heap.objs.size + 1) :: vs, kw⟩) (PySem.W.InitBack (s.heap.objs.size + 1) R)
      { s with heap := (s.heap.push PySem.W.emptyDict).push (PySem.W.instObj C s.heap.objs.size) }) :
    codeAny (model prog w) A (.call (.ref C) ⟨vs, kw⟩) R s := by
  obtain ⟨hh, g, d, t, os⟩ := s
  exact PySem.W.make_core (PySem.W.makes_of X hm) (PySem.W.looks_findIn X hi) (fun self => PySem.W.bind_fn X self hf) (.inl rfl) h
end
def putF (f : Str) (v : V) : List (Str × V) → List (Str × V)
  | [] => [(f, v)]
  | (g, x) :: r => if g = f then (g, v) :: r else (g, x) :: putF f v r
theorem lookup_putF (f g : Str) (v : V) : ∀ fs : List (Str × V), (putF f v fs).lookup g = if g = f then some v else fs.lookup g
  | [] => by
    show List.lookup g [(f, v)] = _
    by_cases h : g = f
    · have hb : (g == f) = true := beq_iff_eq.mpr h
      simp only [List.lookup, hb, if_pos h]
    · have hb : (g == f) = false := beq_eq_false_iff_ne.mpr h
      simp only [List.lookup, hb, if_neg h]
  | (k, x) :: r => by
    have ih := lookup_putF f g v r
    rw [show putF f v ((k, x) :: r) = (if k = f then (k, v) :: r else (k, x) :: putF f v r) from rfl]
    by_cases hk : k = f
    · rw [if_pos hk]
      by_cases h : g = k
      · have hb : (g == k) = true := beq_iff_eq.mpr h
        simp only [List.lookup, hb, if_pos (h.trans hk)]
      · have hb : (g == k) = false := beq_eq_false_iff_ne.mpr h
        simp only [List.lookup, hb, if_neg (fun e : g = f => h (e.trans hk.symm))]
    · rw [if_neg hk]
      by_cases h : g = k
      · have hb : (g == k) = true := beq_iff_eq.mpr h
        simp only [List.lookup, hb, if_neg (fun e : g = f => hk (h.symm.trans e))]
      · have hb : (g == k) = false := beq_eq_false_iff_ne.mpr h
        simp only [List.lookup, hb]
        exact ih
theorem keys_putF (f : Str) (v : V) : ∀ fs : List (Str × V), f ∈ (putF f v fs).map (·.1) ∧ ∀ g, g ∈ fs.map (·.1) → g ∈ (putF f v fs).map (·.1)
  | [] => ⟨by simp [putF], fun g h => by simp at h⟩
  | (k, x) :: r => by
    obtain ⟨i1, i2⟩ := keys_putF f v r
    rw [show putF f v ((k, x) :: r) = (if k = f then (k, v) :: r else (k, x) :: putF f v r) from rfl]
    by_cases hk : k = f
    · rw [if_pos hk]
      subst hk
      exact ⟨by simp, fun g h => by simpa using h⟩
    · rw [if_neg hk]
      refine ⟨?_, fun g h => ?_⟩
      · rw [List.map_cons]
        exact List.mem_cons_of_mem _ i1
      · rw [List.map_cons] at h ⊢
        rcases List.mem_cons.mp h with e | e
        · exact List.mem_cons.mpr (.inl e)
        · exact List.mem_cons_of_mem _ (i2 g e)
theorem length_putF (f : Str) (v : V) : ∀ fs : List (Str × V), (putF f v fs).length ≤ fs.length + 1
  | [] => by simp [putF]
  | (k, x) :: r => by
    have ih := length_putF f v r
    rw [show putF f v ((k, x) :: r) = (if k = f then (k, v) :: r else (k, x) :: putF f v r) from rfl]
    by_cases hk : k = f
    · rw [if_pos hk, List.length_cons, List.length_cons]; omega
    · rw [if_neg hk, List.length_cons, List.length_cons]; omega
theorem RelO.some_of {v : V} {o : Option Value} (r : RelO (some v) o) : ∃ u, o = some u ∧ RelV v u := by
  cases o with
  | none => exact (show False from r).elim
  | some u => exact ⟨u, rfl, r⟩
theorem handed_of {v : V} {u : Value} (r : RelV v u) : PySem.W.handedIn u = true := by
  cases v with
  | non => cases (show u = Value.none from r); rfl
  | bl b => cases (show u = Value.bool b from r); rfl
  | int i => obtain ⟨t, e⟩ := (show ∃ t, u = Value.int i t from r); cases e; rfl
  | str x => obtain ⟨t, e⟩ := (show ∃ t, u = Value.str x t from r); cases e; rfl
  | byt b => obtain ⟨t, e⟩ := (show ∃ t, u = Value.bytes b t from r); cases e; rfl
  | flt b => obtain ⟨t, e⟩ := (show ∃ t, u = Value.float b t from r); cases e; rfl
  | ref a => cases (show u = Value.ref a from r); rfl
  | ty n => cases (show u = Value.type n from r); rfl
section
variable {P : Program} {w : World} {H H' : Hp} {h h' : Heap} {a C dx : Addr} {fs fs' : List (Str × V)}
theorem ins_get (hok : HOk P w H h) (e : H a = some (.ins C dx fs)) : ∃ mA, ObjM h a dx C mA ∧ (∀ f, RelO (fs.lookup f) (mA f)) ∧ PySem.Within mA (fs.map (·.1)) ∧ fs.length ≤ 1000 ∧ H dx = some (.own a) := by
  obtain ⟨d, z, ne, ob, mA, n, r, q⟩ := (show ObjOk P w H h a (.ins C dx fs) from hok a _ e)
  exact ⟨mA, ⟨ob, n, ne⟩, r, q, z, d⟩
end
structure Cls (K : PySem.W.Frag) (C : Addr) : Prop where
  pg : PySem.W.plainGet K C Str.empty = true
  hd : PySem.W.hasDictIn K C = true
  po : PySem.W.plainOver K C = true
  sa : PySem.W.findIn K (.ref C) "__setattr__" = some (some (.builtin "object.__setattr__"))
theorem Cls.get {K : PySem.W.Frag} {C : Addr} (c : Cls K C) (f : Str) : PySem.W.plainGet K C f = true := c.pg
/-- no class of it has the name -/
def NoAttr (K : PySem.W.Frag) (C : Addr) (f : Str) : Prop := PySem.W.findIn K (.ref C) f = some none
theorem NoAttr.taker {K : PySem.W.Frag} {C : Addr} {f : Str} (n : NoAttr K C f) : PySem.W.takerIn K C f = some none := by
  unfold PySem.W.takerIn
  rw [show PySem.W.findIn K (.ref C) f = some none from n]
  rfl
/-- a constant of the class -/
structure Con (K : PySem.W.Frag) (C : Addr) (f : Str) (v : V) (u : Value) : Prop where
  at_ : PySem.W.findIn K (.ref C) f = some (some u)
  rel : RelV v u
  get : PySem.W.specialIn K u "__get__" = some none
  cp : PySem.W.copiedNames.contains f = false
/-- a method: a plain def of the class or of one above it -/
structure Meth (K : PySem.W.Frag) (C : Addr) (m : Str) (f : Addr) : Prop where
  at_ : PySem.W.findIn K (.ref C) m = some (some (.ref f))
  fn : PySem.W.isFn K (.ref f) = true
  kp : PySem.W.keepIn K (.ref f) = true
section
variable {X : Cx} {pins : List (Addr × Obj)} {σ : St} {H : Hp} {s : Shared} {a C dx : Addr} {fs : List (Str × V)} {f : Str} {v : V} {A : Around} {E : Value → Shared → Prop}
theorem getattr_ok {b : Bool} {Q : Value → Shared → Prop} (I : Inv X pins σ H s) (e : H a = some (.ins C dx fs)) (c : Cls X.K C) (n : NoAttr X.K C f) (l : fs.lookup f = some v)
    (h : ∀ u s', Inv X pins σ H s' → RelV v u → Q u s') : wpAny (model X.prog X.w) A (getAttr (.ref a) f b) Q E s := by
  obtain ⟨mA, O, r, _, _, _⟩ := ins_get I.hok e
  obtain ⟨u, hu, ru⟩ := RelO.some_of (v := v) (o := mA f) (by rw [← l]; exact r f)
  exact get_map I.kIn O (c.get f) c.hd n hu (handed_of ru) (h u _ (I.tok _) ru)
theorem setattr_ok {y : V} {u : Value} {Q : Unit → Shared → Prop} (I : Inv X pins σ H s) (e : H a = some (.ins C dx fs)) (c : Cls X.K C) (n : NoAttr X.K C f) (hl : fs.length < 1000) (ry : RelV y u)
    (h : ∀ s', Inv X pins σ (upd H a (.ins C dx (putF f y fs))) s' → Q () s') : wpAny (model X.prog X.w) A (setAttr (.ref a) f u) Q E s := by
  obtain ⟨mA, O, r, wi, _, ho⟩ := ins_get I.hok e
  have hz : (fs.map (·.1)).length ≤ sizeLine := by rw [List.length_map, sizeLine_eq]; omega
  refine set_map I.kIn O c.sa c.po n.taker c.hd wi hz fun h' O' sb => h _ ?_
  have hd : ∃ o, h'.get? dx = some o := let ⟨o, _, _, e', _⟩ := O'.ns; ⟨o, e'⟩
  refine I.write (x := a) (e := dx) (by rw [e]; exact True.intro) (.inr ho) (fun b q hb z => (sb.2 b hb).trans z) hd ?_
  refine ⟨by rw [upd_ne O.ne]; exact ho, ?_, O.ne, O'.obj, _, O'.ns, fun g => ?_, fun g hg => ?_⟩
  · have := length_putF f y fs; omega
  · show RelO ((putF f y fs).lookup g) (if g = f then some u else mA g)
    rw [lookup_putF]
    by_cases q : g = f
    · rw [if_pos q, if_pos q]; exact ry
    · rw [if_neg q, if_neg q]; exact r g
  · by_cases q : g = f
    · rw [q]; exact (keys_putF f y fs).1
    · refine (keys_putF f y fs).2 g (wi g fun z => hg ?_)
      show (if g = f then some u else mA g) = none
      rw [if_neg q]; exact z
/-- a new instance, tracked, without attributes -/
theorem Inv.made (I : Inv X pins σ H s) : Inv X pins σ (upd (upd H s.heap.objs.size (.own (s.heap.objs.size + 1))) (s.heap.objs.size + 1) (.ins C s.heap.objs.size []))
    { s with heap := (s.heap.push PySem.W.emptyDict).push (PySem.W.instObj C s.heap.objs.size) } := by
  have e1 : (s.heap.push PySem.W.emptyDict).get? s.heap.objs.size = some PySem.W.emptyDict := Heap.get?_push_size s.heap rfl
  have e2 : ((s.heap.push PySem.W.emptyDict).push (PySem.W.instObj C s.heap.objs.size)).get? (s.heap.objs.size + 1) = some (PySem.W.instObj C s.heap.objs.size) := by
    have := Heap.get?_push_size (s.heap.push PySem.W.emptyDict) (o := PySem.W.instObj C s.heap.objs.size) rfl
    rwa [Heap.size_push] at this
  have e3 : (s.heap.push PySem.W.emptyDict).Ns s.heap.objs.size (fun _ => none) := ⟨PySem.W.emptyDict, #[], _, e1, rfl, (fun e he => absurd he (by simp)), fun _ => rfl⟩
  have I1 := I.laid (a := s.heap.objs.size) (o := .own (s.heap.objs.size + 1)) (h' := s.heap.push PySem.W.emptyDict) (t' := s.toks) (fun b u q => Heap.get?_push_of_some _ q) (Nat.le_refl _) ⟨_, e1⟩
  refine I1.laid (a := s.heap.objs.size + 1) (o := .ins C s.heap.objs.size []) (t' := s.toks) (fun b u q => Heap.get?_push_of_some _ q) (Nat.le_of_eq (Heap.size_push _ _)) ?_
  have ne : s.heap.objs.size ≠ s.heap.objs.size + 1 := Nat.ne_of_lt (Nat.lt_succ_self _)
  refine ⟨by rw [upd_ne ne, upd_same], Nat.zero_le _, ne, e2, fun _ => none, (Heap.Ns1.of_empty e3).at fun o q => Heap.get?_push_of_some _ q, fun _ => True.intro, fun y hy => absurd rfl hy⟩
/-- e.f where nothing but the object is asked: through attributeBase (super) and the last hold -/
theorem attr_of {prog : Program} {w : World} {env : Env} {e : Expr} {f : Str} {pos : Pos} {s : Shared} {Q : Value → Shared → Prop} (hb : attributeBase e f env (eval e env) = eval e env)
    (h : wpAny (model prog w) A (eval e env) (fun o s₁ => wpAny (model prog w) A (getAttr o f true) Q E s₁) E s) : wpAny (model prog w) A (eval (.Attribute e f pos) env) Q E s :=
  Attribute_any_ h (by rw [arm_eval_Attribute, hb])
end
/-- e.f, an attribute of the instance -/
def tFld (K : PySem.W.Frag) (ta : TE) (f : Str) : TE := fun σ H Q => ta σ H fun x H1 => ∃ a C dx fs v, x = .ref a ∧ H1 a = some (.ins C dx fs) ∧ Cls K C ∧ NoAttr K C f ∧ fs.lookup f = some v ∧ Q v H1
/-- e.f, a constant of the class -/
def tCon (K : PySem.W.Frag) (ta : TE) (f : Str) : TE := fun σ H Q => ta σ H fun x H1 => ∃ a C dx fs v u, x = .ref a ∧ H1 a = some (.ins C dx fs) ∧ Cls K C ∧ Con K C f v u ∧ fs.lookup f = none ∧ Q v H1
/-- e.f = value -/
def sFld (K : PySem.W.Frag) (ta tv : TE) (f : Str) : TS := fun D σ H => tv σ H fun y H1 => ta σ H1 fun x H2 => ∃ a C dx fs, x = .ref a ∧ H2 a = some (.ins C dx fs) ∧ Cls K C ∧ NoAttr K C f ∧ fs.length < 1000 ∧
  D.nx σ (upd H2 a (.ins C dx (putF f y fs)))
/-- an augmented operator on two values -/
def InOp (X : Cx) (op : Operator) (rd : V → V → Hp → VK → Prop) : Prop :=
  ∀ (pins : List (Addr × Obj)) (s : Shared) (σ : St) (H : Hp) (x y : V) (u v : Value) (Q : VK), Inv X pins σ H s → RelV x u → RelV y v → rd x y H Q → wpAny (model X.prog X.w) X.A (inplaceOp op u v) (EP X pins σ Q) X.xe s
/-- e.f op= value -/
def sFldAug (K : PySem.W.Frag) (ta tv : TE) (rd : V → V → Hp → VK → Prop) (f : Str) : TS := fun D σ H => ta σ H fun x H1 => ∃ a C dx fs v, x = .ref a ∧ H1 a = some (.ins C dx fs) ∧ Cls K C ∧ NoAttr K C f ∧ fs.lookup f = some v ∧
  tv σ H1 fun y H2 => rd v y H2 fun z H3 => ∃ dx' fs', H3 a = some (.ins C dx' fs') ∧ fs'.length < 1000 ∧ D.nx σ (upd H3 a (.ins C dx' (putF f z fs')))
section
variable {X : Cx} {o e value : Expr} {f : Str} {pos pos' tpos : Pos} {ta tv : TE}
theorem pe_fld (he : PE X e ta) (hb : attributeBase e f X.env (eval e X.env) = eval e X.env) : PE X (.Attribute e f pos) (tFld X.K ta f) := by
  intro pins s σ H Q I h
  refine attr_of hb (thn (he pins s σ H _ I h) fun u s1 ⟨x, H1, I1, rx, a, C, dx, fs, v, ex, ea, c, n, l, q⟩ => ?_)
  subst ex
  obtain rfl : u = Value.ref a := rx
  exact getattr_ok I1 ea c n l fun u' s2 I2 ru => ⟨v, H1, I2, ru, q⟩
theorem ps_fld (ha : PE X o ta) (hv : PE X value tv) (hs : swapsWith value (some (.Attribute o f pos')) pos.line X.env = pure false) : PS X (.Assign [.Attribute o f pos'] value pos) (sFld X.K ta tv f) := by
  intro pins s σ H D I h
  refine plainObj_wpAny_Assign_Attribute (thn (hv pins s σ H _ I h) fun u s1 ⟨y, H1, I1, ry, q⟩ => thn (ha pins s1 σ H1 _ I1 q) fun ov s2 ⟨x, H2, I2, rx, a, C, dx, fs, ex, ea, c, n, l, q2⟩ => ?_) hs
  subst ex
  obtain rfl : ov = Value.ref a := rx
  exact setattr_ok I2 ea c n l ry fun s3 I3 => ⟨σ, _, I3, q2⟩
theorem ps_fldaug {op : Operator} {rd : V → V → Hp → VK → Prop} (ha : PE X o ta) (hv : PE X value tv) (hop : InOp X op rd) : PS X (.AugAssign (.Attribute o f tpos) op value pos) (sFldAug X.K ta tv rd f) := by
  intro pins s σ H D I h
  refine wpAny_AugAssign_AttributeAny (thn (ha pins s σ H _ I h) fun ov s1 ⟨x, H1, I1, rx, a, C, dx, fs, v, ex, ea, c, n, l, q⟩ => ?_)
  subst ex
  obtain rfl : ov = Value.ref a := rx
  refine getattr_ok I1 ea c n l fun u s2 I2 ru => thn (hv pins s2 σ H1 _ I2 q) fun w3 s3 ⟨y, H2, I3, ry, q3⟩ => thn (hop pins s3 σ H2 v y u w3 _ I3 ru ry q3) fun w4 s4 ⟨z, H3, I4, rz, dx', fs', ea', l', q4⟩ => ?_
  exact setattr_ok I4 ea' c n l' rz fun s5 I5 => ⟨σ, _, I5, q4⟩
def rAdd : V → V → Hp → VK → Prop := fun x y H Q => ∃ i j, x = .int i ∧ y = .int j ∧ Q (.int (i + j)) H
def rSub : V → V → Hp → VK → Prop := fun x y H Q => ∃ i j, x = .int i ∧ y = .int j ∧ Q (.int (i - j)) H
theorem in_add : InOp X .Add rAdd := by
  rintro pins s σ H x y u v Q I rx ry ⟨i, j, rfl, rfl, q⟩
  obtain ⟨t, rfl⟩ := (show ∃ t, u = Value.int i t from rx)
  obtain ⟨t', rfl⟩ := (show ∃ t', v = Value.int j t' from ry)
  exact PyProof.Rows.iadd_int ⟨.int (i + j), H, I.tok _, ⟨_, rfl⟩, q⟩
theorem in_sub : InOp X .Sub rSub := by
  rintro pins s σ H x y u v Q I rx ry ⟨i, j, rfl, rfl, q⟩
  obtain ⟨t, rfl⟩ := (show ∃ t, u = Value.int i t from rx)
  obtain ⟨t', rfl⟩ := (show ∃ t', v = Value.int j t' from ry)
  exact PyProof.Rows.isub_int ⟨.int (i - j), H, I.tok _, ⟨_, rfl⟩, q⟩
end
section
variable {X : Cx} {pins : List (Addr × Obj)} {σ : St} {H : Hp} {s : Shared} {A : Around} {E : Value → Shared → Prop} {Q : Value → Shared → Prop} {c : Value} {b : Bool}
/-- the type of a value, as the fragment's deciders take it; for an instance its class -/
inductive TyOf (K : PySem.W.Frag) (H : Hp) : V → Value → Prop where
  | non : TyOf K H .non (.type "NoneType")
  | bl (x : Bool) : TyOf K H (.bl x) (.type "bool")
  | int (i : Int) : TyOf K H (.int i) (.type "int")
  | str (x : Str) : TyOf K H (.str x) (.type "str")
  | flt (x : UInt64) : TyOf K H (.flt x) (.type "float")
  | lst {a : Addr} {xs : List V} (e : H a = some (.lst xs)) : TyOf K H (.ref a) (.type "list")
  | frz {a : Addr} {o : Obj} {xs : List V} (e : H a = some (.frz o (.lst xs))) : TyOf K H (.ref a) (.type "list")
  | tup {a : Addr} {xs : List V} (e : H a = some (.tup xs)) : TyOf K H (.ref a) (.type "tuple")
  | dK {a : Addr} {kvs : List (Key × V)} (e : H a = some (.dK kvs)) : TyOf K H (.ref a) (.type "dict")
  | dT {a : Addr} {kvs : List (List Key × V)} (e : H a = some (.dT kvs)) : TyOf K H (.ref a) (.type "dict")
  | ins {a C dx : Addr} {fs : List (Str × V)} (e : H a = some (.ins C dx fs)) (cl : Cls K C) (ha : PySem.W.findIn K (.ref C) "__class__" = some (some (.builtin "object.__class__")))
      (hn : PySem.W.specialIn K (.builtin "object.__class__") "__get__" = some (some (.builtin "getset_descriptor.__get__"))) (htk : PySem.W.takesIn K (.builtin "object.__class__") = some true)
      (hm : PySem.W.mroIn K C (.type "object") = some true) : TyOf K H (.ref a) (.ref C)
end
end L2
namespace L2
open PySem PySem.Spec PyProof.Rows
structure Room (k : Nat) (A : Around) : Prop where
  hd : A.handled = none
  dp : A.depth + 3 * k + 5 < recursionLimit
  un : A.units + 16 * k + 200 < cLine
theorem Room.mono {j k : Nat} {A : Around} (r : Room k A) (h : j ≤ k) : Room j A := ⟨r.hd, by have := r.dp; omega, by have := r.un; omega⟩
theorem Room.deeper {k : Nat} {A : Around} (r : Room (k + 1) A) (env : Env) : Room k (A.deeper env) :=
  ⟨r.hd, by have := r.dp; show A.depth + 1 + 3 * k + 5 < _; omega, by have := r.un; show A.units + 3 + 16 * k + 200 < _; omega⟩
theorem make_depth {A : Around} {C : Addr} {us : List Value} {kw : List (Str × Value)} : (A.under (.builtin "type.__call__" ⟨.ref C :: us, kw⟩)).depth = A.depth + 1 := by
  first | rfl | simp [Around.under, Code.weight, Code.isCreation, Code.isGuard, Code.isCaller, Code.frames, Code.isFrame, guardIds]
theorem make_units {A : Around} {C : Addr} {us : List Value} {kw : List (Str × Value)} : (A.under (.builtin "type.__call__" ⟨.ref C :: us, kw⟩)).units = A.units + 1 := by
  first | rfl | simp [Around.under, Code.cUnits, Code.frames, Code.isFrame]
theorem Room.make {k : Nat} {A : Around} (r : Room (k + 1) A) (C : Addr) (us : List Value) (kw : List (Str × Value)) : Room k (A.under (.builtin "type.__call__" ⟨.ref C :: us, kw⟩)) :=
  ⟨r.hd, by have := r.dp; rw [make_depth]; omega, by have := r.un; rw [make_units]; omega⟩
theorem Room.depth {k : Nat} {A : Around} (r : Room k A) : A.depth < recursionLimit := by have := r.dp; omega
def tNil : TA := fun _ H Q => Q [] H
def tCons (ta : TE) (tr : TA) : TA := fun σ H Q => ta σ H fun x H1 => tr σ H1 fun xs H2 => Q (x :: xs) H2
section
variable {X : Cx} {e : Expr} {es : List Expr} {te : TE} {t : TA} {pos : Pos}
theorem pa_nil : PA X [] tNil := fun _ _ _ _ H Q I h => Calls.spliced_nil ⟨[], H, I, .nil, h⟩
theorem pa_cons (ha : PE X e te) (hr : PA X es t) (hs : starEach (e :: es) X.env = (false, eval e X.env) :: starEach es X.env := by rfl) : PA X (e :: es) (tCons te t) := by
  intro pos pins s σ H Q I h
  rw [hs]
  show wpAny _ _ (spliced ((false, eval e X.env) :: backTo pos (starEach es X.env))) _ _ s
  refine Calls.spliced_cons (thn (ha pins s σ H _ I h) fun u s1 ⟨x, H1, I1, r1, q1⟩ => ?_)
  exact thn (hr pos pins s1 σ H1 _ I1 q1) fun us s2 ⟨xs, H2, I2, r2, q2⟩ => ⟨x :: xs, H2, I2, .cons r1 r2, q2⟩
/-- a tuple, a list of written items -/
def tTup (t : TA) : TE := fun σ H Q => t σ H fun xs H1 => xs.length ≤ sizeLine ∧ ∀ p, H1 p = none → Q (.ref p) (upd H1 p (.tup xs))
def tLst (t : TA) : TE := fun σ H Q => t σ H fun xs H1 => xs.length ≤ sizeLine ∧ ∀ p, H1 p = none → Q (.ref p) (upd H1 p (.lst xs))
theorem pe_tup {x1} (h : PA X es t) : PE X (.Tuple es x1 pos) (tTup t) := by
  intro pins s σ H Q I hq
  refine wpAny_Tuple_spliced (thn (h pos pins s σ H _ I hq) fun us s1 ⟨xs, H1, I1, r, z, q⟩ => ⟨by rw [← r.length]; exact z, ?_⟩)
  have hf : H1 s1.heap.objs.size = none := I1.hok.fresh (Nat.le_refl _)
  refine ⟨.ref s1.heap.objs.size, upd H1 s1.heap.objs.size (.tup xs), I1.laid (t' := s1.toks) (fun b u e => Heap.get?_push_of_some _ e) (Nat.le_refl _) ?_, rfl, q _ hf⟩
  exact ⟨z, us, r, ⟨_, Heap.get?_push_size _ rfl, rfl, _, rfl⟩⟩
theorem pe_lst (h : PA X es t) : PE X (.List es pos) (tLst t) := by
  intro pins s σ H Q I hq
  refine wpAny_List_spliced (thn (h pos pins s σ H _ I hq) fun us s1 ⟨xs, H1, I1, r, z, q⟩ => ⟨by rw [← r.length]; exact z, ?_⟩)
  have hf : H1 s1.heap.objs.size = none := I1.hok.fresh (Nat.le_refl _)
  refine ⟨.ref s1.heap.objs.size, upd H1 s1.heap.objs.size (.lst xs), I1.laid (t' := s1.toks) (fun b u e => Heap.get?_push_of_some _ e) (Nat.le_refl _) ?_, rfl, q _ hf⟩
  exact ⟨z, us, 0, r, Heap.get?_push_size _ rfl⟩
end
/-- a def's promise: the bound arguments in the parameters' order, the heap, the wanted end, the wanted exception -/
abbrev Sp := List V → Hp → VK → XK → Prop
/-- how an exception lies behind a call (file 08 gives it): the callers' frames, abstract heap and state ahead of the call, the wish, the exception, the state -/
abbrev CXT := List Env → Hp → Shared → XK → Value → Shared → Prop
/-- the state at a call -/
structure Env0 (P : Program) (w : World) (K : PySem.W.Frag) (mg : Str → Option Value) (base : Heap) (A : Around) (outer : List Env) (s : Shared) (H : Hp) : Prop where
  frames : A.frames = some outer
  mod : Mod K mg base
  bs : ∀ b o, base.get? b = some o → s.heap.get? b = some o ∧ H b = none
  bsz : base.objs.size ≤ s.heap.objs.size
  funs : s.heap.FunFrames base outer
  frf : ∀ b ∈ frs outer, H b = none
  hok : HOk P w H s.heap
  bare : AllBare s.gens
/-- a call's end -/
def CE (outer : List Env) (P : Program) (w : World) (H : Hp) (s : Shared) (Q : VK) (u : Value) (s' : Shared) : Prop :=
  ∃ v H', s'.os = s.os ∧ AllBare s'.gens ∧ Un (frs outer) [] H H' s.heap s'.heap ∧ HOk P w H' s'.heap ∧ RelV v u ∧ Q v H'
def CR (CX : CXT) (outer : List Env) (P : Program) (w : World) (H : Hp) (s : Shared) (Q : VK) (E : XK) (r : Result) (s' : Shared) : Prop :=
  match r with
  | .ok (.ret u) => CE outer P w H s Q u s'
  | .ok _ => False
  | .error e => CX outer H s E e s'
structure FnOk (P : Program) (w : World) (K : PySem.W.Frag) (mg : Str → Option Value) (base : Heap) (CX : CXT) (k : Nat) (f : Addr) (fd : FuncData) (ps : List Str) (sp : Sp) : Prop where
  len : ∀ vs H Q E, sp vs H Q E → vs.length = ps.length
  run : ∀ (A : Around) (outer : List Env) (s : Shared) (H : Hp) (args : Args) (us : List Value) (vs : List V) (Q : VK) (E : XK), Room k A → Env0 P w K mg base A outer s H → BindsTo s fd args (ps.zip us) → Vals vs us → sp vs H Q E →
    codeAny (model P w) A (.call (.ref f) args) (CR CX outer P w H s Q E) s
theorem Env0.make {P : Program} {w : World} {K : PySem.W.Frag} {mg : Str → Option Value} {base : Heap} {A : Around} {outer : List Env} {s : Shared} {H : Hp} (e : Env0 P w K mg base A outer s H) (C : Addr) (us : List Value) (kw : List (Str × Value)) :
    Env0 P w K mg base (A.under (.builtin "type.__call__" ⟨.ref C :: us, kw⟩)) outer s H := ⟨by first | exact e.frames | (simpa [Around.under, Code.envs, Code.isFrame, pushEnvs] using e.frames), e.mod, e.bs, e.bsz, e.funs, e.frf, e.hok, e.bare⟩
section
variable {X : Cx} {pins : List (Addr × Obj)} {σ : St} {H : Hp} {s s' : Shared}
/-- from a body: what a callee wants -/
theorem Inv.env0 (I : Inv X pins σ H s) : Env0 X.prog X.w X.K X.mg X.base X.A X.stack s H :=
  ⟨I.ok.frames, I.ok.mod, I.bs, Nat.le_trans I.ok.bsz I.sz, I.stack, I.stkFree, I.hok, I.bare⟩
/-- behind a call -/
theorem Inv.after {Q : VK} {u : Value} (I : Inv X pins σ H s) (h : CE X.stack X.prog X.w H s Q u s') : EP X pins σ Q u s' := by
  obtain ⟨v, H', os, bare, un, hok, r, q⟩ := h
  obtain ⟨hh, g, d, t, os'⟩ := s'
  obtain rfl : os' = s.os := os
  exact ⟨v, H', I.call (h' := hh) (g' := g) (d' := d) (t' := t) (ch := []) un hok bare (fun b z => absurd z (by simp)), r, q⟩
end
/-- f(..): the written arguments, then the defaults dvs; E: what is wanted of an exception -/
def tCall (sp : Sp) (dvs : List V) (E : XK) (t : TA) : TE := fun σ H Q => t σ H fun vs H1 => sp (vs ++ dvs) H1 Q E
/-- o.m(..) of an instance of the class at C -/
def tMeth (C : Addr) (m : Str) (sp : Sp) (dvs : List V) (E : XK) (ta : TE) (t : TA) : TE := fun σ H Q => ta σ H fun x H1 => ∃ a dx fs, x = .ref a ∧ H1 a = some (.ins C dx fs) ∧ fs.lookup m = none ∧
  t σ H1 fun vs H2 => sp (x :: (vs ++ dvs)) H2 Q E
/-- C(..): a new instance and its dict, then __init__ -/
def tMake (C : Addr) (sp : Sp) (dvs : List V) (E : XK) (t : TA) : TE := fun σ H Q => t σ H fun vs H1 => ∀ x dx, H1 x = none → H1 dx = none → dx ≠ x →
  sp (.ref x :: (vs ++ dvs)) (upd (upd H1 dx (.own x)) x (.ins C dx [])) (fun v H2 => v = .non ∧ Q (.ref x) H2) E
/-- how the parameters are bound: us the positional arguments, kw the keywords' values by name, ds the defaults that fill up -/
def Binds (K : PySem.W.Frag) (fd : FuncData) (ps : List Str) (ds : List Value) : Prop :=
  ∀ (s : Shared) (us : List Value), K.In s.heap → (us ++ ds).length = ps.length → BindsTo s fd ⟨us, []⟩ (ps.zip (us ++ ds))
/-- every parameter is given -/
theorem Binds.all {K : PySem.W.Frag} {fd : FuncData} {ps : List Str} (h : ∀ us : List Value, us.length = ps.length → bindArgs fd ⟨us, []⟩ = pure (ps.zip us)) : Binds K fd ps [] := fun s us _ hl => by
  rw [List.append_nil] at hl ⊢
  exact .of_eq (h us hl)
/-- an exception of a callee reaches what this body wants of exceptions -/
def Passes (CX : CXT) (X : Cx) (E : XK) : Prop := ∀ (pins : List (Addr × Obj)) (σ : St) (H : Hp) (s : Shared) (e : Value) (s' : Shared), Inv X pins σ H s → CX X.stack H s E e s' → X.xe e s'
section
variable {X : Cx} {CX : CXT} {k : Nat} {f C : Addr} {fd : FuncData} {ps : List Str} {sp : Sp} {dvs : List V} {ds : List Value} {E : XK} {x m : Str} {p pos apos : Pos} {e o : Expr} {es : List Expr} {ta : TE} {t : TA}
/-- the callee runs -/
theorem run_fn {pins : List (Addr × Obj)} {σ : St} {H : Hp} {s : Shared} {Q : VK} {us : List Value} {vs : List V} (F : FnOk X.prog X.w X.K X.mg X.base CX k f fd ps sp) (hr : Room k X.A) (hb : Binds X.K fd ps ds) (hd : Vals dvs ds) (hx : Passes CX X E)
    (I : Inv X pins σ H s) (r : Vals vs us) (h : sp (vs ++ dvs) H Q E) : wpAny (model X.prog X.w) X.A (call (.ref f) us) (EP X pins σ Q) X.xe s := by
  have r2 : Vals (vs ++ dvs) (us ++ ds) := r.append hd
  have hl : (us ++ ds).length = ps.length := by rw [← r2.length]; exact F.len _ _ _ _ h
  refine wpAny_call (codeAny_mono (F.run X.A X.stack s H ⟨us, []⟩ (us ++ ds) (vs ++ dvs) Q E hr I.env0 (hb s us I.kIn hl) r2 h) fun r s' hq => ?_)
  cases r with
  | error e => exact hx pins σ H s e s' I hq
  | ok fl =>
    cases fl with
    | ret u => exact I.after hq
    | next => exact False.elim hq
    | brk => exact False.elim hq
    | cont => exact False.elim hq
theorem pe_call (F : FnOk X.prog X.w X.K X.mg X.base CX k f fd ps sp) (hr : Room k X.A) (hg : Gl X x) (hm : X.mg x = some (.ref f)) (hk : PySem.W.keepIn X.K (.ref f) = true) (hb : Binds X.K fd ps ds) (hd : Vals dvs ds) (hx : Passes CX X E)
    (ha : PA X (e :: es) t) (hdb : (x == ("__debug__" : Str)) = false := by decide) (he : starEach (e :: es) X.env = (false, eval e X.env) :: starEach es X.env := by rfl) (hpl : (backTo pos (starEach es X.env)).any (·.1) = false := by rfl) :
    PE X (.Call (.Name x p) (e :: es) [] pos) (tCall sp dvs E t) := by
  intro pins s σ H Q I h
  refine wpAny_Call_Name_kw (ld_glob I hg hm ?_ hdb)
  refine PySem.W.callWith_K (h₀ := X.base) I.ok.mod.kin hk (thn (ha pos pins s σ H _ I h) fun us s1 ⟨vs, H1, I1, r, q⟩ => ⟨I1.kIn, ?_⟩) he hpl
  exact run_fn F hr hb hd hx I1 r q
theorem pe_call0 (F : FnOk X.prog X.w X.K X.mg X.base CX k f fd ps sp) (hr : Room k X.A) (hg : Gl X x) (hm : X.mg x = some (.ref f)) (hk : PySem.W.keepIn X.K (.ref f) = true) (hb : Binds X.K fd ps ds) (hd : Vals dvs ds) (hx : Passes CX X E)
    (hdb : (x == ("__debug__" : Str)) = false := by decide) : PE X (.Call (.Name x p) [] [] pos) (tCall sp dvs E tNil) := by
  intro pins s σ H Q I h
  refine wpAny_Call_Name_kw (ld_glob I hg hm ?_ hdb)
  exact PySem.W.callWith_K0 I.kIn hk (run_fn (us := []) F hr hb hd hx I .nil h)
/-- what a class must have to be made -/
structure Mk (K : PySem.W.Frag) (C f : Addr) : Prop where
  makes : PySem.W.makesIn K C = true
  init : PySem.W.findIn K (.ref C) "__init__" = some (some (.ref f))
  fn : PySem.W.isFn K (.ref f) = true
  kp : PySem.W.keepIn K (.ref C) = true
theorem run_make {pins : List (Addr × Obj)} {σ : St} {H : Hp} {s : Shared} {Q : VK} {us : List Value} {vs : List V} (M : Mk X.K C f) (F : FnOk X.prog X.w X.K X.mg X.base CX k f fd ps sp) (hr : Room (k + 1) X.A) (hb : Binds X.K fd ps ds) (hd : Vals dvs ds)
    (hx : Passes CX X E) (I : Inv X pins σ H s) (r : Vals vs us)
    (h : ∀ x dx, H x = none → H dx = none → dx ≠ x → sp (.ref x :: (vs ++ dvs)) (upd (upd H dx (.own x)) x (.ins C dx [])) (fun v H2 => v = .non ∧ Q (.ref x) H2) E) :
    wpAny (model X.prog X.w) X.A (call (.ref C) us) (EP X pins σ Q) X.xe s := by
  have hq := h (s.heap.objs.size + 1) s.heap.objs.size (I.hok.fresh (Nat.le_succ _)) (I.hok.fresh (Nat.le_refl _)) (Nat.ne_of_lt (Nat.lt_succ_self _))
  have I2 := Inv.made (C := C) I
  have r2 : Vals (V.ref (s.heap.objs.size + 1) :: (vs ++ dvs)) (Value.ref (s.heap.objs.size + 1) :: (us ++ ds)) := .cons rfl (r.append hd)
  have hl : (Value.ref (s.heap.objs.size + 1) :: us ++ ds).length = ps.length := by
    have e := r2.length
    rw [F.len _ _ _ _ hq] at e
    exact e.symm
  refine wpAny_call (make_map (f := f) I.kIn M.makes M.init (beq_iff_eq.mp M.fn) (codeAny_mono (F.run _ X.stack _ _ ⟨Value.ref (s.heap.objs.size + 1) :: us, []⟩ (Value.ref (s.heap.objs.size + 1) :: (us ++ ds)) _ _ E (hr.make C us [])
    (I2.env0.make C us []) (hb _ (Value.ref (s.heap.objs.size + 1) :: us) I2.kIn hl) r2 hq) fun r s' hq' => ?_))
  cases r with
  | error e => exact hx pins σ _ _ e s' I2 hq'
  | ok fl =>
    cases fl with
    | ret u =>
      obtain ⟨v, H', I3, rv, ev, q3⟩ := I2.after hq'
      subst ev
      exact ⟨rv, ⟨V.ref (s.heap.objs.size + 1), H', I3, rfl, q3⟩⟩
    | next => exact False.elim hq'
    | brk => exact False.elim hq'
    | cont => exact False.elim hq'
theorem pe_make0 (M : Mk X.K C f) (F : FnOk X.prog X.w X.K X.mg X.base CX k f fd ps sp) (hr : Room (k + 1) X.A) (hg : Gl X x) (hm : X.mg x = some (.ref C)) (hb : Binds X.K fd ps ds) (hd : Vals dvs ds) (hx : Passes CX X E)
    (hdb : (x == ("__debug__" : Str)) = false := by decide) : PE X (.Call (.Name x p) [] [] pos) (tMake C sp dvs E tNil) := by
  intro pins s σ H Q I h
  refine wpAny_Call_Name_kw (ld_glob I hg hm ?_ hdb)
  exact PySem.W.callWith_K0 I.kIn M.kp (run_make (us := []) M F hr hb hd hx I .nil h)
end
/-- the values of the keywords, from the left -/
def PK (X : Cx) (kws : List Keyword) (t : TA) : Prop :=
  ∀ (pos : Pos) (pins : List (Addr × Obj)) (s : Shared) (σ : St) (H : Hp) (Q : List V → Hp → Prop), Inv X pins σ H s → t σ H Q → wpAny (model X.prog X.w) X.A (evalAll ((backToKw pos (keywordEach kws X.env)).map (·.2))) (AP X pins σ Q) X.xe s
section
variable {X : Cx} {CX : CXT} {k : Nat} {f C : Addr} {fd : FuncData} {ps ks : List Str} {sp : Sp} {E : XK} {x m : Str} {p pos apos kpos : Pos} {e o : Expr} {es : List Expr} {kws : List Keyword} {te ta : TE} {t tk : TA} {nm : Option Str}
/-- how a call with keywords binds: g puts the positional values us and the keywords' values ws (names ks) in the parameters' order, defaults among them -/
structure KBinds (K : PySem.W.Frag) (fd : FuncData) (ps ks : List Str) (g : List Value → List Value → List Value) (gV : List V → List V → List V) : Prop where
  to : ∀ (s : Shared) (us ws : List Value), K.In s.heap → (g us ws).length = ps.length → BindsTo s fd ⟨us, ks.zip ws⟩ (ps.zip (g us ws))
  rel : ∀ {vs : List V} {us : List Value} {zs : List V} {ws : List Value}, Vals vs us → Vals zs ws → Vals (gV vs zs) (g us ws)
def tCallK (sp : Sp) (gV : List V → List V → List V) (E : XK) (t tk : TA) : TE := fun σ H Q => t σ H fun vs H1 => tk σ H1 fun zs H2 => sp (gV vs zs) H2 Q E
variable {g : List Value → List Value → List Value} {gV : List V → List V → List V}
end
/-- names: the parameters first -/
structure FnScope (N P : List Str) (sc : Scope) : Prop where
  kind : sc.kind = .function
  co : sc.isCoroutine = false
  gen : sc.isGenerator = false
  nd : N.Nodup
  pre : N.take P.length = P
  par : ∀ x ∈ P, sc.names.lookup x = some .local ∨ sc.names.lookup x = some .cell
  nofree : ∀ y ∈ sc.names, y.2 ≠ .free
theorem bindL_out {kindOf : Str → Option NameKind} {x : Str} : ∀ {binds : List (Str × Value)} {m : Str → Option Value}, (∀ v, (x, v) ∉ binds) → bindL kindOf binds m x = m x
  | [], _, _ => rfl
  | (n, v) :: r, m, h => by
    unfold bindL
    rw [bindL_out fun w hw => h w (List.mem_cons_of_mem _ hw)]
    split
    · have : x ≠ n := by rintro rfl; exact h v List.mem_cons_self
      simp [this]
    · rfl
theorem bindC_out {kindOf : Str → Option NameKind} {x : Str} : ∀ {binds : List (Str × Value)} {m : Str → Option Value}, (∀ v, (x, v) ∉ binds) → bindC kindOf binds m x = m x
  | [], _, _ => rfl
  | (n, v) :: r, m, h => by
    unfold bindC
    rw [bindC_out fun w hw => h w (List.mem_cons_of_mem _ hw)]
    split
    · rfl
    · have : x ≠ n := by rintro rfl; exact h v List.mem_cons_self
      simp [this]
theorem bindL_get {kindOf : Str → Option NameKind} {x : Str} {v : Value} : ∀ {P : List Str} {vs : List Value} {i : Nat} {m : Str → Option Value}, P.Nodup → P[i]? = some x → vs[i]? = some v → kindOf x = some .local →
    bindL kindOf (P.zip vs) m x = some v
  | [], _, _, _, _, h, _, _ => by simp at h
  | _ :: _, [], _, _, _, _, h, _ => by simp at h
  | p :: P, w :: vs, 0, m, nd, h1, h2, hk => by
    simp at h1 h2; subst h1; subst h2
    show bindL kindOf ((p, w) :: P.zip vs) m p = _
    unfold bindL
    rw [bindL_out fun v hv => (List.nodup_cons.mp nd).1 (List.of_mem_zip hv).1, if_pos hk]
    simp
  | p :: P, w :: vs, i + 1, m, nd, h1, h2, hk => by
    show bindL kindOf ((p, w) :: P.zip vs) m x = _
    unfold bindL
    exact bindL_get (i := i) (List.nodup_cons.mp nd).2 (by simpa using h1) (by simpa using h2) hk
theorem bindC_get {kindOf : Str → Option NameKind} {x : Str} {v : Value} : ∀ {P : List Str} {vs : List Value} {i : Nat} {m : Str → Option Value}, P.Nodup → P[i]? = some x → vs[i]? = some v → kindOf x ≠ some .local →
    bindC kindOf (P.zip vs) m x = some v
  | [], _, _, _, _, h, _, _ => by simp at h
  | _ :: _, [], _, _, _, _, h, _ => by simp at h
  | p :: P, w :: vs, 0, m, nd, h1, h2, hk => by
    simp at h1 h2; subst h1; subst h2
    show bindC kindOf ((p, w) :: P.zip vs) m p = _
    unfold bindC
    rw [bindC_out fun v hv => (List.nodup_cons.mp nd).1 (List.of_mem_zip hv).1, if_neg hk]
    simp
  | p :: P, w :: vs, i + 1, m, nd, h1, h2, hk => by
    show bindC kindOf ((p, w) :: P.zip vs) m x = _
    unfold bindC
    exact bindC_get (i := i) (List.nodup_cons.mp nd).2 (by simpa using h1) (by simpa using h2) hk
/-- the names' values at the entry -/
def start (N : List Str) (vs : List V) : St := vs.map some ++ List.replicate (N.length - vs.length) none
/-- the context of a def's body, at its entry; an exception leaves the frame, then lies as CX says -/
def cxOf (CX : CXT) (P : Program) (w : World) (K : PySem.W.Frag) (mg : Str → Option Value) (base : Heap) (N : List Str) (qual : Str) (scope : Scope) (f : Addr) (cd : Value) (A : Around) (outer : List Env) (s : Shared) (H : Hp) (E : XK) : Cx where
  prog := P
  w := w
  K := K
  mg := mg
  base := base
  A := A.deeper (envOfC qual scope s.heap.objs.size f cd)
  N := N
  s_0 := s
  H_0 := H
  env := envOfC qual scope s.heap.objs.size f cd
  outer := outer
  stack := envOfC qual scope s.heap.objs.size f cd :: outer
  ex := []
  calm := true
  fn := fun _ => true
  pn := []
  xe := fun e s' => wpAny (model P w) (A.deeper (envOfC qual scope s.heap.objs.size f cd)) (leaving (envOfC qual scope s.heap.objs.size f cd) e) (fun _ s'' => CX outer H s E e s'') (fun e' s'' => CX outer H s E e' s'') s'
theorem cell_has {sc : Scope} {n : Nat} {x : Str} (h : sc.names.lookup x = some .cell) : ∃ c, (cellsFrom n sc.names []).lookup x = some c := by
  have q := PySem.W.cellsFrom_some sc.names n [] (.inl h)
  exact Option.isSome_iff_exists.mp q
theorem inv_start {CX : CXT} {P : Program} {w : World} {K : PySem.W.Frag} {mg : Str → Option Value} {base : Heap} {N ps : List Str} {qual : Str} {scope : Scope} {f : Addr} {cd : Value} {A : Around} {outer : List Env} {s s1 : Shared} {H : Hp} {E : XK} {us : List Value} {vs : List V}
    (S : FnScope N ps scope) (hd : A.handled = none) (e0 : Env0 P w K mg base A outer s H) (hl : vs.length = ps.length) (r : Vals vs us)
    (x : InCallC s s.heap.objs.size (bindL (envOfC qual scope s.heap.objs.size f cd).kindOf (ps.zip us) fun _ => none) (cellsFrom (s.heap.objs.size + 1) scope.names []) (bindC (envOfC qual scope s.heap.objs.size f cd).kindOf (ps.zip us) fun _ => none) s1) :
    Inv (cxOf CX P w K mg base N qual scope f cd A outer s H E) [] (start N vs) H s1 := by
  have hpl : ps.length ≤ N.length := by have := congrArg List.length S.pre; rw [List.length_take] at this; omega
  obtain ⟨h1, tk, rfl, hk⟩ := x.done
  have noA : ∀ b : Addr, b ∉ (cxOf CX P w K mg base N qual scope f cd A outer s H E).ex := fun b z => absurd (show b ∈ ([] : List Addr) from z) (by simp)
  refine ⟨⟨e0.mod, S.kind, rfl, rfl, Nat.le_refl _, fun y z c h1 h2 => ?_, fun y hy => ?_, fun y c _ h => ?_, fun _ => hd, Around.frames_deeper e0.frames, .inr ⟨rfl, rfl⟩, fun b z => absurd z (noA b), e0.bs, e0.bsz, fun b _ _ => noA b, fun b z => absurd z (noA b), e0.funs, e0.frf⟩,
    rfl, e0.bare, Un.kept hk, ⟨_, x.toInCall.ns, fun i y v h1 h2 h3 => ?_⟩, fun y c h => ⟨_, x.cell y c h⟩, e0.hok.fresh (Nat.le_refl _), fun y c h => ?_, fun p hp => absurd (show p ∈ ([] : List (Addr × Obj)) from hp) (by simp), e0.hok.kept hk, ?_⟩
  · exact name_of_addr x.apart (PySem.mem_of_lookup h1) (PySem.mem_of_lookup h2)
  · have hy : scope.names.lookup y = some .cell ∨ scope.names.lookup y = some .free := hy
    rcases hy with hy | hy
    · exact cell_has hy
    · exact absurd rfl (S.nofree _ (PySem.mem_of_lookup hy))
  · exact Nat.le_of_lt (x.above y c (PySem.mem_of_lookup h))
  · have hi : i < vs.length := by
      unfold start at h2
      by_cases hi : i < vs.length
      · exact hi
      · rw [List.getElem?_append_right (by simpa using hi)] at h2
        rw [List.getElem?_replicate] at h2
        split at h2 <;> cases h2
    have ha : vs[i]? = some v := by
      unfold start at h2
      rw [List.getElem?_append_left (by simpa using hi), List.getElem?_map] at h2
      cases e : vs[i]? with
      | none => rw [e] at h2; cases h2
      | some a => rw [e] at h2; cases h2; rfl
    obtain ⟨u, hu, rv⟩ := r.get ha
    have hp : ps[i]? = some y := by
      rw [← S.pre, List.getElem?_take_of_lt (by omega)]; exact h1
    have ndP : ps.Nodup := by rw [← S.pre]; exact S.nd.sublist (List.take_sublist _ _)
    refine ⟨u, rv, ?_⟩
    rcases S.par y (List.mem_of_getElem? hp) with k | k
    · exact .inl ⟨k, bindL_get ndP hp hu k⟩
    · obtain ⟨c, e⟩ := cell_has (n := s.heap.objs.size + 1) k
      refine .inr ⟨.inl k, c, e, ?_⟩
      have q := x.cell y c e
      rw [bindC_get ndP hp hu (by show scope.names.lookup y ≠ _; rw [k]; decide)] at q
      exact q
  · exact e0.hok.fresh (Nat.le_of_lt (x.above y c (PySem.mem_of_lookup h)))
  · unfold start
    show _ = N.length
    rw [List.length_append, List.length_map, List.length_replicate]
    omega
/-- THE RULE: a def (or a method) of the text, by its body. The body's reading t is chosen for each entry; it is run at the parameters' values -/
theorem fn_of {CX : CXT} {P : Program} {w : World} {K : PySem.W.Frag} {mg : Str → Option Value} {base : Heap} {k : Nat} {f : Addr} {name qual : Str} {params : Arguments} {body : List Stmt} {scope : Scope} {dV kV doc pm cdv ct oc : Value} {an od : Option Addr}
    {osl : Array (Option Value)} {N ps : List Str} {sp : Sp} (lk : K.lookup f = some ⟨oc, od, .func (PySem.W.fnOf name qual params body scope dV kV doc pm an cdv ct), osl⟩) (hcd : PySem.W.codeIn K cdv qual = true) (S : FnScope N ps scope)
    (len : ∀ vs H Q E, sp vs H Q E → vs.length = ps.length)
    (hbody : ∀ (A : Around) (outer : List Env) (s : Shared) (H : Hp) (vs : List V) (Q : VK) (E : XK), Room k (A.deeper (envOfC qual scope s.heap.objs.size f cdv)) → sp vs H Q E →
      ∃ t, PSs (cxOf CX P w K mg base N qual scope f cdv A outer s H E) body t ∧ t { nx := fun _ H' => Q .non H', rt := Q } (start N vs) H) :
    FnOk P w K mg base CX (k + 1) f (PySem.W.fnOf name qual params body scope dV kV doc pm an cdv ct) ps sp := by
  refine ⟨len, fun A outer s H args us vs Q E hr e0 hb r hsp => ?_⟩
  have hl := len _ _ _ _ hsp
  have KX : K.In s.heap := e0.mod.kin.keeps fun b o e => (e0.bs b o e).1
  have lim : s.heap.NoLimit := e0.mod.nolimit.keeps fun b o e => (e0.bs b o e).1
  have hkind : ∀ y ∈ ps.zip us, scope.names.lookup y.1 = some .local ∨ (scope.names.lookup y.1 = some .cell ∧ ((cellsFrom (s.heap.objs.size + 1) scope.names []).lookup y.1).isSome = true) := fun ⟨n, v⟩ hy => by
    rcases S.par n (List.of_mem_zip hy).1 with q | q
    · exact .inl q
    · exact .inr ⟨q, PySem.W.cellsFrom_some _ _ _ (.inl q)⟩
  refine codeAny_call_function hr.depth (KX _ _ lk) rfl S.co S.gen rfl (PySem.W.codeRec_of KX hcd) (hb _ _ _ _ ?_)
  refine wpAny_newFunctionEnv_cells S.kind hkind fun env he s1 x => ?_
  subst he
  refine ⟨lim.keeps x.toInCall.keep, codeAny_func ?_⟩
  obtain ⟨t, ht, hq⟩ := hbody A outer s H vs Q E (hr.deeper _) hsp
  have I : Inv (cxOf CX P w K mg base N qual scope f cdv A outer s H E) [] (start N vs) H s1 := inv_start S hr.hd e0 hl r x
  refine wpAny_mono (ht [] s1 (start N vs) H _ I hq) (fun fl s' hs => ?_) fun e s' hs => hs
  have fin : ∀ {σ' : St} {H' : Hp} {v : V} {u : Value}, Inv (cxOf CX P w K mg base N qual scope f cdv A outer s H E) [] σ' H' s' → RelV v u → Q v H' → CE outer P w H s Q u s' :=
    fun {σ' H' v u} J rv q => ⟨v, H', J.os, J.bare, J.base, J.hok, rv, q⟩
  cases fl with
  | ret u =>
    obtain ⟨v, σ', H', J, rv, q⟩ := hs
    exact fin J rv q
  | next =>
    obtain ⟨σ', H', J, q⟩ := hs
    exact fin (v := V.non) (u := Value.none) J rfl q
  | brk =>
    obtain ⟨_, _, _, q⟩ := hs
    exact False.elim q
  | cont =>
    obtain ⟨_, _, _, q⟩ := hs
    exact False.elim q
end L2
namespace L2
open PySem PySem.Spec PyProof.Rows
section
variable {X : Cx} {x : Str} {p pos : Pos} {e : Expr} {es : List Expr} {t : TA} {id T : String} {r : List V → Hp → VK → Prop}
def tCB (r : List V → Hp → VK → Prop) (t : TA) : TE := fun σ H Q => t σ H fun vs H1 => r vs H1 Q
/-- f(e, ..), f a built-in function -/
theorem pe_callB (hc : CallR X (.builtin id) r) (hg : Gl X x) (hm : X.mg x = none) (hv : bootBuiltins x = some (.builtin id)) (ha : PA X (e :: es) t) (hn : x ≠ "__name__" := by decide) (hdb : (x == ("__debug__" : Str)) = false := by decide)
    (he : starEach (e :: es) X.env = (false, eval e X.env) :: starEach es X.env := by rfl) (hpl : (backTo pos (starEach es X.env)).any (·.1) = false := by rfl) : PE X (.Call (.Name x p) (e :: es) [] pos) (tCB r t) := by
  intro pins s σ H Q I h
  refine wpAny_Call_Name_kw (ld_blt I hg hm hv ?_ hn hdb)
  exact PyProof.Rows.callWith_builtin1 (thn (ha pos pins s σ H _ I h) fun us s1 ⟨vs, H1, I1, r1, q1⟩ => hc pins s1 σ H1 vs us Q I1 r1 q1) he hpl
/-- T(e, ..), T a built-in type -/
theorem pe_callTy (hc : CallR X (.type T) r) (hg : Gl X x) (hm : X.mg x = none) (hv : bootBuiltins x = some (.type T)) (ha : PA X (e :: es) t) (hn : x ≠ "__name__" := by decide) (hdb : (x == ("__debug__" : Str)) = false := by decide)
    (he : starEach (e :: es) X.env = (false, eval e X.env) :: starEach es X.env := by rfl) (hpl : (backTo pos (starEach es X.env)).any (·.1) = false := by rfl) : PE X (.Call (.Name x p) (e :: es) [] pos) (tCB r t) := by
  intro pins s σ H Q I h
  refine wpAny_Call_Name_kw (ld_blt I hg hm hv ?_ hn hdb)
  exact PyProof.Rows.callWith_type1 (thn (ha pos pins s σ H _ I h) fun us s1 ⟨vs, H1, I1, r1, q1⟩ => hc pins s1 σ H1 vs us Q I1 r1 q1) he hpl
end
end L2
namespace HT
open PySem PyProof.Rows
/-- t < u of tuples of ints -/
def lexLt : List Int → List Int → Bool
  | [], [] => false
  | [], _ :: _ => true
  | _ :: _, [] => false
  | x :: xs, y :: ys => if x = y then lexLt xs ys else decide (x < y)
section
open PySem.SeqAt
open PySem.AutoSeq1 (wpAny_loadPart')
open PySem.MeetsSeq PySem.MeetsSeq2 PySem.MeetsSeq3
end
section
variable {prog : Program} {w : World} {A : Around} {E : Value → Shared → Prop} {s : Shared}
/-- a slice's bound as a place among n (d where it is left out) -/
def sIx (n d : Nat) : Option Int → Nat
  | none => d
  | some v => if v < 0 then (v + (n : Int)).toNat else min v.toNat n
theorem sIx_nat (n d k : Nat) : sIx n d (some (k : Int)) = min k n := by
  show (if (k : Int) < 0 then ((k : Int) + (n : Int)).toNat else min (k : Int).toNat n) = min k n
  rw [if_neg (by omega), Int.toNat_natCast]
end
end HT
namespace L2
open PySem PySem.Spec PyProof.Rows
abbrev TO := St → Hp → (Option Int → Hp → Prop) → Prop
/-- a slice's part (left out, or an int) -/
def PO (X : Cx) (e : Option Expr) (t : TO) : Prop :=
  ∀ (pins : List (Addr × Obj)) (s : Shared) (σ : St) (H : Hp) (Q : Option Int → Hp → Prop), Inv X pins σ H s → t σ H Q →
    wpAny (model X.prog X.w) X.A (evalPart e X.env) (fun u s' => ∃ o H', Inv X pins σ H' s' ∧ IsPart u o ∧ Q o H') X.xe s
def tNoPart : TO := fun _ H Q => Q none H
def tPart (t : TE) : TO := fun σ H Q => t σ H fun x H1 => ∃ i, x = .int i ∧ Q (some i) H1
section
variable {X : Cx} {e : Expr} {te : TE} {lo hi : Option Expr} {tl th : TO} {pos p2 : Pos}
theorem po_none : PO X none tNoPart := by
  intro pins s σ H Q I h
  rw [evalPart_none]
  exact wpAny_pure ⟨none, H, I, .none, h⟩
theorem po_some (h : PE X e te) : PO X (some e) (tPart te) := by
  intro pins s σ H Q I hw
  rw [evalPart_some]
  refine thn (h pins s σ H _ I hw) fun u s1 ⟨x, H1, I1, r1, q1⟩ => ?_
  obtain ⟨i, rfl, q⟩ := q1
  obtain ⟨t, rfl⟩ := r1
  exact ⟨some i, H1, I1, .int i t, q⟩
/-- what a slice of a value is, by values: the slice object stands at sl -/
def SlR (X : Cx) (r : V → Option Int → Option Int → Hp → VK → Prop) : Prop :=
  ∀ (pins : List (Addr × Obj)) (s : Shared) (σ : St) (H : Hp) (x : V) (v vl vu : Value) (lo hi : Option Int) (sl : Addr) (Q : VK), Inv X pins σ H s → RelV x v → s.heap.IsSliceOf sl vl vu .none → IsPart vl lo → IsPart vu hi → r x lo hi H Q →
    ∃ T id, typeLookup (.type T) "__getitem__" = pure (some (.builtin id)) ∧ s.TypeIs v T ∧ wpAny (model X.prog X.w) X.A (getItem v (.ref sl)) (EP X pins σ Q) X.xe s
def tSl (r : V → Option Int → Option Int → Hp → VK → Prop) (te : TE) (tl th : TO) : TE := fun σ H Q => te σ H fun x H1 => tl σ H1 fun l H2 => th σ H2 fun u H3 => r x l u H3 Q
/-- a[lo:hi], any a -/
theorem pe_slice {r : V → Option Int → Option Int → Hp → VK → Prop} (hr : SlR X r) (he : PE X e te) (hl : PO X lo tl) (hu : PO X hi th) : PE X (.Subscript e (.Slice lo hi none p2) pos) (tSl r te tl th) := by
  intro pins s σ H Q I h
  refine Subscript_ (thn (he pins s σ H _ I h) fun v s1 ⟨x, H1, I1, r1, q1⟩ => ?_)
  refine wpAny_Slice (thn (hl pins s1 σ H1 _ I1 q1) fun vl s2 ⟨l, H2, I2, pl, q2⟩ => thn (hu pins s2 σ H2 _ I2 q2) fun vu s3 ⟨u, H3, I3, pu, q3⟩ => ?_)
  rw [evalPart_none]
  refine wpAny_pure ?_
  have I4 : Inv X pins σ H3 { s3 with heap := s3.heap.push { cls := .type "slice", data := .fields #[vl, vu, .none] } } := I3.kept (t' := s3.toks) fun b ob q => Heap.get?_push_of_some _ q
  obtain ⟨T, id, hT, ht, hg⟩ := hr pins { s3 with heap := s3.heap.push { cls := .type "slice", data := .fields #[vl, vu, .none] } } σ H3 x v vl vu l u s3.heap.objs.size Q I4 r1 (Heap.IsSliceOf.new ..) pl pu q3
  show wpAny (model X.prog X.w) X.A (subscriptTail e (.Slice lo hi none p2) v (.ref s3.heap.objs.size)) (EP X pins σ Q) X.xe { s3 with heap := s3.heap.push { cls := .type "slice", data := .fields #[vl, vu, .none] } }
  exact tail_any (ops := [.ref s3.heap.objs.size, v]) ht hT hg (by with_unfolding_all rfl)
/-- the items of xs[lo:hi] -/
def cutV (xs : List V) (lo hi : Option Int) : List V := (xs.drop (HT.sIx xs.length 0 lo)).take (HT.sIx xs.length xs.length hi - HT.sIx xs.length 0 lo)
theorem cutV_length (xs : List V) (lo hi : Option Int) : (cutV xs lo hi).length ≤ xs.length := by
  unfold cutV
  rw [List.length_take, List.length_drop]
  omega
/-- t[lo:hi], not the whole of it (the whole would be t itself) -/
def rSlT (K : PySem.W.Frag) : V → Option Int → Option Int → Hp → VK → Prop := fun x lo hi H Q => ∃ a xs, x = .ref a ∧ SqT K H a xs ∧
  ¬ (HT.sIx xs.length 0 lo = 0 ∧ HT.sIx xs.length xs.length hi = xs.length) ∧ ∀ p, H p = none → Q (.ref p) (upd H p (.tup (cutV xs lo hi)))
def rLtT (K : PySem.W.Frag) : R2 := fun x y H Q => ∃ a b ns ms, x = .ref a ∧ y = .ref b ∧ SqT K H a (ns.map V.int) ∧ SqT K H b (ms.map V.int) ∧ Q (.bl (HT.lexLt ns ms)) H
/-- t + u, t not empty: u empty gives t itself -/
def rCatT (K : PySem.W.Frag) : R2 := fun x y H Q => ∃ a b xs ys, x = .ref a ∧ y = .ref b ∧ SqT K H a xs ∧ SqT K H b ys ∧ xs ≠ [] ∧ xs.length + ys.length ≤ sizeLine ∧
  (ys = [] → Q (.ref a) H) ∧ (ys ≠ [] → ∀ p, H p = none → Q (.ref p) (upd H p (.tup (xs ++ ys))))
end
end L2
namespace L2
open PySem PySem.Spec PyProof.Rows
/-- the place that an index of any sign means -/
def ixN (n : Nat) (i : Int) : Option Nat := if 0 ≤ i then (if i < n then some i.toNat else none) else if -(n : Int) ≤ i then some (i + n).toNat else none
def atI {α : Type} (xs : List α) (i : Int) : Option α := (ixN xs.length i).bind fun j => xs[j]?
theorem ixN_seq {n : Nat} {i : Int} {j : Nat} (h : ixN n i = some j) : seqIndex? i n = some j ∧ j < n ∧ -(n : Int) ≤ i ∧ i < n := by
  unfold ixN at h
  by_cases h0 : 0 ≤ i
  · rw [if_pos h0] at h
    by_cases h1 : i < n
    · rw [if_pos h1] at h
      have e : i.toNat = j := Option.some.inj h
      exact ⟨by rw [seqIndex_of h0 h1, e], by omega, by omega, h1⟩
    · rw [if_neg h1] at h; cases h
  · rw [if_neg h0] at h
    by_cases h1 : -(n : Int) ≤ i
    · rw [if_pos h1] at h
      have e : (i + n).toNat = j := Option.some.inj h
      exact ⟨by rw [seqIndex_neg (by omega) h1, e], by omega, h1, by omega⟩
    · rw [if_neg h1] at h; cases h
theorem atI_get {α : Type} {xs : List α} {i : Int} {v : α} (h : atI xs i = some v) : ∃ j, seqIndex? i xs.length = some j ∧ xs[j]? = some v ∧ j < xs.length ∧ -(xs.length : Int) ≤ i ∧ i < xs.length := by
  unfold atI at h
  cases e : ixN xs.length i with
  | none => rw [e] at h; cases h
  | some j =>
    rw [e] at h
    obtain ⟨h1, h2, h3, h4⟩ := ixN_seq e
    exact ⟨j, h1, h, h2, h3, h4⟩
theorem atI_nat {α : Type} {xs : List α} {j : Nat} {v : α} (h : xs[j]? = some v) : atI xs (j : Int) = some v := by
  have hj : j < xs.length := (List.getElem?_eq_some_iff.mp h).1
  have e : ixN xs.length (j : Int) = some j := by
    unfold ixN
    rw [if_pos (by omega), if_pos (by omega)]; simp
  unfold atI; rw [e]; exact h
/-- what stands as an index of a plain subscript -/
def PlainIx (b : Expr) : Prop := ∀ o i, subscripted b false o i = operate [o, i] (getItem o i)
/-- a subscript by values -/
def IxR (X : Cx) (r : R2) : Prop :=
  ∀ (value slice : Expr) (pins : List (Addr × Obj)) (s : Shared) (σ : St) (H : Hp) (x y : V) (v u : Value) (Q : VK), Inv X pins σ H s → RelV x v → RelV y u → r x y H Q →
    subscripted slice false v u = operate [v, u] (getItem v u) → wpAny (model X.prog X.w) X.A (subscriptTail value slice v u) (EP X pins σ Q) X.xe s
/-- a call of a builtin's method by values: the receiver, the arguments -/
def MtR (X : Cx) (id : String) (r : V → List V → Hp → VK → Prop) : Prop :=
  ∀ (pins : List (Addr × Obj)) (s : Shared) (σ : St) (H : Hp) (x : V) (xs : List V) (v : Value) (us : List Value) (Q : VK), Inv X pins σ H s → RelV x v → Vals xs us → r x xs H Q →
    wpAny (model X.prog X.w) X.A (call (.builtin id) (v :: us)) (EP X pins σ Q) X.xe s
section
variable {X : Cx} {a b : Expr} {ta tb : TE} {pos : Pos}
/-- a[b] -/
theorem pe_ix {r : R2} (hr : IxR X r) (ha : PE X a ta) (hb : PE X b tb) (hs : PlainIx b) : PE X (.Subscript a b pos) (tOp r ta tb) := by
  intro pins s σ H Q I h
  exact Subscript_ (binT ha hb I h fun v u s2 x y H2 I2 rx ry q => hr a b pins s2 σ H2 x y v u Q I2 rx ry q (hs _ _))
def rIxL (K : PySem.W.Frag) : R2 := fun x y H Q => ∃ p xs i v, x = .ref p ∧ y = .int i ∧ SqL K H p xs ∧ atI xs i = some v ∧ Q v H
def rIxT (K : PySem.W.Frag) : R2 := fun x y H Q => ∃ p xs i v, x = .ref p ∧ y = .int i ∧ SqT K H p xs ∧ atI xs i = some v ∧ Q v H
def rIxS : R2 := fun x y H Q => ∃ z i c, x = .str z ∧ y = .int i ∧ z.length ≤ sizeLine ∧ atI z.cps.toList i = some c ∧ Q (.str ⟨#[c]⟩) H
theorem ix_list : IxR X (rIxL X.K) := by
  intro value slice pins s σ H x y v u Q I rx ry h hs
  obtain ⟨p, xs, i, z, rfl, rfl, hq, he, q⟩ := h
  cases rx
  obtain ⟨t, rfl⟩ := ry
  obtain ⟨its, r, pl, hz⟩ := I.list hq
  obtain ⟨j, h1, h2, h3, h4, h5⟩ := atI_get he
  obtain ⟨w, ew, rw'⟩ := r.get h2
  have hl := r.length
  have hn := line63
  have fin : EP X pins σ Q w s := ⟨z, H, I, rw', q⟩
  by_cases h0 : 0 ≤ i
  · have hj : i.toNat = j := by
      rw [seqIndex_of h0 h5] at h1
      exact Option.some.inj h1
    exact item_listR pl.isList h0 (by omega) (by rw [hj]; simpa using ew) fin hs
  · have hj : (i + (its.toArray.size : Int)).toNat = j := by
      rw [seqIndex_neg (by omega) h4] at h1
      rw [List.size_toArray, ← hl]
      exact Option.some.inj h1
    exact subscriptTail_builtinR (x := w) pl.isList.typeIs slot_list_getitem.lookup
      (wpAny_getItem_list_neg (Q := fun r s' => r = w ∧ EP X pins σ Q r s') pl.isList (by omega) (by rw [List.size_toArray] <;> omega) (by omega) (by rw [hj]; simpa using ew) ⟨rfl, fin⟩) hs
theorem ix_tup : IxR X (rIxT X.K) := by
  intro value slice pins s σ H x y v u Q I rx ry h hs
  obtain ⟨p, xs, i, z, rfl, rfl, hq, he, q⟩ := h
  cases rx
  obtain ⟨t, rfl⟩ := ry
  obtain ⟨its, r, pl, hz⟩ := I.tuple hq
  obtain ⟨j, h1, h2, h3, h4, h5⟩ := atI_get he
  obtain ⟨w, ew, rw'⟩ := r.get h2
  have hl := r.length
  have hn := line63
  have fin : EP X pins σ Q w s := ⟨z, H, I, rw', q⟩
  exact subscriptTail_builtinR (x := w) pl.typeIs slot_tuple_getitem.lookup
    (getItem_tuple (j := j) (Q := fun r s' => r = w ∧ EP X pins σ Q r s') pl (by omega) (by omega) (by rw [List.size_toArray, ← hl]; exact h1) (by simpa using ew) ⟨rfl, fin⟩) hs
/-- list, tuple or str -/
def rIx (K : PySem.W.Frag) : R2 := fun x y H Q => rIxL K x y H Q ∨ rIxT K x y H Q ∨ rIxS x y H Q
/-- the list's object behind a store -/
theorem mapSeq_set (its : List Value) (n j : Nat) (u : Value) : Obj.mapSeq (·.setIfInBounds j u) { cls := .type "list", data := .seq its.toArray n } = { cls := .type "list", data := .seq (its.set j u).toArray n } := by
  simp [Obj.mapSeq]
theorem Inv.lst {pins : List (Addr × Obj)} {σ : St} {H : Hp} {s : Shared} {p : Addr} {xs : List V} (I : Inv X pins σ H s) (h : H p = some (.lst xs)) :
    ∃ (its : List Value) (n : Nat), Vals xs its ∧ s.heap.get? p = some { cls := .type "list", data := .seq its.toArray n } ∧ xs.length ≤ sizeLine := by
  obtain ⟨z, its, n, r, e⟩ := I.hok p _ h
  exact ⟨its, n, r, e, z⟩
/-- the list at p is written by an update of its object -/
theorem Inv.lstUpd {pins : List (Addr × Obj)} {σ : St} {H : Hp} {s : Shared} {p : Addr} {xs ys : List V} {its its' : List Value} {n n' : Nat} {f : Obj → Obj} (I : Inv X pins σ H s) (h : H p = some (.lst xs))
    (ho : s.heap.get? p = some { cls := .type "list", data := .seq its.toArray n }) (hf : f { cls := .type "list", data := .seq its.toArray n } = { cls := .type "list", data := .seq its'.toArray n' }) (r : Vals ys its') (hz : ys.length ≤ sizeLine) (t : Nat) :
    Inv X pins σ (upd H p (.lst ys)) { s with heap := s.heap.update p f, toks := t } := by
  have e : (s.heap.update p f).get? p = some { cls := .type "list", data := .seq its'.toArray n' } := by
    rw [Heap.get?_update_self f ho (by rw [hf] <;> rfl), hf]
  refine I.write (x := p) (e := p) (by rw [h]; trivial) (.inl rfl) (fun b u hb q => (Heap.get?_update_other _ _ (Ne.symm hb)).trans q) ⟨_, e⟩ ?_
  exact ⟨hz, its', n', r, e⟩
def rSetL : V → V → V → Hp → (Hp → Prop) → Prop := fun o i v H Q => ∃ p xs k j, o = .ref p ∧ i = .int k ∧ H p = some (.lst xs) ∧ ixN xs.length k = some j ∧ Q (upd H p (.lst (xs.set j v)))
theorem set_list : PSet X rSetL := by
  intro pins s σ H o i v ov iv u Q I ro ri rv h
  obtain ⟨p, xs, k, j, rfl, rfl, hp, hj, q⟩ := h
  cases ro
  obtain ⟨t, rfl⟩ := ri
  obtain ⟨its, n, r, ho, hz⟩ := I.lst hp
  obtain ⟨h1, h2, h3, h4⟩ := ixN_seq hj
  have hl := r.length
  have hn := line63
  have I' : Inv X pins σ (upd H p (.lst (xs.set j v))) { s with heap := s.heap.update p (Obj.mapSeq (·.setIfInBounds j u)) } :=
    I.lstUpd hp ho (mapSeq_set its n j u) (r.set rv j) (by rw [List.length_set]; exact hz) s.toks
  by_cases h0 : 0 ≤ k
  · have hk : k.toNat = j := by
      rw [seqIndex_of h0 h4] at h1
      exact Option.some.inj h1
    exact PySem.W.ki_setAt ho h0 (by omega) (by rw [List.size_toArray, ← hl]; exact h4) (by rw [hk]; exact ⟨_, I', q⟩)
  · have hk : (k + (its.toArray.size : Int)).toNat = j := by
      rw [seqIndex_neg (by omega) h3] at h1
      rw [List.size_toArray, ← hl]
      exact Option.some.inj h1
    exact PySem.W.ki_setBack ho (by omega) (by rw [List.size_toArray, ← hl]; exact h3) (by omega) (by rw [hk]; exact ⟨_, I', q⟩)
theorem slice_bounds (lo hi : Option Int) (n : Nat) : (sliceBounds lo hi none n).1 = ((HT.sIx n 0 lo : Nat) : Int) ∧ (sliceBounds lo hi none n).2.1 = ((HT.sIx n n hi : Nat) : Int) ∧ (sliceBounds lo hi none n).2.2 = 1 := by
  refine ⟨?_, ?_, rfl⟩
  · cases lo with
    | none => simp [sliceBounds, HT.sIx]
    | some i =>
      simp only [sliceBounds, HT.sIx, Option.getD_none, show (1 : Int) > 0 by decide, if_true]
      by_cases h : i < 0
      · simp only [h, if_true] <;> omega
      · simp only [h, if_false] <;> omega
  · cases hi with
    | none => simp [sliceBounds, HT.sIx]
    | some i =>
      simp only [sliceBounds, HT.sIx, Option.getD_none, show (1 : Int) > 0 by decide, if_true]
      by_cases h : i < 0
      · simp only [h, if_true] <;> omega
      · simp only [h, if_false] <;> omega
theorem slicePick_cut (its : List Value) (lo hi : Option Int) : slicePick its.toArray lo hi none = ((its.drop (HT.sIx its.length 0 lo)).take (HT.sIx its.length its.length hi - HT.sIx its.length 0 lo)).toArray := by
  obtain ⟨h1, h2, h3⟩ := slice_bounds lo hi its.toArray.size
  unfold slicePick
  rw [h1, h2, h3]
  simp only [sliceRange_one, pick_run, List.size_toArray] <;> rfl
/-- xs[lo:hi] of a list: a new list -/
def rSlL (K : PySem.W.Frag) : V → Option Int → Option Int → Hp → VK → Prop := fun x lo hi H Q => ∃ a xs, x = .ref a ∧ SqL K H a xs ∧ ∀ p, H p = none → Q (.ref p) (upd H p (.lst (cutV xs lo hi)))
theorem sl_list : SlR X (rSlL X.K) := by
  intro pins s σ H x v vl vu lo hi sl Q I rx hs pl pu h
  obtain ⟨a, xs, rfl, hx, q⟩ := h
  cases rx
  obtain ⟨its, r, ht, hz⟩ := I.list hx
  have hlen := r.length
  refine ⟨"list", _, slot_list_getitem.lookup, ht.isList.typeIs, ?_⟩
  refine wpAny_getItem_list_slice ht.isList hs pl pu .none (by simp) ?_ (by rw [List.size_toArray] <;> omega)
  rw [slicePick_cut, ← hlen]
  refine ⟨.ref s.heap.objs.size, _, I.laid (t' := s.toks) (o := .lst (cutV xs lo hi)) (fun b ob q => Heap.get?_push_of_some _ q) (Nat.le_refl _) ?_, rfl, q _ (I.hok.fresh (Nat.le_refl _))⟩
  exact ⟨Nat.le_trans (cutV_length xs lo hi) hz, _, 0, (r.drop (HT.sIx xs.length 0 lo)).take (HT.sIx xs.length xs.length hi - HT.sIx xs.length 0 lo), Heap.get?_push_size _ rfl⟩
def flatV : V → Bool
  | .non => true
  | .bl _ => true
  | .int _ => true
  | .str _ => true
  | _ => false
/-- == of flat values -/
def eqV : V → V → Bool
  | .non, .non => true
  | .bl a, .bl b => a == b
  | .bl a, .int b => (if a then 1 else 0) == b
  | .int a, .bl b => a == (if b then 1 else 0)
  | .int a, .int b => a == b
  | .str a, .str b => a == b
  | _, _ => false
/-- the items' answers, read off the values (a value's own answer does not lean on its token) -/
def eqU (x : V) (u : Value) : Bool := match u with
  | .none => eqV .non x
  | .bool b => eqV (.bl b) x
  | .int i _ => eqV (.int i) x
  | .str z _ => eqV (.str z) x
  | _ => false
def inV (x : V) (xs : List V) : Bool := xs.any fun y => eqV y x
/-- x in a list or tuple of flat items -/
def rIn (K : PySem.W.Frag) (neg : Bool) : R2 := fun x y H Q => ∃ p xs, y = .ref p ∧ (SqL K H p xs ∨ SqT K H p xs) ∧ flatV x = true ∧ xs.all flatV = true ∧ Q (.bl (if neg then !inV x xs else inV x xs)) H
theorem call_len_seq : CallR X (.builtin "len") (fun xs H Q => ∃ p ys, xs = [.ref p] ∧ (SqL X.K H p ys ∨ SqT X.K H p ys) ∧ Q (.int ys.length) H) := by
  intro pins s σ H xs us Q I r h
  obtain ⟨p, ys, rfl, hq, q⟩ := h
  obtain ⟨u, rfl, rx⟩ := vals1 r
  cases rx
  have hn := line63
  rcases hq with hq | hq
  · obtain ⟨its, r', pl, hz⟩ := I.list hq
    have hlen := r'.length
    exact Calls.call_len_list pl.isList (by simp only [List.size_toArray] <;> omega) ⟨.int ys.length, H, I.tok _, ⟨s.toks + 1, by rw [List.size_toArray, hlen]⟩, q⟩
  · obtain ⟨its, r', pl, hz⟩ := I.tuple hq
    have hlen := r'.length
    exact len_tuple pl (by simp only [List.size_toArray] <;> omega) ⟨.int ys.length, H, I.tok _, ⟨s.toks + 1, by rw [List.size_toArray, hlen]⟩, q⟩
theorem call_tuple_of : CallR X (.type "tuple") (fun xs H Q => ∃ p ys, xs = [.ref p] ∧ ((SqL X.K H p ys ∧ ∀ l, H l = none → Q (.ref l) (upd H l (.tup ys))) ∨ (SqT X.K H p ys ∧ Q (.ref p) H))) := by
  intro pins s σ H xs us Q I r h
  obtain ⟨p, ys, rfl, h⟩ := h
  obtain ⟨u, rfl, rx⟩ := vals1 r
  cases rx
  rcases h with ⟨hq, q⟩ | ⟨hq, q⟩
  · obtain ⟨its, r', pl, hz⟩ := I.list hq
    have hlen := r'.length
    refine call_tuple_list pl.isList (fun h' kp => ?_) (by simp only [List.size_toArray] <;> omega)
    have I1 : Inv X pins σ H { s with heap := h' } := I.kept (t' := s.toks) kp
    have I2 : Inv X pins σ (upd H h'.objs.size (.tup ys)) { s with heap := h'.push { cls := .type "tuple", data := .seq its.toArray } } :=
      I1.laid (t' := s.toks) (fun b o e => Heap.get?_push_of_some _ e) (Nat.le_refl _) (show ObjOk X.prog X.w _ _ _ (.tup ys) from ⟨hz, its, r', IsTup.new _ _⟩)
    exact ⟨.ref h'.objs.size, _, I2, rfl, q _ (I1.hok.fresh (Nat.le_refl _))⟩
  · obtain ⟨its, r', pl, hz⟩ := I.tuple hq
    exact call_tuple_same pl ⟨.ref p, H, I, rfl, q⟩
/-- the value is of that builtin type -/
def tyV (K : PySem.W.Frag) (T : String) (x : V) (H : Hp) : Prop := match x with
  | .str _ => T = "str"
  | .int _ => T = "int"
  | .ref p => (T = "list" ∧ ∃ xs, SqL K H p xs) ∨ (T = "tuple" ∧ ∃ o, K.lookup p = some o ∧ o.cls = .type "tuple" ∧ o.dict = none) ∨
      (T = "dict" ∧ ((∃ kvs, H p = some (.dK kvs)) ∨ ∃ kvs, H p = some (.dT kvs))) ∨ (T = "set" ∧ ∃ S n, H p = some (.set S n))
  | _ => False
theorem tyV_is {pins : List (Addr × Obj)} {σ : St} {H : Hp} {s : Shared} {T : String} {x : V} {v : Value} (I : Inv X pins σ H s) (r : RelV x v) (ty : tyV X.K T x H) :
    s.TypeIs v T ∧ ∀ a, v = .ref a → ∃ ob, s.heap.get? a = some ob ∧ ob.dict = none := by
  cases x with
  | str z =>
    obtain ⟨t, rfl⟩ := r
    cases (show T = "str" from ty)
    exact ⟨typeIs_str s z t, fun _ e => nomatch e⟩
  | int i =>
    obtain ⟨t, rfl⟩ := r
    cases (show T = "int" from ty)
    exact ⟨typeIs_int s i t, fun _ e => nomatch e⟩
  | ref p =>
    cases r
    rcases ty with ⟨rfl, xs, hq⟩ | ⟨rfl, o, hk, hc, hd⟩ | ⟨rfl, hk⟩ | ⟨rfl, S, n, hk⟩
    · obtain ⟨its, _, pl, _⟩ := I.list hq
      refine ⟨pl.isList.typeIs, fun a e => ?_⟩
      cases e
      obtain ⟨o, n, e, c, hd, _⟩ := pl
      exact ⟨o, e, hd⟩
    · refine ⟨⟨o, I.kIn p o hk, hc⟩, fun a e => ?_⟩
      cases e
      exact ⟨o, I.kIn _ o hk, hd⟩
    · have z : ∃ o, s.heap.get? p = some o ∧ o.ExactDict := by
        rcases hk with ⟨kvs, hk⟩ | ⟨kvs, hk⟩
        · obtain ⟨_, _, _, _, o, _, _, e, ex, _⟩ := I.hok p _ hk
          exact ⟨o, e, ex⟩
        · obtain ⟨_, _, _, _, o, _, _, e, ex, _⟩ := I.hok p _ hk
          exact ⟨o, e, ex⟩
      obtain ⟨o, e, ex⟩ := z
      refine ⟨⟨o, e, ex.1⟩, fun a e2 => ?_⟩
      cases e2
      exact ⟨o, e, ex.2.1⟩
    · obtain ⟨o, _, _, _, e, ex, _⟩ := I.hok p _ hk
      refine ⟨⟨o, e, ex.1⟩, fun a e2 => ?_⟩
      cases e2
      exact ⟨o, e, ex.2.1⟩
  | _ => exact False.elim ty
def tBM0 (K : PySem.W.Frag) (T : String) (r : V → List V → Hp → VK → Prop) (to : TE) : TE := fun σ H Q => to σ H fun x H1 => tyV K T x H1 ∧ r x [] H1 Q
def tBM (K : PySem.W.Frag) (T : String) (r : V → List V → Hp → VK → Prop) (to : TE) (t : TA) : TE := fun σ H Q => to σ H fun x H1 => tyV K T x H1 ∧ t σ H1 fun xs H2 => r x xs H2 Q
variable {o e : Expr} {es : List Expr} {to : TE} {t : TA} {name : Str} {apos cpos : Pos} {T id : String} {r : V → List V → Hp → VK → Prop}
theorem pe_bm0 (pa : PlainAttrs T) (slot : Slot T name id) (hty : typeOf (.builtin id) = pure (.type "method_descriptor")) (hm : MtR X id r) (ho : PE X o to)
    (hbase : attributeBase o name X.env (eval o X.env) = eval o X.env := by rfl) (hline : (apos.endLine == cpos.line) = true := by rfl) : PE X (.Call (.Attribute o name apos) [] [] cpos) (tBM0 X.K T r to) := by
  intro pins s σ H Q I h
  refine wpAny_Call_method0_late hbase hline (thn (ho pins s σ H _ I h) fun v s1 ⟨x, H1, I1, r1, ty, q1⟩ => ?_)
  obtain ⟨h1, h2⟩ := tyV_is I1 r1 ty
  exact ⟨T, id, pa, slot, hty, h1, h2, Calls.callWith_builtin rfl (PySem.evalArgs_none (hm pins s1 σ H1 x [] v [] Q I1 r1 .nil q1))⟩
theorem pe_bm (pa : PlainAttrs T) (slot : Slot T name id) (hty : typeOf (.builtin id) = pure (.type "method_descriptor")) (hm : MtR X id r) (ho : PE X o to) (ha : PA X (e :: es) t)
    (hbase : attributeBase o name X.env (eval o X.env) = eval o X.env := by rfl)
    (hfew : ((backTo cpos (starEach (e :: es) X.env)).all (fun x => !x.1) && (backToKw cpos (keywordEach [] X.env)).all (fun x => x.1.isSome)
      && decide ((e :: es).length + ([] : List Keyword).length + (if ([] : List Keyword).isEmpty then 0 else 1) < 30)) = true := by rfl)
    (hline : (apos.endLine == cpos.line) = true := by rfl) (hs : starEach (e :: es) X.env = (false, eval e X.env) :: starEach es X.env := by rfl) (hplain : (backTo cpos (starEach es X.env)).any (·.1) = false := by rfl) :
    PE X (.Call (.Attribute o name apos) (e :: es) [] cpos) (tBM X.K T r to t) := by
  intro pins s σ H Q I h
  refine wpAny_Call_method_late hbase hfew hline rfl (thn (ho pins s σ H _ I h) fun v s1 ⟨x, H1, I1, r1, ty, q1⟩ => ?_)
  obtain ⟨h1, h2⟩ := tyV_is I1 r1 ty
  refine ⟨T, id, pa, slot, hty, h1, h2, ?_⟩
  have hA := ha cpos pins s1 σ H1 _ I1 q1
  rw [hs] at hA ⊢
  refine Calls.callWith_builtin (by show (false || (backTo cpos (starEach es X.env)).any (·.1)) = false; rw [hplain] <;> rfl) (Calls.evalArgs_plain ?_)
  exact thn hA fun us s2 ⟨vs, H2, I2, r2, q2⟩ => hm pins s2 σ H2 x vs v us Q I2 r1 r2 q2
/- xs.append(e), list.index on a module's tuple .. are MtR facts of 06m -/
end
end L2
namespace L2
open PySem PySem.Spec PyProof.Rows
def MtM (X : Cx) (id : String) (r : V → List V → Hp → VK → Prop) : Prop :=
  ∀ (pins : List (Addr × Obj)) (s : Shared) (σ : St) (H : Hp) (x : V) (xs : List V) (v : Value) (us : List Value) (Q : VK), Inv X pins σ H s → RelV x v → Vals xs us → r x xs H Q →
    wpAny (model X.prog X.w) X.A (call (.builtin id) (v :: us)) (EP X pins σ Q) X.xe s
theorem Vals.one : ∀ {x : V} {us : List Value}, Vals [x] us → ∃ u, us = [u] ∧ RelV x u
  | _, _, .cons r .nil => ⟨_, rfl, r⟩
theorem Vals.zero : ∀ {us : List Value}, Vals [] us → us = []
  | _, .nil => rfl
theorem Vals.dropLast {xs : List V} {us : List Value} (h : Vals xs us) : Vals xs.dropLast us.dropLast := by
  induction h with
  | nil => exact .nil
  | cons r t ih =>
    cases t with
    | nil => exact .nil
    | cons q t' => exact .cons r ih
theorem Vals.rep {xs : List V} {us : List Value} (h : Vals xs us) : ∀ k : Nat, Vals (List.replicate k xs).flatten (List.replicate k us).flatten
  | 0 => .nil
  | k + 1 => by
    rw [List.replicate_succ, List.replicate_succ, List.flatten_cons, List.flatten_cons]
    exact Vals.append h (Vals.rep h k)
theorem erase_last {α : Type} (l : List α) : l.eraseIdx (l.length - 1) = l.dropLast := by
  induction l with
  | nil => rfl
  | cons a r ih =>
    cases r with
    | nil => rfl
    | cons b r =>
      have e : (a :: b :: r).length - 1 = ((b :: r).length - 1) + 1 := by
        have h1 : (a :: b :: r).length = r.length + 2 := rfl
        have h2 : (b :: r).length = r.length + 1 := rfl
        omega
      rw [e, List.eraseIdx_cons_succ, ih]
      all_goals rfl
theorem foldl_rep (its : List Value) : ∀ (k : Nat) (acc : List Value),
    List.foldl (fun x1 x2 => x1 ++ x2) acc.toArray (List.replicate k its.toArray) = (acc ++ (List.replicate k its).flatten).toArray
  | 0, acc => by simp
  | k + 1, acc => by
    have e : acc.toArray ++ its.toArray = (acc ++ its).toArray := by simp
    have e2 : (acc ++ its) ++ (List.replicate k its).flatten = acc ++ (List.replicate (k + 1) its).flatten := by
      rw [List.replicate_succ, List.flatten_cons, List.append_assoc]
    rw [← e2, ← foldl_rep its k (acc ++ its), ← e, List.replicate_succ, List.foldl_cons]
section
variable {X : Cx} {pins : List (Addr × Obj)} {σ : St} {H : Hp} {s : Shared} {l b : Addr} {xs ys zs : List V}
theorem Inv.lset {its its' : List Value} {n : Nat} {f : Array Value → Array Value} {t' : Nat} (I : Inv X pins σ H s) (hH : H l = some (.lst xs))
    (e : s.heap.get? l = some { cls := .type "list", data := .seq its.toArray n }) (hf : f its.toArray = its'.toArray) (hv : Vals ys its') (hz : ys.length ≤ sizeLine) :
    Inv X pins σ (upd H l (.lst ys)) { s with heap := s.heap.update l (Obj.mapSeq f), toks := t' } := by
  have q := PySem.IsL.update e f
  rw [hf] at q
  refine I.write (x := l) (e := l) (by rw [hH]; exact trivial) (.inl rfl) (fun b' u hb hu => (Heap.get?_update_other s.heap (Obj.mapSeq f) (Ne.symm hb)).trans hu) ⟨_, q⟩ ?_
  exact ⟨hz, its', _, hv, q⟩
theorem Inv.lnew {its : List Value} {t' : Nat} (I : Inv X pins σ H s) (hv : Vals ys its) (hz : ys.length ≤ sizeLine) :
    Inv X pins σ (upd H s.heap.objs.size (.lst ys)) { s with heap := s.heap.push { cls := .type "list", data := .seq its.toArray }, toks := t' } :=
  I.laid (fun _ _ q => Heap.get?_push_of_some _ q) (Nat.le_refl _) ⟨hz, its, 0, hv, Heap.get?_push_size _ rfl⟩
theorem Inv.fresh (I : Inv X pins σ H s) : H s.heap.objs.size = none := I.hok.fresh (Nat.le_refl _)
theorem Inv.lstM (I : Inv X pins σ H s) (hH : H l = some (.lst xs)) : xs.length ≤ sizeLine ∧ ∃ (its : List Value) (n : Nat), Vals xs its ∧ xs.length = its.length ∧ s.heap.get? l = some { cls := .type "list", data := .seq its.toArray n } := by
  obtain ⟨z, its, n, r, e⟩ := I.hok l _ hH
  exact ⟨z, its, n, r, r.length, e⟩
theorem notLongL {n : Nat} (h : n ≤ sizeLine) : Builtin.List.listTooLong n = false := by
  unfold Builtin.List.listTooLong
  exact decide_eq_false (by omega)
end
section
variable {X : Cx}
def rAppend : V → List V → Hp → VK → Prop := fun x vs H Q => ∃ l xs y, x = .ref l ∧ vs = [y] ∧ H l = some (.lst xs) ∧ xs.length < sizeLine ∧ Q .non (upd H l (.lst (xs ++ [y])))
theorem mt_append : MtM X "list.append" rAppend := by
  intro pins s σ H x vs v us Q I rx rv h
  obtain ⟨l, xs, y, rfl, rfl, hH, hz, q⟩ := h
  cases rx
  obtain ⟨u, rfl, ru⟩ := rv.one
  obtain ⟨z, its, n, r, hl, e⟩ := I.lstM hH
  refine call_meets F.slot_list_append ⟨_, e, rfl⟩ F.entry_list_append (F.args_list_append_2 _ _) (PySem.list_append l its.toArray n u (by rw [List.size_toArray]; omega)) ⟨e, ?_⟩
  refine ⟨.non, _, I.lset (its' := its ++ [u]) hH e (by simp) (r.append (.cons ru .nil)) ?_, rfl, q⟩
  rw [List.length_append, List.length_singleton]
  omega
def rExtend : V → List V → Hp → VK → Prop := fun x vs H Q => ∃ l b xs zs, x = .ref l ∧ vs = [.ref b] ∧ H l = some (.lst xs) ∧ H b = some (.lst zs) ∧ xs.length + zs.length ≤ sizeLine ∧ Q .non (upd H l (.lst (xs ++ zs)))
theorem mt_extend : MtM X "list.extend" rExtend := by
  intro pins s σ H x vs v us Q I rx rv h
  obtain ⟨l, b, xs, zs, rfl, rfl, hH, hB, hz, q⟩ := h
  cases rx
  obtain ⟨u, rfl, ru⟩ := rv.one
  cases ru
  obtain ⟨z, its, n, r, hl, e⟩ := I.lstM hH
  obtain ⟨z2, its2, n2, r2, hl2, e2⟩ := I.lstM hB
  have hsz : its.toArray.size + its2.toArray.size ≤ sizeLine := by rw [List.size_toArray, List.size_toArray]; omega
  have hlong : ¬ (!its.toArray.isEmpty && Builtin.List.listTooLong (its.toArray.size + its2.toArray.size)) = true := by
    rw [notLongL hsz, Bool.and_false]
    exact Bool.false_ne_true
  refine call_meets F.slot_list_extend ⟨_, e, rfl⟩ F.entry_list_extend (F.args_list_extend_2 _ _)
    (AutoSeq1.list_extend_list_list_0 l its.toArray n b its2.toArray n2 hlong (by rw [List.size_toArray]; omega) (by omega)) ⟨e, e2, ?_⟩
  refine ⟨.non, _, I.lset (its' := its ++ its2) hH e (by simp) (r.append r2) ?_, rfl, q⟩
  rw [List.length_append]
  omega
def rPop : V → List V → Hp → VK → Prop := fun x vs H Q => ∃ l xs y, x = .ref l ∧ vs = [] ∧ H l = some (.lst xs) ∧ xs[xs.length - 1]? = some y ∧ Q y (upd H l (.lst xs.dropLast))
theorem mt_pop : MtM X "list.pop" rPop := by
  intro pins s σ H x vs v us Q I rx rv h
  obtain ⟨l, xs, y, rfl, rfl, hH, hy, q⟩ := h
  cases rx
  have hus := rv.zero
  subst hus
  obtain ⟨z, its, n, r, hl, e⟩ := I.lstM hH
  obtain ⟨u, hu, ru⟩ := r.get hy
  have hy' : its.toArray[its.toArray.size - 1]? = some u := by
    show its.toArray[its.length - 1]? = some u
    rw [← Array.getElem?_toList, ← hl]
    exact hu
  refine call_meets F.slot_list_pop ⟨_, e, rfl⟩ F.entry_list_pop (F.args_list_pop_1 _) (MeetsSeq.list_pop_last l its.toArray n u hy' (by rw [List.size_toArray]; omega)) ⟨e, ?_⟩
  refine ⟨y, _, I.lset (its' := its.dropLast) hH e ?_ r.dropLast ?_, ru, q⟩
  · show its.toArray.eraseIdxIfInBounds (its.toArray.size - 1) = its.dropLast.toArray
    rw [List.size_toArray, List.eraseIdxIfInBounds_toArray, erase_last]
  · rw [List.length_dropLast]
    omega
def rPopAt : V → List V → Hp → VK → Prop := fun x vs H Q => ∃ l xs i k y, x = .ref l ∧ vs = [.int i] ∧ H l = some (.lst xs) ∧ -(2 ^ 63) ≤ i ∧ i < 2 ^ 63 ∧ seqIndex? i xs.length = some k ∧ xs[k]? = some y ∧ Q y (upd H l (.lst (xs.eraseIdx k)))
def rReverse : V → List V → Hp → VK → Prop := fun x vs H Q => ∃ l xs, x = .ref l ∧ vs = [] ∧ H l = some (.lst xs) ∧ Q .non (upd H l (.lst xs.reverse))
def rClear : V → List V → Hp → VK → Prop := fun x vs H Q => ∃ l xs, x = .ref l ∧ vs = [] ∧ H l = some (.lst xs) ∧ Q .non (upd H l (.lst []))
def rCat : R2 := fun x y H Q => ∃ l b xs zs, x = .ref l ∧ y = .ref b ∧ H l = some (.lst xs) ∧ H b = some (.lst zs) ∧ xs.length + zs.length ≤ sizeLine ∧ ∀ p, H p = none → Q (.ref p) (upd H p (.lst (xs ++ zs)))
theorem op_cat : OpR X (binaryOp .Add) rCat := by
  intro pins s σ H x y v u Q I rx ry h
  obtain ⟨l, b, xs, zs, rfl, rfl, hH, hB, hz, q⟩ := h
  cases rx
  cases ry
  obtain ⟨z, its, n, r, hl, e⟩ := I.lstM hH
  obtain ⟨z2, its2, n2, r2, hl2, e2⟩ := I.lstM hB
  refine PySem.P.add_list e e2 ?_ (by rw [List.size_toArray, List.size_toArray]; omega)
  have ea : its.toArray ++ its2.toArray = (its ++ its2).toArray := by simp
  rw [ea]
  exact ⟨.ref _, _, I.lnew (t' := s.toks) (r.append r2) (by rw [List.length_append]; omega), rfl, q _ I.fresh⟩
/-- a list times an int (a negative one is nothing) -/
def rRep : R2 := fun x y H Q => ∃ l k xs, x = .ref l ∧ y = .int k ∧ H l = some (.lst xs) ∧ -(2 ^ 63) ≤ k ∧ k < 2 ^ 63 ∧ xs.length * k.toNat ≤ sizeLine ∧
  ∀ p, H p = none → Q (.ref p) (upd H p (.lst (List.replicate k.toNat xs).flatten))
theorem len_rep {α : Type} (xs : List α) (k : Nat) : (List.replicate k xs).flatten.length = k * xs.length := by
  induction k with
  | zero => simp
  | succ k ih => rw [List.replicate_succ, List.flatten_cons, List.length_append, ih, Nat.succ_mul, Nat.add_comm]
theorem op_rep : OpR X (binaryOp .Mult) rRep := by
  intro pins s σ H x y v u Q I rx ry h
  obtain ⟨l, k, xs, rfl, rfl, hH, h1, h2, hz, q⟩ := h
  cases rx
  obtain ⟨t, rfl⟩ := ry
  obtain ⟨z, its, n, r, hl, e⟩ := I.lstM hH
  have hlen : its.toArray.size * k.toNat ≤ sizeLine := by rw [List.size_toArray, ← hl]; exact hz
  have hcap : ¬ its.toArray.size * k.toNat > (2 ^ 63 - 1) / 8 := by
    have : (sizeLine : Nat) ≤ (2 ^ 63 - 1) / 8 := by decide
    omega
  have hfit : ¬ (!Builtin.List.listFitsIndex k) = true := by
    rw [fitsIndex_both h1 h2]
    exact Bool.false_ne_true
  have hlong : ¬ Builtin.List.listTooLong (its.toArray.size * k.toNat) = true := by
    rw [notLongL hlen]
    exact Bool.false_ne_true
  have hnew : List.foldl (fun x1 x2 => x1 ++ x2) #[] (List.replicate (if its.toArray.isEmpty = true then 0 else k.toNat) its.toArray) = (List.replicate k.toNat its).flatten.toArray := by
    have f0 : ∀ m : Nat, List.foldl (fun x1 x2 => x1 ++ x2) #[] (List.replicate m its.toArray) = (List.replicate m its).flatten.toArray := fun m => by
      have := foldl_rep its m []
      rw [List.nil_append] at this
      exact this
    rw [f0]
    cases its with
    | nil => simp
    | cons a r' => rw [if_neg (by simp)]
  refine wpAny_binaryOp_repeat_ref (T := "list") (U := "int") (by decide) ⟨_, e, rfl⟩ (fun s' => typeIs_int s' k t) noFill_list_mul F.fills_int_mul F.slot_int_rmul repeat_list F.slot_int_index.lookup
    (call_meets F.slot_int_rmul (typeIs_int s k t) F.entry_int_rmul (F.args_int_rmul_2 _ _) (int___rmul___int_list k t l its.toArray n)
      ⟨e, rfl, ⟨_, e, rfl⟩, call_meets F.slot_list_mul ⟨_, e, rfl⟩ F.entry_list_mul (F.args_list_mul_2 _ _) (AutoListH.list___mul___list_int_3 l its.toArray n k t hfit hcap hlong) ⟨e, ?_⟩⟩)
  rw [hnew]
  exact ⟨.ref _, _, I.lnew (t' := s.toks) (r.rep k.toNat) (by rw [len_rep, Nat.mul_comm]; exact hz), rfl, q _ I.fresh⟩
end
section
variable {prog : Program} {w : World} {A : Around} {E : Value → Shared → Prop} {s : Shared}
set_option maxRecDepth 100000 in
end
section
variable {X : Cx}
end
end L2
namespace L2
open PySem PySem.Spec PyProof.Rows
theorem Vals.ints : ∀ {ns : List Int} {us : List Value}, Vals (ns.map V.int) us → IntsAre us ns
  | [], us, h => by
    rw [List.map_nil] at h
    cases h
    exact IntsAre.nil
  | n :: ns, us, h => by
    rw [List.map_cons] at h
    cases h with
    | cons r t =>
      obtain ⟨k, rfl⟩ := r
      exact IntsAre.cons n k (Vals.ints t)
theorem Vals.bls : ∀ {bs : List Bool} {us : List Value}, Vals (bs.map V.bl) us → us = bs.map Value.bool
  | [], us, h => by
    rw [List.map_nil] at h
    cases h
    rfl
  | b :: bs, us, h => by
    rw [List.map_cons] at h
    cases h with
    | cons r t =>
      cases r
      rw [Vals.bls t, List.map_cons]
theorem Vals.ref1 {a : Addr} {us : List Value} (r : Vals [V.ref a] us) : us = [Value.ref a] := by
  cases r with
  | cons r t =>
    cases t
    cases r
    rfl
section
variable {prog : Program} {w : World} {A : Around} {E : Value → Shared → Prop} {s : Shared} {l : Addr} {its : List Value} {ns : List Int} {Q : Value → Shared → Prop}
theorem sum_raw (hh : A.handled = none) (hl : s.heap.IsList l its.toArray) (hi : IntsAre its ns)
    (h : ∀ h' tk t', (∀ b o, s.heap.get? b = some o → h'.get? b = some o) → Q (.int ns.sum t') { s with heap := h', toks := tk }) : wpAny (model prog w) A (call (.builtin "sum") [.ref l]) Q E s := by
  obtain ⟨xs, e⟩ := hi.allInts.items
  have hn : numsOf (intItems xs).toList = ns := by rw [← e]; exact hi.numsOf
  rw [nums_intItems] at hn
  rw [e] at hl
  refine PySem.sum_intListG hh hl fun h' tk t' hk => ?_
  have := h h' tk t' hk
  rw [preSum_eq, List.take_of_length_le (by simp), hn]; exact this
end
section
variable {X : Cx}
/-- sum(xs) of a list of ints -/
def rSum (K : PySem.W.Frag) : List V → Hp → VK → Prop := fun vs H Q => ∃ (a : Addr) (ns : List Int), vs = [V.ref a] ∧ SqL K H a (ns.map V.int) ∧ Q (.int ns.sum) H
/-- max(xs), min(xs) of a list of ints -/
def rMax (K : PySem.W.Frag) : List V → Hp → VK → Prop := fun vs H Q => ∃ (a : Addr) (ns : List Int), vs = [V.ref a] ∧ SqL K H a (ns.map V.int) ∧ 0 < ns.length ∧ ∀ m, m ∈ ns → (∀ y, y ∈ ns → y ≤ m) → Q (.int m) H
def rMin (K : PySem.W.Frag) : List V → Hp → VK → Prop := fun vs H Q => ∃ (a : Addr) (ns : List Int), vs = [V.ref a] ∧ SqL K H a (ns.map V.int) ∧ 0 < ns.length ∧ ∀ m, m ∈ ns → (∀ y, y ∈ ns → m ≤ y) → Q (.int m) H
theorem cr_sum (hc : X.calm = true) : CallR X (.builtin "sum") (rSum X.K) := by
  intro pins s σ H vs us Q I r h
  obtain ⟨a, ns, rfl, hs, q⟩ := h
  obtain ⟨its, rv, hl, _⟩ := I.list hs
  rw [Vals.ref1 r]
  exact sum_raw (I.ok.hd hc) hl.isList rv.ints fun h' tk t' hk => ⟨.int _, H, I.kept hk, ⟨_, rfl⟩, q⟩
def rSorted (K : PySem.W.Frag) : List V → Hp → VK → Prop := fun vs H Q => ∃ (a : Addr) (ns : List Int), vs = [V.ref a] ∧ SqL K H a (ns.map V.int) ∧ ns.length < 64 ∧
  ∀ (ns' : List Int) (p : Addr), ns'.Perm ns → ns'.Pairwise (· ≤ ·) → H p = none → Q (.ref p) (upd H p (.lst (ns'.map V.int)))
def rSortedS (K : PySem.W.Frag) : List V → Hp → VK → Prop := fun vs H Q => ∃ (a : Addr) (xs : List Str), vs = [V.ref a] ∧ SqL K H a (xs.map V.str) ∧ xs.length < 64 ∧
  ∀ (ys : List Str) (p : Addr), ys.Perm xs → sortedS ys = true → H p = none → Q (.ref p) (upd H p (.lst (ys.map V.str)))
/-- xs.sort(), ints -/
def rSort : V → List V → Hp → VK → Prop := fun x xs H Q => ∃ (a : Addr) (ns : List Int), x = V.ref a ∧ xs = [] ∧ H a = some (.lst (ns.map V.int)) ∧ ns.length < 64 ∧
  ∀ ns' : List Int, ns'.Perm ns → ns'.Pairwise (· ≤ ·) → Q .non (upd H a (.lst (ns'.map V.int)))
end
section
variable {X : Cx}
def rIndex (K : PySem.W.Frag) : V → List V → Hp → VK → Prop := fun x xs H Q => ∃ (a : Addr) (ys : List V) (y : V) (j : Nat) (z : V), x = V.ref a ∧ xs = [y] ∧ SqL K H a ys ∧ flatV y = true ∧ ys.all flatV = true ∧ ys[j]? = some z ∧ eqV z y = true ∧
  (∀ (m : Nat) (z' : V), m < j → ys[m]? = some z' → eqV z' y = false) ∧ Q (.int (j : Nat)) H
end
section
variable {X : Cx}
end
theorem iter_any {prog : Program} {w : World} {A : Around} {E : Value → Shared → Prop} {s : Shared} {l : Addr} {items : Array Value} {Q : Value → Shared → Prop} (hl : s.heap.IsList l items)
    (h : ∀ s₂ : Shared, s₂ = { s with heap := s.heap.push { cls := .type "list_iterator", data := .fields #[.ref l, .int 0 0] } } →
      (s₂.heap.IsListIter s.heap.objs.size l 0 ∧ s₂.heap.IsList l items) → l ≠ s.heap.objs.size → Q (.ref s.heap.objs.size) s₂) : wpAny (model prog w) A (pyIter (.ref l)) Q E s := by
  have hlt : l < s.heap.objs.size := by obtain ⟨_, e, _⟩ := hl; exact Heap.lt_size e
  exact wpAny_pyIter_list hl (h _ rfl ⟨⟨_, Heap.get?_push_size _ rfl, rfl, rfl⟩, hl.push _⟩ (Nat.ne_of_lt hlt))
theorem truth_bools {prog : Program} {w : World} {A : Around} {bs : List Bool} {its : List Value} (e : its = bs.map Value.bool) :
    TruthOf prog w A (fun i v => its.toArray[i]? = some v) (fun i => bs.getD i false) := fun i v s Q E hv hq => by
  have hv' : its[i]? = some v := by simpa using hv
  rw [e, List.getElem?_map] at hv'
  obtain ⟨b, hb, rfl⟩ := Option.map_eq_some_iff.mp hv'
  have hg : bs.getD i false = b := by rw [List.getD_eq_getElem?_getD, hb] <;> rfl
  have hq' : Q (bs.getD i false) s := hq
  rw [hg] at hq'
  exact wpAny_truthy_bool hq'
theorem any_range : ∀ bs : List Bool, (List.range bs.length).any (fun i => bs.getD i false) = bs.any id
  | [] => rfl
  | b :: bs => by
    rw [List.length_cons, List.range_succ_eq_map, List.any_cons, List.any_map, List.any_cons, ← any_range bs]
    all_goals rfl
theorem all_range : ∀ bs : List Bool, (List.range bs.length).all (fun i => bs.getD i false) = bs.all id
  | [] => rfl
  | b :: bs => by
    rw [List.length_cons, List.range_succ_eq_map, List.all_cons, List.all_map, List.all_cons, ← all_range bs]
    all_goals rfl
section
variable {X : Cx}
def rAny (K : PySem.W.Frag) : List V → Hp → VK → Prop := fun vs H Q => ∃ (a : Addr) (bs : List Bool), vs = [V.ref a] ∧ SqL K H a (bs.map V.bl) ∧ Q (.bl (bs.any id)) H
def rAll (K : PySem.W.Frag) : List V → Hp → VK → Prop := fun vs H Q => ∃ (a : Addr) (bs : List Bool), vs = [V.ref a] ∧ SqL K H a (bs.map V.bl) ∧ Q (.bl (bs.all id)) H
theorem cr_any (hc : X.calm = true) : CallR X (.builtin "any") (rAny X.K) := by
  intro pins s σ H vs us Q I r h
  obtain ⟨a, bs, rfl, hs, q⟩ := h
  obtain ⟨its, rv, hl, _⟩ := I.list hs
  rw [Vals.ref1 r]
  have hb := rv.bls
  refine call_any_walk (iter_any hl.isList fun s₂ e2 st hne => ?_)
  subst e2
  refine ⟨_, _, _, _, _, _, _, rfl, Walks.list (A := X.A.in1) (I.ok.hd hc) _ a hne its.toArray, st, truth_bools hb, fun h' tk hk => ?_⟩
  refine ⟨.bl _, H, I.kept fun b o eo => hk b o (fun hmem => ?_) (Heap.get?_push_of_some _ eo), ?_, q⟩
  · rcases List.mem_cons.mp hmem with e1 | hmem
    · exact absurd (e1 ▸ Heap.lt_size eo) (Nat.lt_irrefl _)
    · cases hmem
  · show Value.bool _ = Value.bool _
    rw [← any_range, hb, List.size_toArray, List.length_map]
theorem cr_all (hc : X.calm = true) : CallR X (.builtin "all") (rAll X.K) := by
  intro pins s σ H vs us Q I r h
  obtain ⟨a, bs, rfl, hs, q⟩ := h
  obtain ⟨its, rv, hl, _⟩ := I.list hs
  rw [Vals.ref1 r]
  have hb := rv.bls
  refine call_all_walk (iter_any hl.isList fun s₂ e2 st hne => ?_)
  subst e2
  refine ⟨_, _, _, _, _, _, _, rfl, Walks.list (A := X.A.in1) (I.ok.hd hc) _ a hne its.toArray, st, truth_bools hb, fun h' tk hk => ?_⟩
  refine ⟨.bl _, H, I.kept fun b o eo => hk b o (fun hmem => ?_) (Heap.get?_push_of_some _ eo), ?_, q⟩
  · rcases List.mem_cons.mp hmem with e1 | hmem
    · exact absurd (e1 ▸ Heap.lt_size eo) (Nat.lt_irrefl _)
    · cases hmem
  · show Value.bool _ = Value.bool _
    rw [← all_range, hb, List.size_toArray, List.length_map]
end
mutual
inductive Dp (K : PySem.W.Frag) (H : Hp) : V → PyData → Prop
  | non : Dp K H .non .none
  | bl (b : Bool) : Dp K H (.bl b) (.bool b)
  | int (i : Int) : Dp K H (.int i) (.int i)
  | str (x : Str) : Dp K H (.str x) (.str x)
  | lst {a : Addr} {xs : List V} {ds : List PyData} : SqL K H a xs → DpAll K H xs ds → Dp K H (.ref a) (.list ds)
  | tup {a : Addr} {xs : List V} {ds : List PyData} : SqT K H a xs → DpAll K H xs ds → Dp K H (.ref a) (.tuple ds)
inductive DpAll (K : PySem.W.Frag) (H : Hp) : List V → List PyData → Prop
  | nil : DpAll K H [] []
  | cons {v : V} {vs : List V} {d : PyData} {ds : List PyData} : Dp K H v d → DpAll K H vs ds → DpAll K H (v :: vs) (d :: ds)
end
section
variable {X : Cx} {pins : List (Addr × Obj)} {σ : St} {H : Hp} {s : Shared}
mutual
theorem Dp.reads (I : Inv X pins σ H s) : ∀ (d : PyData) (v : V) (u : Value), Dp X.K H v d → RelV v u → ∃ as, Reads s.heap u d as
  | .none, _, _, h, r => by
    cases h
    cases r
    exact ⟨_, Reads.none⟩
  | .bool b, _, _, h, r => by
    cases h
    cases r
    exact ⟨_, Reads.bool b⟩
  | .int i, _, _, h, r => by
    cases h
    obtain ⟨t, rfl⟩ := r
    exact ⟨_, Reads.int i t⟩
  | .str x, _, _, h, r => by
    cases h
    obtain ⟨t, rfl⟩ := r
    exact ⟨_, Reads.str x t⟩
  | .list ds, _, _, h, r => by
    cases h with
    | lst hs ha =>
      cases r
      obtain ⟨its, rv, ⟨o, n, ho, hc, _, hd⟩, _⟩ := I.list hs
      obtain ⟨as, hr⟩ := Dp.readsAll I ds _ its ha rv
      exact ⟨_, Reads.list ho hc hd hr⟩
  | .tuple ds, _, _, h, r => by
    cases h with
    | tup hs ha =>
      cases r
      obtain ⟨its, rv, ⟨o, ho, hc, n, hd⟩, _⟩ := I.tuple hs
      obtain ⟨as, hr⟩ := Dp.readsAll I ds _ its ha rv
      exact ⟨_, Reads.tuple ho hc hd hr⟩
  | .dict _, _, _, h, _ => by cases h
theorem Dp.readsAll (I : Inv X pins σ H s) : ∀ (ds : List PyData) (vs : List V) (us : List Value), DpAll X.K H vs ds → Vals vs us → ∃ as, ReadsAll s.heap us ds as
  | [], _, _, h, r => by
    cases h
    cases r
    exact ⟨_, ReadsAll.nil⟩
  | d :: ds, _, _, h, r => by
    cases h with
    | cons h1 h2 =>
      cases r with
      | cons r1 r2 =>
        obtain ⟨as, q1⟩ := Dp.reads I d _ _ h1 r1
        obtain ⟨bs, q2⟩ := Dp.readsAll I ds _ _ h2 r2
        exact ⟨_, ReadsAll.cons q1 q2⟩
end
end
section
variable {X : Cx}
def rEqD (K : PySem.W.Frag) : R2 := fun x y H Q => ∃ d e, Dp K H x d ∧ Dp K H y e ∧ SeqAt.shaped d = true ∧ SeqAt.shaped e = true ∧ Q (.bl (PyData.eqv d e)) H
def rNeD (K : PySem.W.Frag) : R2 := fun x y H Q => ∃ d e, Dp K H x d ∧ Dp K H y e ∧ SeqAt.shaped d = true ∧ SeqAt.shaped e = true ∧ Q (.bl (!PyData.eqv d e)) H
end
end L2
namespace L2
open PySem PySem.Spec PyProof.Rows
abbrev CellAt (h : Heap) (c : Addr) (v : Option Value) : Prop := h.IsCell c v
def relS (scope sc : Scope) : Scope :=
  { scope with names := scope.names.map fun (n, k) => if (k == .free && sc.kind == .function && sc.names.lookup n == some .cell) then (n, .cell) else (n, k) }
def cloFrom (cells : List (Str × Addr)) : List (Str × NameKind) → List (Str × Addr) → List (Str × Addr)
  | [], acc => acc
  | (n, k) :: r, acc => if k == .free then cloFrom cells r ((n, (cells.lookup n).getD 0) :: acc) else cloFrom cells r acc
theorem closure_loop (env : Env) (f : Str × NameKind → List (Str × Addr) → Sem (ForInStep (List (Str × Addr))))
    (hf : ∀ n k c, f (n, k) c = if k == .free then (do let a ← cellOf env n; pure (.yield ((n, a) :: c))) else pure (.yield c)) :
    ∀ (names : List (Str × NameKind)) (acc : List (Str × Addr)), (∀ y ∈ names, y.2 = .free → ∃ c, env.cells.lookup y.1 = some c) → forIn names acc f = pure (cloFrom env.cells names acc)
  | [], acc, _ => by rw [List.forIn_nil]; rfl
  | (n, k) :: r, acc, h => by
    rw [List.forIn_cons, hf]
    have ih := fun acc => closure_loop env f hf r acc fun y hy => h y (List.mem_cons_of_mem _ hy)
    unfold cloFrom
    by_cases hk : (k == NameKind.free) = true
    · rw [if_pos hk, if_pos hk]
      obtain ⟨c, hc⟩ := h (n, k) List.mem_cons_self (by simpa using hk)
      have e : cellOf env n = pure c := by unfold cellOf; rw [hc]
      rw [e]
      have e2 : (env.cells.lookup n).getD 0 = c := by rw [hc]; rfl
      rw [e2]
      exact ih _
    · rw [if_neg hk, if_neg hk]
      exact ih _
theorem closure_ok {scope : Scope} {env : Env} (h : ∀ y ∈ scope.names, y.2 = .free → ∃ c, env.cells.lookup y.1 = some c) : closureFor scope env = pure (cloFrom env.cells scope.names []) := by
  simp only [closureFor]
  rw [closure_loop env _ (fun n k c => rfl) scope.names [] h]
  rfl
theorem mem_lookup {α : Type} : ∀ {l : List (Str × α)} {n : Str} {c : α}, (n, c) ∈ l → ∃ c', l.lookup n = some c'
  | (k, v) :: r, n, c, h => by
    rw [List.lookup_cons]
    cases hb : n == k with
    | true => exact ⟨_, rfl⟩
    | false =>
      rcases List.mem_cons.mp h with e | h
      · cases e; simp at hb
      · exact mem_lookup h
theorem cloFrom_mem {cells : List (Str × Addr)} : ∀ {names : List (Str × NameKind)} {acc : List (Str × Addr)} {n : Str} {c : Addr}, (n, c) ∈ cloFrom cells names acc → (n, c) ∈ acc ∨ ((n, .free) ∈ names ∧ c = (cells.lookup n).getD 0)
  | [], _, _, _, h => .inl h
  | (m, k) :: r, acc, n, c, h => by
    unfold cloFrom at h
    split at h
    · rename_i hk
      have hk : k = .free := by simpa using hk
      rcases cloFrom_mem h with h | ⟨h1, h2⟩
      · rcases List.mem_cons.mp h with e | h
        · cases e; exact .inr ⟨hk ▸ List.mem_cons_self, rfl⟩
        · exact .inl h
      · exact .inr ⟨List.mem_cons_of_mem _ h1, h2⟩
    · rcases cloFrom_mem h with h | ⟨h1, h2⟩
      · exact .inl h
      · exact .inr ⟨List.mem_cons_of_mem _ h1, h2⟩
theorem cloFrom_acc {cells : List (Str × Addr)} : ∀ {names : List (Str × NameKind)} {acc : List (Str × Addr)} {p : Str × Addr}, p ∈ acc → p ∈ cloFrom cells names acc
  | [], _, _, h => h
  | (m, k) :: r, acc, p, h => by
    unfold cloFrom
    split
    · exact cloFrom_acc (List.mem_cons_of_mem _ h)
    · exact cloFrom_acc h
theorem cloFrom_has {cells : List (Str × Addr)} : ∀ {names : List (Str × NameKind)} {acc : List (Str × Addr)} {n : Str}, (n, .free) ∈ names → (n, (cells.lookup n).getD 0) ∈ cloFrom cells names acc
  | (m, k) :: r, acc, n, h => by
    unfold cloFrom
    rcases List.mem_cons.mp h with e | h
    · cases e
      exact cloFrom_acc List.mem_cons_self
    · split
      · exact cloFrom_has h
      · exact cloFrom_has h
theorem cells_mem : ∀ {names : List (Str × NameKind)} {h : Heap} {acc : List (Str × Addr)} {x : Str} {c : Addr}, (x, c) ∈ cellsFrom h.objs.size names acc →
    (x, c) ∈ acc ∨ ((x, .cell) ∈ names ∧ h.objs.size ≤ c ∧ CellAt (pushCells h names) c none)
  | [], _, _, _, _, h => .inl h
  | (n, k) :: r, h, acc, x, c, hm => by
    unfold cellsFrom at hm
    unfold pushCells
    split at hm
    · rename_i hk
      rw [if_pos hk]
      have hk : k = .cell := by simpa using hk
      rw [← Heap.size_push h { cls := .type "cell", data := .cell none }] at hm
      rcases cells_mem hm with hm | ⟨h1, h2, h3⟩
      · rcases List.mem_cons.mp hm with e | hm
        · cases e
          exact .inr ⟨hk ▸ List.mem_cons_self, Nat.le_refl _, _, pushCells_keeps r _ _ _ (Heap.get?_push_size _ rfl), rfl⟩
        · exact .inl hm
      · rw [Heap.size_push] at h2
        exact .inr ⟨List.mem_cons_of_mem _ h1, Nat.le_of_succ_le h2, h3⟩
    · rename_i hk
      rw [if_neg hk]
      rcases cells_mem hm with hm | ⟨h1, h2, h3⟩
      · exact .inl hm
      · exact .inr ⟨List.mem_cons_of_mem _ h1, h2, h3⟩
theorem cells_acc : ∀ {names : List (Str × NameKind)} {n : Nat} {acc : List (Str × Addr)} {p : Str × Addr}, p ∈ acc → p ∈ cellsFrom n names acc
  | [], _, _, _, h => h
  | (m, k) :: r, n, acc, p, h => by
    unfold cellsFrom
    split
    · exact cells_acc (List.mem_cons_of_mem _ h)
    · exact cells_acc h
theorem cells_has : ∀ {names : List (Str × NameKind)} {n : Nat} {acc : List (Str × Addr)} {x : Str}, (x, .cell) ∈ names → ∃ c, (x, c) ∈ cellsFrom n names acc
  | (m, k) :: r, n, acc, x, h => by
    unfold cellsFrom
    rcases List.mem_cons.mp h with e | h
    · cases e
      exact ⟨n, cells_acc List.mem_cons_self⟩
    · split
      · exact cells_has h
      · exact cells_has h
theorem cells_inj : ∀ {names : List (Str × NameKind)} {h : Heap} {acc : List (Str × Addr)} {x y : Str} {c : Addr}, (∀ p ∈ acc, p.2 < h.objs.size) → (∀ x y c, (x, c) ∈ acc → (y, c) ∈ acc → x = y) →
    (x, c) ∈ cellsFrom h.objs.size names acc → (y, c) ∈ cellsFrom h.objs.size names acc → x = y
  | [], _, _, _, _, _, _, hi, h1, h2 => hi _ _ _ h1 h2
  | (n, k) :: r, h, acc, x, y, c, hl, hi, h1, h2 => by
    unfold cellsFrom at h1 h2
    split at h1
    · rename_i hk
      rw [if_pos hk] at h2
      rw [← Heap.size_push h { cls := .type "cell", data := .cell none }] at h1 h2
      refine cells_inj (h := h.push _) (fun p hp => ?_) (fun x y c a b => ?_) h1 h2
      · rw [Heap.size_push]
        rcases List.mem_cons.mp hp with rfl | hp
        · exact Nat.lt_succ_self _
        · exact Nat.lt_succ_of_lt (hl p hp)
      · rcases List.mem_cons.mp a with e | a <;> rcases List.mem_cons.mp b with e' | b
        · cases e; cases e'; rfl
        · cases e; exact absurd (hl _ b) (Nat.lt_irrefl _)
        · cases e'; exact absurd (hl _ a) (Nat.lt_irrefl _)
        · exact hi _ _ _ a b
    · rename_i hk
      rw [if_neg hk] at h2
      exact cells_inj hl hi h1 h2
theorem newEnv_comp {M : Model} {A : Around} {E : Value → Shared → Prop} {s : Shared} {scope : Scope} {globals : Addr} {closure : List (Str × Addr)} {qual : Str} {func : Option Addr} {code : Value} {around : Env} {builtins : Addr} {Q : Env → Shared → Prop}
    (h : Q (newEnv scope s.heap.objs.size globals (cellsFrom (s.heap.objs.size + 1) scope.names closure) qual func code (some around) builtins)
      { s with heap := pushCells (s.heap.push { cls := .type "dict", data := .dict #[] }) scope.names }) :
    wpAny M A (newFunctionEnv scope globals closure [] qual func code (some around) builtins) Q E s := by
  simp only [newFunctionEnv, Option.isSome_some, if_true]
  refine wpAny_bind (wpAny_alloc ?_)
  refine wpAny_bind (wpAny_layCells _ (fun n k c => rfl) scope.names closure _ _ ?_)
  rw [show ({ s with heap := s.heap.push { cls := .type "dict", data := .dict #[] } } : Shared).heap.objs.size = s.heap.objs.size + 1 from Heap.size_push ..]
  rw [List.forIn_nil]
  exact wpAny_bind (wpAny_pure (wpAny_pure h))
/-- every name of the written scope, in the scope that runs -/
theorem lookup_relS {sc : Scope} : ∀ {names : List (Str × NameKind)} {x : Str} {k : NameKind},
    (names.map fun (n, k) => if (k == NameKind.free && sc.kind == .function && sc.names.lookup n == some .cell) then (n, NameKind.cell) else (n, k)).lookup x = some k →
    ∃ k', names.lookup x = some k' ∧ (k = k' ∨ (k' = .free ∧ k = .cell))
  | [], _, _, h => by simp at h
  | (n, k₀) :: r, x, k, h => by
    have ih := @lookup_relS sc r x k
    have h' : List.lookup x ((if (k₀ == NameKind.free && sc.kind == .function && sc.names.lookup n == some .cell) = true then (n, NameKind.cell) else (n, k₀)) :: (r.map _)) = some k := h
    cases hx : x == n with
    | true =>
      simp only [List.lookup_cons, hx]
      by_cases hc : (k₀ == NameKind.free && sc.kind == .function && sc.names.lookup n == some .cell) = true
      · rw [if_pos hc] at h'
        simp only [List.lookup_cons, hx] at h'
        cases h'
        simp only [Bool.and_eq_true, beq_iff_eq] at hc
        exact ⟨k₀, rfl, .inr ⟨hc.1.1, rfl⟩⟩
      · rw [if_neg hc] at h'
        simp only [List.lookup_cons, hx] at h'
        cases h'
        exact ⟨_, rfl, .inl rfl⟩
    | false =>
      simp only [List.lookup_cons, hx]
      by_cases hc : (k₀ == NameKind.free && sc.kind == .function && sc.names.lookup n == some .cell) = true
      · rw [if_pos hc] at h'
        simp only [List.lookup_cons, hx] at h'
        exact ih h'
      · rw [if_neg hc] at h'
        simp only [List.lookup_cons, hx] at h'
        exact ih h'
/-- the names of a comprehension's block: its own (with their places in N), or captured -/
structure BlkOk (N : List Str) (sc scope : Scope) (own : List (Str × Nat)) : Prop where
  kind : scope.kind = .function
  uniq : ∀ y ∈ scope.names, scope.names.lookup y.1 = some y.2
  ix : ∀ p ∈ own, N[p.2]? = some p.1
  free : ∀ y ∈ scope.names, y.2 = .free → sc.names.lookup y.1 = some .cell ∨ sc.names.lookup y.1 = some .free
  own : ∀ y ∈ scope.names, y.2 = .local ∨ y.2 = .cell → y.1 ∈ own.map (·.1) ∨ y.1 ∉ N
/-- the slots of the block's own names forgotten -/
def wipe (σ : St) : List Nat → St
  | [] => σ
  | v :: vs => (wipe σ vs).set v none
theorem wipe_length (σ : St) : ∀ vs : List Nat, (wipe σ vs).length = σ.length
  | [] => rfl
  | v :: vs => by unfold wipe; rw [List.length_set, wipe_length σ vs]
theorem wipe_some {σ : St} {i : Nat} {x : V} : ∀ {vs : List Nat}, (wipe σ vs)[i]? = some (some x) → σ[i]? = some (some x) ∧ i ∉ vs
  | [], h => ⟨h, by simp⟩
  | v :: vs, h => by
    unfold wipe at h
    by_cases hi : v = i
    · subst hi
      by_cases hv : v < (wipe σ vs).length
      · rw [List.getElem?_set_self hv] at h; cases h
      · rw [List.getElem?_eq_none (by simpa using hv)] at h; cases h
    · rw [List.getElem?_set_ne hi] at h
      obtain ⟨h1, h2⟩ := wipe_some h
      exact ⟨h1, by simp only [List.mem_cons, not_or]; exact ⟨fun e => hi e.symm, h2⟩⟩
/-- the context of a block that starts at s, its iterator's objects at fp -/
abbrev Cx.blk (X : Cx) (s : Shared) (H : Hp) (scope : Scope) (cenv : Env) (fp : List Addr) : Cx := { X with s_0 := s, H_0 := H, env := cenv, outer := X.stack, ex := fp, fn := fun x => scope.names.lookup x == some .cell, pn := [], xe := fun _ _ => False }
section
variable {X : Cx} {pins : List (Addr × Obj)} {σ : St} {H : Hp} {s : Shared}
theorem block_start {scope : Scope} {own : List (Str × Nat)} {fp : List Addr} (I : Inv X pins σ H s) (ok : BlkOk X.N X.env.scope scope own) (hN : X.N.Nodup) (hfp : ∀ b ∈ fp, FpOk X pins H b ∧ b < s.heap.objs.size) :
    Inv (X.blk s H scope (compEnvC scope (cellsFrom (s.heap.objs.size + 1) scope.names (cloFrom X.env.cells scope.names [])) s.heap.objs.size X.env) fp) [] (wipe σ (own.map (·.2))) H { s with heap := pushCells (s.heap.push { cls := .type "dict", data := .dict #[] }) scope.names } := by
  have hfree : ∀ y ∈ scope.names, y.2 = .free → ∃ c, X.env.cells.lookup y.1 = some c := fun y hy e => by
    rcases ok.free y hy e with k | k
    · exact I.ok.has _ (.inl k)
    · exact I.ok.has _ (.inr k)
  generalize hcenv : compEnvC scope (cellsFrom (s.heap.objs.size + 1) scope.names (cloFrom X.env.cells scope.names [])) s.heap.objs.size X.env = cenv
  have kp : ∀ b o, s.heap.get? b = some o → (pushCells (s.heap.push { cls := .type "dict", data := .dict #[] }) scope.names).get? b = some o := fun b o e => pushCells_keeps _ _ _ _ (Heap.get?_push_of_some _ e)
  have hL : cenv.locals = s.heap.objs.size := by rw [← hcenv]; rfl
  have hcl : cenv.cells = cellsFrom (s.heap.objs.size + 1) scope.names (cloFrom X.env.cells scope.names []) := by rw [← hcenv]; rfl
  have hsc : cenv.scope = relS scope X.env.scope := by rw [← hcenv]; rfl
  rw [← Heap.size_push s.heap { cls := .type "dict", data := .dict #[] }] at hcl
  have cm : ∀ {y c}, (y, c) ∈ cloFrom X.env.cells scope.names [] → X.env.cells.lookup y = some c ∧ c < s.heap.objs.size := fun {y c} hm => by
    rcases cloFrom_mem hm with hm | ⟨h1, rfl⟩
    · cases hm
    · obtain ⟨c, hc⟩ := hfree _ h1 rfl
      rw [hc]
      obtain ⟨w, z⟩ := I.cell _ _ hc
      exact ⟨rfl, z.lt⟩
  have mem : ∀ {y c}, cenv.cells.lookup y = some c → (X.env.cells.lookup y = some c ∧ c < s.heap.objs.size) ∨ (s.heap.objs.size + 1 ≤ c ∧ CellAt (pushCells (s.heap.push { cls := .type "dict", data := .dict #[] }) scope.names) c none) := fun {y c} e => by
    rw [hcl] at e
    rcases cells_mem (PySem.mem_of_lookup e) with hm | ⟨_, h2, h3⟩
    · exact .inl (cm hm)
    · rw [Heap.size_push] at h2; exact .inr ⟨h2, h3⟩
  have look : ∀ {y}, scope.names.lookup y = some .free → ∃ c, cenv.cells.lookup y = some c ∧ X.env.cells.lookup y = some c := fun {y} hl => by
    have hy : (y, NameKind.free) ∈ scope.names := PySem.mem_of_lookup hl
    obtain ⟨c', e'⟩ := mem_lookup (cells_acc (names := scope.names) (n := (s.heap.push { cls := .type "dict", data := .dict #[] }).objs.size) (cloFrom_has (cells := X.env.cells) (acc := []) hy))
    rw [← hcl] at e'
    refine ⟨c', e', ?_⟩
    rw [hcl] at e'
    rcases cells_mem (PySem.mem_of_lookup e') with hm | ⟨h1, _, _⟩
    · exact (cm hm).1
    · have := ok.uniq _ h1
      rw [hl] at this; cases this
  have okB : (X.blk s H scope cenv fp).Ok := by
    refine ⟨I.ok.mod, by show cenv.scope.kind = _; rw [hsc]; exact ok.kind, by show cenv.globals = _; rw [← hcenv]; exact I.ok.glob, by show cenv.builtins = _; rw [← hcenv]; exact I.ok.blt, by show s.heap.objs.size ≤ cenv.locals; rw [hL]; exact Nat.le_refl _,
      fun y z c e1 e2 => ?_, fun y hy => ?_, fun y c z e => ?_, I.ok.hd, I.ok.frames, .inl rfl, fun b hb => ⟨?_, fun y c e z => ?_⟩, I.bs, Nat.le_trans I.ok.bsz I.sz, fun b o e hb => ?_, fun b hb z => ?_, I.stack, I.stkFree⟩
    · have e1 : cenv.cells.lookup y = some c := e1
      have e2 : cenv.cells.lookup z = some c := e2
      rw [hcl] at e1 e2
      refine cells_inj (fun p hp => ?_) (fun y z c a b => I.ok.inj y z c (cm a).1 (cm b).1) (PySem.mem_of_lookup e1) (PySem.mem_of_lookup e2)
      rw [Heap.size_push]
      exact Nat.lt_succ_of_lt (cm (y := p.1) (c := p.2) hp).2
    · show ∃ c, cenv.cells.lookup y = some c
      have key : ∀ k, cenv.kindOf y = some k → (k = .cell ∨ k = .free) → ∃ c, cenv.cells.lookup y = some c := fun k hk hk' => by
        unfold Env.kindOf at hk
        rw [hsc] at hk
        obtain ⟨k', e, r⟩ := lookup_relS hk
        have : k' = .cell ∨ k' = .free := by
          rcases r with rfl | ⟨rfl, _⟩
          · exact hk'
          · exact .inr rfl
        rcases this with rfl | rfl
        · obtain ⟨c, hm⟩ := cells_has (n := (s.heap.push { cls := .type "dict", data := .dict #[] }).objs.size) (acc := cloFrom X.env.cells scope.names []) (PySem.mem_of_lookup e)
          obtain ⟨c', e'⟩ := mem_lookup hm
          exact ⟨c', by rw [hcl]; exact e'⟩
        · obtain ⟨c, h1, _⟩ := look e
          exact ⟨c, h1⟩
      rcases hy with hy | hy
      · exact key _ hy (.inl rfl)
      · exact key _ hy (.inr rfl)
    · have z : (scope.names.lookup y == some NameKind.cell) = true := z
      have z : scope.names.lookup y = some .cell := by simpa using z
      have e : cenv.cells.lookup y = some c := e
      rw [hcl] at e
      rcases cells_mem (PySem.mem_of_lookup e) with hm | ⟨_, h2, _⟩
      · rcases cloFrom_mem hm with hm | ⟨h1, _⟩
        · cases hm
        · have q := ok.uniq _ h1
          rw [z] at q; cases q
      · rw [Heap.size_push] at h2
        exact Nat.le_of_succ_le h2
    · show b ≠ cenv.locals
      rw [hL]; exact Nat.ne_of_lt (hfp b hb).2
    · have e : cenv.cells.lookup y = some c := e
      rcases mem e with ⟨h1, _⟩ | ⟨h1, _⟩
      · exact (hfp b hb).1.2.2.2.2.1 y c h1 z
      · have h2 : s.heap.objs.size + 1 ≤ b := by rw [← z]; exact h1
        exact absurd (Nat.lt_of_lt_of_le (hfp b hb).2 (Nat.le_of_succ_le h2)) (Nat.lt_irrefl _)
    · rcases (hfp b hb).1.2.2.2.1 with z | z
      · exact I.ok.noex b o e z
      · exact absurd (Nat.lt_of_lt_of_le (Heap.lt_size e) (Nat.le_trans I.ok.bsz z)) (Nat.lt_irrefl _)
    · rcases List.mem_cons.mp (I.stkSub b z) with z | z
      · exact (hfp b hb).1.2.1 z
      · exact (hfp b hb).1.2.2.1 z
  refine ⟨okB, rfl, I.bare, Un.kept kp, ⟨fun _ => none, ?_, fun i y av e1 e2 e3 => ?_⟩, fun y c e => ?_, ?_, fun y c e => ?_, fun p hp => ?_, I.hok.kept kp, by rw [wipe_length]; exact I.len⟩
  · show Heap.Ns _ cenv.locals _
    rw [hL]
    exact Heap.Ns.keeps (Heap.Ns.new ..) fun b o e => pushCells_keeps _ _ _ _ e
  · obtain ⟨e2, hne⟩ := wipe_some e2
    have hfr : scope.names.lookup y = some .free ∧ (cenv.kindOf y = some .cell ∨ cenv.kindOf y = some .free) := by
      have key : ∀ k, cenv.scope.names.lookup y = some k → k = .local ∨ k = .cell ∨ k = .free → scope.names.lookup y = some .free ∧ (cenv.kindOf y = some .cell ∨ cenv.kindOf y = some .free) := fun k hk hk' => by
        have hk0 := hk
        rw [hsc] at hk
        obtain ⟨k', e, r⟩ := lookup_relS hk
        have no : ¬ (k' = .local ∨ k' = .cell) := fun hh => by
          rcases ok.own _ (PySem.mem_of_lookup e) hh with e' | e'
          · obtain ⟨p, hp, hpy⟩ := List.mem_map.mp e'
            have e3 := ok.ix p hp
            have : p.1 = y := hpy
            rw [this] at e3
            exact hne (List.mem_map.mpr ⟨p, hp, nodup_ix hN e3 e1⟩)
          · exact e' (List.mem_of_getElem? e1)
        rcases r with rfl | ⟨rfl, rfl⟩
        · rcases hk' with rfl | rfl | rfl
          · exact absurd (.inl rfl) no
          · exact absurd (.inr rfl) no
          · exact ⟨e, .inr hk0⟩
        · exact ⟨e, .inl hk0⟩
      have e3 : Vis cenv.scope y := e3
      rcases e3 with e3 | e3 | e3
      · exact key _ e3 (.inl rfl)
      · exact key _ e3 (.inr (.inl rfl))
      · exact key _ e3 (.inr (.inr rfl))
    obtain ⟨m, hn, hl⟩ := I.loc
    have hvis : Vis X.env.scope y := (ok.free _ (PySem.mem_of_lookup hfr.1) rfl).elim (fun k => .inr (.inl k)) (fun k => .inr (.inr k))
    obtain ⟨w, r, q⟩ := hl i y av e1 e2 hvis
    refine ⟨w, r, .inr ⟨hfr.2, ?_⟩⟩
    obtain ⟨c, h1, h2⟩ := look hfr.1
    rcases q with ⟨k, _⟩ | ⟨_, c', e', z⟩
    · have k : X.env.scope.names.lookup y = some .local := k
      rcases ok.free _ (PySem.mem_of_lookup hfr.1) rfl with k' | k' <;> rw [show X.env.scope.names.lookup y = _ from k'] at k <;> cases k
    · rw [h2] at e'; cases e'
      exact ⟨c, h1, z.keeps kp⟩
  · have e : cenv.cells.lookup y = some c := e
    rcases mem e with ⟨h1, _⟩ | ⟨_, z⟩
    · obtain ⟨w, z⟩ := I.cell y c h1
      exact ⟨w, z.keeps kp⟩
    · exact ⟨_, z⟩
  · show H cenv.locals = none
    rw [hL]; exact I.hok.fresh (Nat.le_refl _)
  · have e : cenv.cells.lookup y = some c := e
    rcases mem e with ⟨h1, _⟩ | ⟨h1, _⟩
    · exact I.freeC y c h1
    · exact I.hok.fresh (Nat.le_of_succ_le h1)
  · exact absurd (show p ∈ ([] : List (Addr × Obj)) ++ [] from hp) (by simp)
/-- an item appended to a tracked list -/
theorem app_ok {E : Value → Shared → Prop} {D : Addr} {xs : List V} {y : V} {v : Value} {Q : Value → Shared → Prop} (I : Inv X pins σ H s) (hD : H D = some (.lst xs)) (hz : xs.length < sizeLine) (r : RelV y v)
    (h : ∀ s', Inv X pins σ (upd H D (.lst (xs ++ [y]))) s' → Q .none s') : wpAny (model X.prog X.w) X.A (call (.builtin "list.append") [.ref D, v]) Q E s := by
  obtain ⟨hz', its, n, ri, e⟩ := I.hok D _ hD
  have hl := ri.length
  refine append_at (hsz := by rw [List.size_toArray]; omega) e fun h' sb ho' => ?_
  refine h { s with heap := h' } (I.write (t' := s.toks) (by rw [hD]; trivial) (.inl rfl) (fun b u hb q => (sb.2 b hb).trans q) ⟨_, ho'⟩ ⟨by rw [List.length_append]; exact hz, its ++ [v], n + 1, ri.append (.cons r .nil), ?_⟩)
  rw [ho']
  simp
/-- a clause's tests -/
def PTs (X : Cx) (ifs : List Expr) (t : TT) : Prop :=
  ∀ (pins : List (Addr × Obj)) (s : Shared) (σ : St) (H : Hp) (Q : Bool → Hp → Prop), Inv X pins σ H s → t σ H Q →
    wpAny (model X.prog X.w) X.A (forIn ifs true fun c r => if r = true then do let ok ← isTrue c X.env (eval c X.env); pure (ForInStep.yield ok) else pure (ForInStep.yield r)) (TP X pins σ Q) X.xe s
def tYes : TT := fun _ H Q => Q true H
theorem pts_nil : PTs X [] tYes := fun _ _ _ H _ I h => wpAny_tests_nil ⟨H, I, h⟩
end
theorem thnF {α : Type} {t : Sem α} {Q Q' : α → Shared → Prop} {M : Model} {A : Around} {E : Value → Shared → Prop} {s : Shared} (h : wpAny M A t Q (fun _ _ => False) s) (hQ : ∀ a s, Q a s → Q' a s) : wpAny M A t Q' E s := wpAny_mono h hQ fun _ _ z => False.elim z
/-- the loop of a list comprehension's block, the target of any form (codeAny_compLoop_tests asks a target that no tuple goes to; statement and proof follow it, PyProof/CompMap.lean:41-61, with the step letOwnedTupleGo kept) -/
theorem compLoop_any {prog : Program} {w : World} {A : Around} {R : Result → Shared → Prop} {s : Shared} {elt target iter : Expr} {ifs : List Expr} {scope : Scope} {pos : Pos} {it acc : Value} {env : Env} (I : Nat → Shared → Prop)
    (turn : ∀ n s, I n s → wpAny (model prog w) A (pyNext it) (fun r s₁ => match r with
      | none => R (.ok .next) s₁
      | some v => wpAny (model prog w) A (letOwnedTupleGo target it v) (fun _ s₁' => wpAny (model prog w) A (assign target env v) (fun _ s₂ =>
          wpAny (model prog w) A (forIn ifs true fun c r => if r = true then do let ok ← isTrue c env (eval c env); pure (ForInStep.yield ok) else pure (ForInStep.yield r)) (fun ok s₃ =>
            if ok = true then wpAny (model prog w) A (eval elt env) (fun x s₄ =>
              wpAny (model prog w) A (call (.builtin "list.append") [acc, x]) (fun _ s₅ => ∃ m, m < n ∧ I m s₅) (notedBy (model prog w) A env fun e s' => R (.error e) s') s₄) (notedBy (model prog w) A env fun e s' => R (.error e) s') s₃
            else ∃ m, m < n ∧ I m s₃) (notedBy (model prog w) A env fun e s' => R (.error e) s') s₂) (notedBy (model prog w) A env fun e s' => R (.error e) s') s₁') (notedBy (model prog w) A env fun e s' => R (.error e) s') s₁) (notedBy (model prog w) A env fun e s' => R (.error e) s') s)
    (n : Nat) (h : I n s) :
    codeAny (model prog w) A (.compLoop (.ListComp elt [⟨target, iter, ifs, 0⟩] scope pos) 0 it acc env) R s := by
  refine codeAny_loop rfl I (fun n s hI => ?_) n h
  show wpAny _ A ((compTurn (.ListComp elt [⟨target, iter, ifs, 0⟩] scope pos) 0 it acc env).onRaise (fun x => do noteFrame x env; theTreesLotGoes x)) _ _ s
  refine wpAny_noted ?_
  rw [compTurn_list]
  refine wpAny_bind (wpAny_standAt (wpAny_bind (wpAny_mono (turn n s hI) (fun r s₁ h₁ => ?_) fun _ _ h' => h')))
  cases r with
  | none => exact wpAny_pure h₁
  | some v =>
    refine wpAny_bind (wpAny_mono h₁ (fun _ s₁' h₁' => ?_) fun _ _ h' => h')
    refine wpAny_bind (wpAny_mono h₁' (fun _ s₂ h₂ => wpAny_bind (wpAny_mono h₂ (fun ok s₃ h₃ => ?_) fun _ _ h' => h')) fun _ _ h' => h')
    cases ok with
    | false => exact wpAny_pure ⟨rfl, h₃⟩
    | true =>
      exact wpAny_bind (wpAny_bind (wpAny_mono h₃ (fun x s₄ h₄ => wpAny_bind (wpAny_mono h₄ (fun _ s₅ h₅ => wpAny_pure (wpAny_pure ⟨rfl, h₅⟩)) fun _ _ h' => h')) fun _ _ h' => h'))
section
variable {X : Cx}
/-- [elt for target in iter if ..]: D the new list; W by the turn and a measure, Nx what a turn is to reach -/
def tLc (wi : TI) (g : TG) (tt : TT) (te : TE) (vs : List Nat) : TE := fun σ H Q => wi σ H fun J H1 => ∀ D, H1 D = none → ∃ W : Nat → Nat → Hp → Prop, (∃ m, W 0 m (upd H1 D (.lst []))) ∧ ∀ i m H, W i m H →
  (J.stop i H ∧ Q (.ref D) H) ∨ (J.go i H ∧ ∃ Nx : Hp → Prop, (∀ H', Nx H' → ∃ m', m' < m ∧ W (i + 1) m' H') ∧ ∀ x H', J.yld i H x H' → g x (wipe σ vs) H' fun σ2 H2 => wipe σ2 vs = wipe σ vs ∧ tt σ2 H2 fun b H3 =>
    if b = true then te σ2 H3 fun y H4 => ∃ acc, H4 D = some (.lst acc) ∧ acc.length < sizeLine ∧ Nx (upd H4 D (.lst (acc ++ [y]))) else Nx H3)
theorem lc_core {pins : List (Addr × Obj)} {s : Shared} {σ : St} {H : Hp} {Q : VK} {elt tg iter : Expr} {ifs : List Expr} {scope : Scope} {own : List (Str × Nat)} {pos pos' : Pos} {wi : TI} {g : TG} {tt : TT} {te : TE} {use : Option (Value → Sem Unit)} {Qf : Value → Shared → Prop}
    (hc : X.calm = true) (hN : X.N.Nodup) (I : Inv X pins σ H s) (hi : PI X tg iter wi) (ok : BlkOk X.N X.env.scope scope own)
    (hg : ∀ (s : Shared) (H : Hp) (C : Addr) (cl : List (Str × Addr)) (fp : List Addr), PG (X.blk s H scope (compEnvC scope cl C X.env) fp) tg g) (ht : ∀ (s : Shared) (H : Hp) (C : Addr) (cl : List (Str × Addr)) (fp : List Addr), PTs (X.blk s H scope (compEnvC scope cl C X.env) fp) ifs tt)
    (he : ∀ (s : Shared) (H : Hp) (C : Addr) (cl : List (Str × Addr)) (fp : List Addr), PE (X.blk s H scope (compEnvC scope cl C X.env) fp) elt te) (hs : ∀ x, foldedSetIterable iter X.env x = pure x)
    (h : tLc wi g tt te (own.map (·.2)) σ H Q)
    (hRR : ∀ D C s' m H', Inv X pins σ H' s' → Q (.ref D) H' → s'.heap.Ns C m → FpOk X pins H' C → compPost (model X.prog X.w) X.A X.xe use Qf (.ref D) C (.ok .next) s') :
    wpAny (model X.prog X.w) X.A (comprehension (.ListComp elt [⟨tg, iter, ifs, 0⟩] scope pos) scope X.env pos' (newList []) false (eval iter X.env) use) Qf X.xe s := by
  have hfree : ∀ y ∈ scope.names, y.2 = .free → ∃ c, X.env.cells.lookup y.1 = some c := fun y hy e => by
    rcases ok.free y hy e with k | k
    · exact I.ok.has _ (.inl k)
    · exact I.ok.has _ (.inr k)
  refine wpAny_comprehension_free (use := use) rfl hs (closure_ok hfree) ok.kind (fun y hy e => by rw [ok.uniq y hy, e])
    (thn (hi pins s σ H _ I h) fun xv s1 hx => thn hx fun itv s2 h2 => ?_)
  obtain ⟨it, fp, tn, J, H2, e, I2, T, st2, f2, q⟩ := h2
  subst e
  refine wpAny_newObj_type (newEnv_comp ?_) (by show 0 ≤ sizeLine; decide)
  generalize hD : s2.heap.objs.size = D
  have hDn : H2 D = none := I2.hok.fresh (Nat.le_of_eq hD)
  obtain ⟨W, ⟨m0, w0⟩, turn⟩ := q D hDn
  -- the new list
  generalize hs3 : ({ s2 with heap := s2.heap.push { cls := .type "list", data := .seq ([] : List Value).toArray } } : Shared) = s3
  have I3 : Inv X pins σ (upd H2 D (.lst [])) s3 := by
    rw [← hs3]
    refine I2.laid (t' := s2.toks) (fun b o e => Heap.get?_push_of_some _ e) (Nat.le_of_eq hD) ⟨Nat.zero_le _, [], 0, .nil, ?_⟩
    rw [← hD]
    exact Heap.get?_push_size _ rfl
  have h3 : s3.heap = s2.heap.push { cls := .type "list", data := .seq ([] : List Value).toArray } := by rw [← hs3]
  have sz : ∀ b ∈ fp, b < s2.heap.objs.size := fun b hb => by
    obtain ⟨o, e, _⟩ := T.obj _ _ st2 b hb
    exact Heap.lt_size e
  have f3 : ∀ b ∈ fp, FpOk X pins (upd H2 D (.lst [])) b ∧ b < s3.heap.objs.size := fun b hb => by
    have hlt := sz b hb
    refine ⟨⟨?_, (f2 b hb).2⟩, by rw [h3, Heap.size_push]; exact Nat.lt_succ_of_lt hlt⟩
    rw [upd_ne (by rw [← hD]; exact Nat.ne_of_lt hlt)]
    exact (f2 b hb).1
  have st3 : tn 0 s3.heap := T.keep _ _ _ st2 fun b _ o e => by rw [h3]; exact Heap.get?_push_of_some _ e
  have I4 := block_start I3 ok hN f3
  have pg := hg s3 (upd H2 D (.lst [])) s3.heap.objs.size (cellsFrom (s3.heap.objs.size + 1) scope.names (cloFrom X.env.cells scope.names [])) fp
  have pt := ht s3 (upd H2 D (.lst [])) s3.heap.objs.size (cellsFrom (s3.heap.objs.size + 1) scope.names (cloFrom X.env.cells scope.names [])) fp
  have pe := he s3 (upd H2 D (.lst [])) s3.heap.objs.size (cellsFrom (s3.heap.objs.size + 1) scope.names (cloFrom X.env.cells scope.names [])) fp
  show codeAny _ _ (.compStart (.ListComp elt [⟨tg, iter, ifs, 0⟩] scope pos) 0 (.ref it) (.ref D) (compEnvC scope (cellsFrom (s3.heap.objs.size + 1) scope.names (cloFrom X.env.cells scope.names [])) s3.heap.objs.size X.env)) (compPost (model X.prog X.w) X.A X.xe use Qf (.ref D) s3.heap.objs.size) { s3 with heap := pushCells (s3.heap.push { cls := .type "dict", data := .dict #[] }) scope.names }
  have nfp : ∀ b ∈ fp, (upd H2 D (.lst [])) b = none := fun b hb => (f3 b hb).1.1
  generalize hce : compEnvC scope (cellsFrom (s3.heap.objs.size + 1) scope.names (cloFrom X.env.cells scope.names [])) s3.heap.objs.size X.env = ce at I4 pg pt pe ⊢
  have cL : ce.locals = s3.heap.objs.size := by subst hce; rfl
  generalize hH3 : upd H2 D (.lst []) = H3 at I3 I4 pg pt pe w0 nfp f3
  generalize hs4 : ({ s3 with heap := pushCells (s3.heap.push { cls := .type "dict", data := .dict #[] }) scope.names } : Shared) = s4 at I4 ⊢
  have st4 : tn 0 s4.heap := T.keep _ _ _ st3 fun b _ o e => by rw [← hs4]; exact pushCells_keeps _ _ _ _ (Heap.get?_push_of_some _ e)
  have stat : ∀ {σ' : St} {H' : Hp} {s' : Shared}, Inv (X.blk s3 H3 scope ce fp) [] σ' H' s' → (∀ b ∈ fp, H' b = none) → ∀ b ∈ fp, FpOk (X.blk s3 H3 scope ce fp) [] H' b := fun {σ' H' s'} I' hn b hb =>
    ⟨hn b hb, (I'.ok.exf b hb).1, I'.ok.exfs b hb, .inl hb, fun x c e => (I'.ok.exf b hb).2 x c e, fun p hp => absurd (show p ∈ ([] : List (Addr × Obj)) ++ [] from hp) (by simp)⟩
  have loop : codeAny (model X.prog X.w) X.A (.compLoop (.ListComp elt [⟨tg, iter, ifs, 0⟩] scope pos) 0 (.ref it) (.ref D) ce) (compPost (model X.prog X.w) X.A X.xe use Qf (.ref D) s3.heap.objs.size) s4 := by
    refine compLoop_any (fun n s' => ∃ i H', Inv (X.blk s3 H3 scope ce fp) [] (wipe σ (own.map (·.2))) H' s' ∧ tn i s'.heap ∧ (∀ b ∈ fp, H' b = none) ∧ W i n H') ?_ m0 ⟨0, H3, I4, st4, nfp, w0⟩
    rintro n s5 ⟨i, H5, I5, st5, n5, w5⟩
    rcases turn i n H5 w5 with ⟨stop, qq⟩ | ⟨go, Nx, hNx, step⟩
    · have td := T.done (X.blk s3 H3 scope ce fp) rfl rfl rfl hc i [] s5 _ H5 (fun _ _ => False) I5 (stat I5 n5) st5 stop
      refine thnF td fun r s6 ⟨hr, I6⟩ => ?_
      subst hr
      -- back in the def's context
      have I7 : Inv X pins σ H5 s6 := I3.call' (ch := fp) I6.os I6.base I6.hok I6.bare fun b hb => ⟨(f3 b hb).1.2.2.2.1, (f3 b hb).1.2.1, (f3 b hb).1.2.2.2.2.1, (f3 b hb).1.2.2.2.2.2⟩
      have nC : H5 s3.heap.objs.size = none := by
        have z : H5 ce.locals = none := I6.free
        rw [cL] at z
        exact z
      obtain ⟨m, hn, _⟩ := I6.loc
      have hn : s6.heap.Ns ce.locals m := hn
      rw [cL] at hn
      exact hRR D s3.heap.objs.size s6 m H5 I7 qq hn (I3.fpOk (Nat.le_refl _) nC)
    · have ti := T.item (X.blk s3 H3 scope ce fp) rfl rfl rfl hc i [] s5 _ H5 (fun _ _ => False) I5 (stat I5 n5) st5 go
      refine thnF ti fun r s6 ⟨u, hr, h6⟩ => ?_
      subst hr
      refine thnF h6 fun _ s7 ⟨x, H7, I7, r7, y7, st7, n7⟩ => ?_
      have I7' := I7.pinned (stat I7 n7) (T.obj _ _ st7)
      refine thnF (pg _ s7 _ H7 x u _ I7' r7 (step x H7 y7)) fun _ s8 ⟨σ8, H8, I8, hw8, q8⟩ => ?_
      refine thnF (pt _ s8 σ8 H8 _ I8 q8) fun b s9 ⟨H9, I9, q9⟩ => ?_
      -- the turn's end
      have fin : ∀ {s' : Shared} {H' : Hp}, Inv (X.blk s3 H3 scope ce fp) ([] ++ pinsAt fp s7.heap) σ8 H' s' → Nx H' → ∃ m, m < n ∧ ∃ i H', Inv (X.blk s3 H3 scope ce fp) [] (wipe σ (own.map (·.2))) H' s' ∧ tn i s'.heap ∧ (∀ b ∈ fp, H' b = none) ∧ W i m H' := fun {s' H'} I' nx => by
        obtain ⟨m', hm, w'⟩ := hNx H' nx
        have pin' : ∀ b ∈ fp, ∀ o, s7.heap.get? b = some o → s'.heap.get? b = some o ∧ H' b = none := fun b hb o e =>
          let z := I'.pin (b, o) (List.mem_append_right _ (List.mem_append_right _ (mem_pinsAt hb e)))
          ⟨z.1, z.2.1⟩
        have hl : (wipe σ (own.map (·.2))).length = σ8.length := by rw [← hw8, wipe_length]
        refine ⟨m', hm, i + 1, H', (I'.unpinned (pins := [])).weak hl (fun j v e => ?_), T.keep _ _ _ st7 fun b hb o e => (pin' b hb o e).1, fun b hb => ?_, w'⟩
        · rw [← hw8] at e
          exact (wipe_some e).1
        · obtain ⟨o, e, _⟩ := T.obj _ _ st7 b hb
          exact (pin' b hb o e).2
      cases b with
      | false =>
        simp only [Bool.false_eq_true, if_false] at q9 ⊢
        exact fin I9 q9
      | true =>
        simp only [if_true] at q9 ⊢
        refine thnF (pe _ s9 σ8 H9 _ I9 q9) fun z s10 ⟨yv, H10, I10, r10, acc, hD10, hz10, nx⟩ => ?_
        exact app_ok (X := X.blk s3 H3 scope ce fp) I10 hD10 hz10 r10 fun s11 I11 => fin I11 nx
  exact codeAny_compStart_list loop (T.self X.A 0 _ _ _ st4 loop)
/-- as a value -/
theorem pe_lc {elt tg iter : Expr} {ifs : List Expr} {scope : Scope} {own : List (Str × Nat)} {pos : Pos} {wi : TI} {g : TG} {tt : TT} {te : TE} (hc : X.calm = true) (hN : X.N.Nodup) (hi : PI X tg iter wi) (ok : BlkOk X.N X.env.scope scope own)
    (hg : ∀ (s : Shared) (H : Hp) (C : Addr) (cl : List (Str × Addr)) (fp : List Addr), PG (X.blk s H scope (compEnvC scope cl C X.env) fp) tg g) (ht : ∀ (s : Shared) (H : Hp) (C : Addr) (cl : List (Str × Addr)) (fp : List Addr), PTs (X.blk s H scope (compEnvC scope cl C X.env) fp) ifs tt)
    (he : ∀ (s : Shared) (H : Hp) (C : Addr) (cl : List (Str × Addr)) (fp : List Addr), PE (X.blk s H scope (compEnvC scope cl C X.env) fp) elt te) (hs : ∀ x, foldedSetIterable iter X.env x = pure x := by intro _; rfl) :
    PE X (.ListComp elt [⟨tg, iter, ifs, 0⟩] scope pos) (tLc wi g tt te (own.map (·.2))) := by
  intro pins s σ H Q I h
  rw [eval_ListComp]
  refine lc_core hc hN I hi ok hg ht he hs h fun D C s' m H' I' q hn f => ⟨m, hn, fun h'' sb => ?_⟩
  obtain ⟨f0, f1, f2, f3, f4, f5⟩ := f
  exact ⟨.ref D, H', I'.turned (t' := s'.toks) (fun b o hb e => (sb.2 b hb).trans e) f0 f1 f3 f4 f5, rfl, q⟩
/-- name = [..] on one line, the name a local -/
theorem ps_setLc {i : Nat} {y : Str} {py : Pos} {elt tg iter : Expr} {ifs : List Expr} {scope : Scope} {own : List (Str × Nat)} {pos spos : Pos} {wi : TI} {g : TG} {tt : TT} {te : TE} (hc : X.calm = true) (hN : X.N.Nodup) (hy : X.N[i]? = some y) (hyl : X.env.scope.names.lookup y = some .local)
    (hsw : swapsWith (.ListComp elt [⟨tg, iter, ifs, 0⟩] scope pos) (some (.Name y py)) spos.line X.env = pure true) (hi : PI X tg iter wi) (ok : BlkOk X.N X.env.scope scope own)
    (hg : ∀ (s : Shared) (H : Hp) (C : Addr) (cl : List (Str × Addr)) (fp : List Addr), PG (X.blk s H scope (compEnvC scope cl C X.env) fp) tg g) (ht : ∀ (s : Shared) (H : Hp) (C : Addr) (cl : List (Str × Addr)) (fp : List Addr), PTs (X.blk s H scope (compEnvC scope cl C X.env) fp) ifs tt)
    (he : ∀ (s : Shared) (H : Hp) (C : Addr) (cl : List (Str × Addr)) (fp : List Addr), PE (X.blk s H scope (compEnvC scope cl C X.env) fp) elt te) (hs : ∀ x, foldedSetIterable iter X.env x = pure x := by intro _; rfl) :
    PS X (.Assign [.Name y py] (.ListComp elt [⟨tg, iter, ifs, 0⟩] scope pos) spos) (tAsg (tLc wi g tt te (own.map (·.2))) (gName i)) := by
  intro pins s σ H D I h
  rw [exec_Assign_Name_used _ _ _ _ hsw]
  refine wpAny_bind (wpAny_standAt (wpAny_bind ?_))
  show wpAny _ X.A (do let _ ← comprehension (.ListComp elt [⟨tg, iter, ifs, 0⟩] scope pos) scope X.env (firstIterPos [⟨tg, iter, ifs, 0⟩] pos) (newList []) false (eval iter X.env) (some (assign (.Name y py) X.env))) _ _ s
  have h : tLc wi g tt te (own.map (·.2)) σ H (fun x H1 => gName i x σ H1 D.nx) := h
  refine wpAny_bind (thn (lc_core (Qf := fun _ s' => SP X pins D .next s') hc hN I hi ok hg ht he hs h fun L C s' m H' I' q hn f => ?_) fun _ s' hq => wpAny_pure (wpAny_pure hq))
  show wpAny _ _ (assign (.Name y py) X.env (.ref L)) _ _ _
  refine wpAny_assign_Name (store_ok2 (v := V.ref L) I' hN hy (.inl hyl) rfl (fun s2 I2 ⟨a, sb, ha⟩ => ?_) (.inr hyl))
  obtain ⟨f0, f1, f2, f3, f4, f5⟩ := f
  have haC : C ≠ a := by
    rcases ha with z | z
    · rw [z]; exact f1
    · exact fun e => f4 y a z e.symm
  refine ⟨m, hn.sameBut sb haC, fun h3 sb3 => ?_⟩
  exact ⟨_, H', I2.turned (t' := s2.toks) (fun b o hb e => (sb3.2 b hb).trans e) f0 f1 f3 f4 f5, q⟩
theorem sw_true {elt : Expr} {gs : List Comprehension} {scope : Scope} {pos py : Pos} {y : Str} {l : Nat} {env : Env} (hk : env.scope.kind = .function) (hy : env.scope.names.lookup y = some .local) (hl : (py.line == pos.line) = true)
    (ha : (scope.names.any fun (n, k) => n == y && (k == .local || k == .cell)) = false) : swapsWith (.ListComp elt gs scope pos) (some (.Name y py)) l env = pure true := by
  have ky : env.kindOf y = some .local := hy
  have hb : env.blockKind = .function := by unfold Env.blockKind; rw [hk]; rfl
  unfold swapsWith
  simp only [hb, ky, ha, Expr.pos, hl]
  rfl
end
/-- over a range: Pv by the turn and the heap (the new list at D within) -/
theorem lc_range {lo : Int} {n : Nat} {g : TG} {tt : TT} {te : TE} {vs : List Nat} {σ : St} {H1 : Hp} {D : Addr} {Qd : Hp → Prop} (Pv : Nat → Hp → Prop) (h0 : Pv 0 (upd H1 D (.lst [])))
    (hs : ∀ i H, i < n → Pv i H → g (.int (lo + i)) (wipe σ vs) H fun σ2 H2 => wipe σ2 vs = wipe σ vs ∧ tt σ2 H2 fun b H3 =>
      if b = true then te σ2 H3 fun y H4 => ∃ acc, H4 D = some (.lst acc) ∧ acc.length < sizeLine ∧ Pv (i + 1) (upd H4 D (.lst (acc ++ [y]))) else Pv (i + 1) H3) (hd : ∀ H, Pv n H → Qd H) :
    ∃ W : Nat → Nat → Hp → Prop, (∃ m, W 0 m (upd H1 D (.lst []))) ∧ ∀ i m H, W i m H →
      ((Itr lo n).stop i H ∧ Qd H) ∨ ((Itr lo n).go i H ∧ ∃ Nx : Hp → Prop, (∀ H', Nx H' → ∃ m', m' < m ∧ W (i + 1) m' H') ∧ ∀ x H', (Itr lo n).yld i H x H' → g x (wipe σ vs) H' fun σ2 H2 => wipe σ2 vs = wipe σ vs ∧ tt σ2 H2 fun b H3 =>
        if b = true then te σ2 H3 fun y H4 => ∃ acc, H4 D = some (.lst acc) ∧ acc.length < sizeLine ∧ Nx (upd H4 D (.lst (acc ++ [y]))) else Nx H3) := by
  refine ⟨fun i m H => m = n - i ∧ i ≤ n ∧ Pv i H, ⟨n, by simp, Nat.zero_le _, h0⟩, ?_⟩
  rintro i m H ⟨rfl, hi, p⟩
  by_cases hlt : i < n
  · refine .inr ⟨hlt, Pv (i + 1), fun H' p' => ⟨n - (i + 1), by omega, rfl, hlt, p'⟩, fun x H' y => ?_⟩
    obtain ⟨e, y⟩ := y
    subst e y
    exact hs i _ hlt p
  · have e : i = n := by omega
    subst e
    exact .inl ⟨Nat.le_refl _, hd H p⟩
/-- over a list that the block leaves as it is -/
theorem lc_list {K : PySem.W.Frag} {a : Addr} {xs : List V} {g : TG} {tt : TT} {te : TE} {vs : List Nat} {σ : St} {H1 : Hp} {D : Addr} {Qd : Hp → Prop} (Pv : Nat → Hp → Prop) (h0 : Pv 0 (upd H1 D (.lst []))) (hl : ∀ i H, i ≤ xs.length → Pv i H → SqL K H a xs)
    (hs : ∀ i x H, xs[i]? = some x → Pv i H → g x (wipe σ vs) H fun σ2 H2 => wipe σ2 vs = wipe σ vs ∧ tt σ2 H2 fun b H3 =>
      if b = true then te σ2 H3 fun y H4 => ∃ acc, H4 D = some (.lst acc) ∧ acc.length < sizeLine ∧ Pv (i + 1) (upd H4 D (.lst (acc ++ [y]))) else Pv (i + 1) H3) (hd : ∀ H, Pv xs.length H → Qd H) :
    ∃ W : Nat → Nat → Hp → Prop, (∃ m, W 0 m (upd H1 D (.lst []))) ∧ ∀ i m H, W i m H →
      ((Itl K a).stop i H ∧ Qd H) ∨ ((Itl K a).go i H ∧ ∃ Nx : Hp → Prop, (∀ H', Nx H' → ∃ m', m' < m ∧ W (i + 1) m' H') ∧ ∀ x H', (Itl K a).yld i H x H' → g x (wipe σ vs) H' fun σ2 H2 => wipe σ2 vs = wipe σ vs ∧ tt σ2 H2 fun b H3 =>
        if b = true then te σ2 H3 fun y H4 => ∃ acc, H4 D = some (.lst acc) ∧ acc.length < sizeLine ∧ Nx (upd H4 D (.lst (acc ++ [y]))) else Nx H3) := by
  refine ⟨fun i m H => m = xs.length - i ∧ i ≤ xs.length ∧ Pv i H, ⟨xs.length, by simp, Nat.zero_le _, h0⟩, ?_⟩
  rintro i m H ⟨rfl, hi, p⟩
  have q := hl i H hi p
  by_cases hlt : i < xs.length
  · refine .inr ⟨⟨xs, xs[i], q, by simp [hlt]⟩, Pv (i + 1), fun H' p' => ⟨xs.length - (i + 1), by omega, rfl, hlt, p'⟩, fun x H' y => ?_⟩
    obtain ⟨e, y⟩ := y
    subst e
    exact hs i x _ (y xs q) p
  · have e : i = xs.length := by omega
    subst e
    exact .inl ⟨⟨xs, q, Nat.le_refl _⟩, hd H p⟩
def blkC (N : List Str) (sc scope : Scope) (own : List (Str × Nat)) : Bool :=
  (match scope.kind with | .function => true | _ => false) && (scope.names.all fun y => decide (scope.names.lookup y.1 = some y.2)) && (own.all fun p => decide (N[p.2]? = some p.1)) &&
    (scope.names.all fun y => match y.2 with
      | .free => (match sc.names.lookup y.1 with | some .cell => true | some .free => true | _ => false)
      | .local => decide (y.1 ∈ own.map (·.1)) || decide (y.1 ∉ N)
      | .cell => decide (y.1 ∈ own.map (·.1)) || decide (y.1 ∉ N)
      | _ => true)
theorem blkOk_by {N : List Str} {sc scope : Scope} {own : List (Str × Nat)} (h : blkC N sc scope own = true) : BlkOk N sc scope own := by
  unfold blkC at h
  simp only [Bool.and_eq_true, List.all_eq_true, decide_eq_true_eq] at h
  obtain ⟨⟨⟨h1, h2⟩, h3⟩, h4⟩ := h
  refine ⟨?_, h2, h3, fun y hy e => ?_, fun y hy e => ?_⟩
  · split at h1
    · assumption
    · cases h1
  · have q := h4 y hy
    simp only [e] at q
    split at q <;> first | exact .inl (by assumption) | exact .inr (by assumption) | cases q
  · have q := h4 y hy
    rcases e with e | e <;> (simp only [e, Bool.or_eq_true, decide_eq_true_eq] at q; exact q)
end L2
namespace L2
open PySem PySem.Spec PyProof.Rows
section
variable {prog : Program} {w : World} {A : Around} {R : Result → Shared → Prop} {s : Shared} {elt t0 i0 t1 i1 : Expr} {ifs0 ifs1 : List Expr} {scope : Scope} {pos : Pos} {it acc : Value} {env : Env}
end
section
variable {X : Cx}
/-- [elt for tg in iter if .. for tg1 in iter1 if ..]: behind the first clause's store and tests the second source's own loop, from which Nx is reached. vs: the block's names; vs1: those of the second target -/
def tLc2 (wi : TI) (g : TG) (tt : TT) (wi1 : TI) (g1 : TG) (tt1 : TT) (te : TE) (vs vs1 : List Nat) : TE := fun σ H Q => wi σ H fun J H1 => ∀ D, H1 D = none → ∃ W : Nat → Nat → Hp → Prop, (∃ m, W 0 m (upd H1 D (.lst []))) ∧ ∀ i m H, W i m H →
  (J.stop i H ∧ Q (.ref D) H) ∨ (J.go i H ∧ ∃ Nx : Hp → Prop, (∀ H', Nx H' → ∃ m', m' < m ∧ W (i + 1) m' H') ∧ ∀ x H', J.yld i H x H' → g x (wipe σ vs) H' fun σ2 H2 => wipe σ2 vs = wipe σ vs ∧ tt σ2 H2 fun b H3 =>
    if b = true then wi1 σ2 H3 fun J1 H4 => ∃ W1 : Nat → Nat → Hp → Prop, (∃ m, W1 0 m H4) ∧ ∀ j k H, W1 j k H →
      (J1.stop j H ∧ Nx H) ∨ (J1.go j H ∧ ∃ Nx1 : Hp → Prop, (∀ H', Nx1 H' → ∃ k', k' < k ∧ W1 (j + 1) k' H') ∧ ∀ x H', J1.yld j H x H' → g1 x (wipe σ2 vs1) H' fun σ3 H5 => wipe σ3 vs1 = wipe σ2 vs1 ∧ tt1 σ3 H5 fun b H6 =>
        if b = true then te σ3 H6 fun y H7 => ∃ acc, H7 D = some (.lst acc) ∧ acc.length < sizeLine ∧ Nx1 (upd H7 D (.lst (acc ++ [y]))) else Nx1 H6)
    else Nx H3)
end
end L2
namespace L2
open PySem PySem.Spec PyProof.Rows
section
variable {κ : Type} [DecidableEq κ]
def valV (kvs : List (κ × V)) (k : κ) : Option V := (kvs.find? fun kv => decide (kv.1 = k)).map (·.2)
/-- in its place, or at the end -/
def putK (kvs : List (κ × V)) (k : κ) (v : V) : List (κ × V) :=
  if (kvs.any fun kv => decide (kv.1 = k)) = true then kvs.map (fun kv => if kv.1 = k then (kv.1, v) else kv) else kvs ++ [(k, v)]
def dropK (kvs : List (κ × V)) (k : κ) : List (κ × V) := kvs.filter fun kv => decide (kv.1 ≠ k)
end
/-- raw entries of a dict with tuple keys -/
abbrev KT (H : Hp) : List (List Key × V) → List (List Key × Addr × Value) → Prop := Paired fun p q => p.1 = q.1 ∧ H q.2.1 = some (.tup (p.1.map kV)) ∧ RelV p.2 q.2.2
section
variable {P : Program} {w : World} {H : Hp} {h : Heap} {a : Addr}
end
/-- what the dict at a holds at the key y -/
def DGet (H : Hp) (a : Addr) (y : V) (r : Option V) : Prop :=
  (∃ kvs k, Rd H a (.dK kvs) ∧ y = kV k ∧ r = valV kvs k) ∨ ∃ kvs k b, Rd H a (.dT kvs) ∧ y = .ref b ∧ H b = some (.tup (k.map kV)) ∧ r = valV kvs k
/-- the heap behind a[y] = v -/
def DPut (H : Hp) (a : Addr) (y v : V) (H' : Hp) : Prop :=
  (∃ kvs k, H a = some (.dK kvs) ∧ y = kV k ∧ kvs.length < sizeLine ∧ H' = upd H a (.dK (putK kvs k v))) ∨
  ∃ kvs k b, H a = some (.dT kvs) ∧ y = .ref b ∧ H b = some (.tup (k.map kV)) ∧ kvs.length < sizeLine ∧ H' = upd H a (.dT (putK kvs k v))
section
variable {X : Cx} {pins : List (Addr × Obj)} {σ : St} {H : Hp} {s : Shared} {a : Addr} {y v : V} {u r : Value} {o : Option V} {A : Around} {E : Value → Shared → Prop}
end
section
variable {X : Cx} {pins : List (Addr × Obj)} {σ : St} {H : Hp} {s : Shared} {a : Addr} {kvs : List (Key × V)} {k : Key} {u : Value} {A : Around} {E : Value → Shared → Prop}
end
/-- the element of a subscription, not a slice -/
def NoSl (i : Expr) : Prop := ∀ ov iv, subscripted i false ov iv = operate [ov, iv] (getItem ov iv)
/-- d[y] -/
def tDGet (td ty : TE) : TE := fun σ H Q => td σ H fun x H1 => ty σ H1 fun y H2 => ∃ a v, x = .ref a ∧ DGet H2 a y (some v) ∧ Q v H2
/-- y in d, y not in d -/
def tDIn (ty td : TE) : TE := fun σ H Q => ty σ H fun y H1 => td σ H1 fun x H2 => ∃ a o, x = .ref a ∧ DGet H2 a y o ∧ Q (.bl o.isSome) H2
def tDNotIn (ty td : TE) : TE := fun σ H Q => ty σ H fun y H1 => td σ H1 fun x H2 => ∃ a o, x = .ref a ∧ DGet H2 a y o ∧ Q (.bl (!o.isSome)) H2
/-- d[y] = v -/
def sDPut (td ty tv : TE) : TS := fun D σ H => tv σ H fun v H1 => td σ H1 fun x H2 => ty σ H2 fun y H3 => ∃ a H4, x = .ref a ∧ DPut H3 a y v H4 ∧ D.nx σ H4
/-- d[y] op= v -/
def sDAug (td ty tv : TE) (rd : V → V → Hp → VK → Prop) : TS := fun D σ H => td σ H fun x H1 => ty σ H1 fun y H2 => ∃ a v, x = .ref a ∧ DGet H2 a y (some v) ∧
  tv σ H2 fun y2 H3 => rd v y2 H3 fun z H4 => ∃ H5, DPut H4 a y z H5 ∧ D.nx σ H5
/-- del d[y] -/
def sDDel (td ty : TE) : TS := fun D σ H => td σ H fun x H1 => ty σ H1 fun y H2 => ∃ a kvs k, x = .ref a ∧ H2 a = some (.dK kvs) ∧ y = kV k ∧ (valV kvs k).isSome = true ∧ D.nx σ (upd H2 a (.dK (dropK kvs k)))
section
variable {X : Cx} {o i e value : Expr} {pos pos' tpos : Pos} {td ty tv : TE}
end
/-- {}, to be a dict of the kind that is wanted -/
def tDNewK : TE := fun _ H Q => ∀ p, H p = none → Q (.ref p) (upd H p (.dK []))
def tDNewT : TE := fun _ H Q => ∀ p, H p = none → Q (.ref p) (upd H p (.dT []))
section
variable {X : Cx} {pos : Pos}
end
/-- the pairs of a display, from the left -/
def tPairs : List (TE × TE) → St → Hp → (List (V × V) → Hp → Prop) → Prop
  | [], _, H, Q => Q [] H
  | (tk, tv) :: r, σ, H, Q => tk σ H fun x H1 => tv σ H1 fun y H2 => tPairs r σ H2 fun ps H3 => Q ((x, y) :: ps) H3
abbrev VV : List (V × V) → List (Value × Value) → Prop := Paired fun p q => RelV p.1 q.1 ∧ RelV p.2 q.2
def PPs (X : Cx) (pos : Pos) (keys : List (Option Expr)) (values : List Expr) (trs : List (TE × TE)) : Prop :=
  ∀ (pins : List (Addr × Obj)) (s : Shared) (σ : St) (H : Hp) (Q : List (V × V) → Hp → Prop), Inv X pins σ H s → tPairs trs σ H Q →
    wpAny (model X.prog X.w) X.A (evalPairs (pairTrees keys values X.env pos)) (fun vs s' => ∃ ps H', Inv X pins σ H' s' ∧ VV ps vs ∧ Q ps H') X.xe s
def mergeK (kvs more : List (Key × V)) : List (Key × V) := more.foldl (fun acc kv => putK acc kv.1 kv.2) kvs
/-- {k: v, ..} with keys ints and texts; the new dict stands empty while the pairs are made -/
def tDisp (trs : List (TE × TE)) : TE := fun σ H Q => ∀ p, H p = none → tPairs trs σ (upd H p (.dK [])) fun ps H2 => H2 p = some (.dK []) ∧ ∃ kvs : List (Key × V), ps = kvs.map (fun kv => (kV kv.1, kv.2)) ∧ kvs.length ≤ 15 ∧ Q (.ref p) (upd H2 p (.dK (mergeK [] kvs)))
/-- a method call o.m(e) of a built-in, with one argument: what must be seen of the text -/
structure M1 (X : Cx) (o : Expr) (m : Str) (apos : Pos) (e : Expr) (cpos : Pos) : Prop where
  base : attributeBase o m X.env (eval o X.env) = eval o X.env
  few : ((backTo cpos (starEach [e] X.env)).all (fun x => !x.1) && (backToKw cpos (keywordEach [] X.env)).all (fun x => x.1.isSome)
    && decide (([e] : List Expr).length + ([] : List Keyword).length + (if ([] : List Keyword).isEmpty then 0 else 1) < 30)) = true
  line : (apos.endLine == cpos.line) = true
  trees : backTo cpos (starEach [e] X.env) = [(false, eval e X.env)]
structure M2 (X : Cx) (o : Expr) (m : Str) (apos : Pos) (e f : Expr) (cpos : Pos) : Prop where
  base : attributeBase o m X.env (eval o X.env) = eval o X.env
  few : ((backTo cpos (starEach [e, f] X.env)).all (fun x => !x.1) && (backToKw cpos (keywordEach [] X.env)).all (fun x => x.1.isSome)
    && decide (([e, f] : List Expr).length + ([] : List Keyword).length + (if ([] : List Keyword).isEmpty then 0 else 1) < 30)) = true
  line : (apos.endLine == cpos.line) = true
  trees : backTo cpos (starEach [e, f] X.env) = [(false, eval e X.env), (false, eval f X.env)]
/-- a is a dict, whatever its keys -/
def IsD (H : Hp) (a : Addr) : Prop := (∃ kvs, Rd H a (.dK kvs)) ∨ ∃ kvs, Rd H a (.dT kvs)
section
variable {X : Cx} {pins : List (Addr × Obj)} {σ : St} {H : Hp} {s : Shared} {a : Addr} {y d : V} {u r : Value} {o : Option V} {A : Around} {E : Value → Shared → Prop}
end
def tDGet1 (td ty : TE) : TE := fun σ H Q => td σ H fun x H1 => ∃ a, x = .ref a ∧ IsD H1 a ∧ ty σ H1 fun y H2 => ∃ o, DGet H2 a y o ∧ Q (o.getD .non) H2
def tDGet2 (td ty tx : TE) : TE := fun σ H Q => td σ H fun x H1 => ∃ a, x = .ref a ∧ IsD H1 a ∧ ty σ H1 fun y H2 => tx σ H2 fun z H3 => ∃ o, DGet H3 a y o ∧ Q (o.getD z) H3
/-- d.pop(k): there; d.pop(k, x): there or not -/
def tDPop1 (td ty : TE) : TE := fun σ H Q => td σ H fun x H1 => ∃ a, x = .ref a ∧ IsD H1 a ∧ ty σ H1 fun y H2 => ∃ kvs k v, H2 a = some (.dK kvs) ∧ y = kV k ∧ valV kvs k = some v ∧ Q v (upd H2 a (.dK (dropK kvs k)))
def tDPop2 (td ty tx : TE) : TE := fun σ H Q => td σ H fun x H1 => ∃ a, x = .ref a ∧ IsD H1 a ∧ ty σ H1 fun y H2 => tx σ H2 fun z H3 => ∃ kvs k, H3 a = some (.dK kvs) ∧ y = kV k ∧
  (∀ v, valV kvs k = some v → Q v (upd H3 a (.dK (dropK kvs k)))) ∧ (valV kvs k = none → Q z H3)
section
variable {X : Cx} {o e f : Expr} {apos cpos : Pos} {td ty tx : TE}
end
section
variable {X : Cx} {pins : List (Addr × Obj)} {σ : St} {H : Hp} {s : Shared} {a : Addr} {kvs : List (Key × V)} {A : Around} {E : Value → Shared → Prop}
end
section
variable {X : Cx} {pins : List (Addr × Obj)} {σ : St} {H : Hp} {s : Shared} {a : Addr} {y : V} {u : Value} {A : Around} {E : Value → Shared → Prop}
end
end L2
namespace L2
open PySem PySem.Spec PyProof.Rows
section
variable {prog : Program} {w : World} {A : Around} {E : Value → Shared → Prop}
end
section
variable {X : Cx}
end
end L2
namespace L2
open PySem PySem.Spec PyProof.Rows
section
variable {X : Cx} {pins : List (Addr × Obj)} {σ : St} {H : Hp} {s : Shared} {h' : Heap}
end
/-- the statement runs while the thing at d is locked (read, not written); d and what stands there are the reading's choice -/
def tLock (t : TS) : TS := fun D σ H => ∃ d u, H d = some u ∧ Mut (some u) ∧ ∀ od, t ⟨fun σ' H' => H' d = some (.frz od u) ∧ D.nx σ' (upd H' d u), fun v H' => H' d = some (.frz od u) ∧ D.rt v (upd H' d u), fun σ' H' => H' d = some (.frz od u) ∧ D.bk σ' (upd H' d u), fun σ' H' => H' d = some (.frz od u) ∧ D.ct σ' (upd H' d u)⟩ σ (upd H d (.frz od u))
def tLockE (t : TE) : TE := fun σ H Q => ∃ d u, H d = some u ∧ Mut (some u) ∧ ∀ od, t σ (upd H d (.frz od u)) fun v H' => H' d = some (.frz od u) ∧ Q v (upd H' d u)
section
variable {X : Cx}
end
/-- lo, lo + c, .. (n of them) -/
def Itc (lo c : Int) (n : Nat) : It := ⟨fun i _ => i < n, fun i H x H' => H' = H ∧ x = .int (lo + (i : Nat) * c), fun i _ => n ≤ i⟩
/-- range(i, j, c): small bounds, n items -/
def RgC (i j c : Int) (n : Nat) : Prop := c ≠ 0 ∧ c.natAbs < 1073741824 ∧ Builtin.Range.small i j c = true ∧ Builtin.Range.rangeSize i j c = n
def iRng3 (ta : TA) : TI := fun σ H R => ta σ H fun vs H1 => ∃ (i j c : Int) (n : Nat), vs = [.int i, .int j, .int c] ∧ RgC i j c n ∧ R (Itc i c n) H1
section
variable {X : Cx} {tg : Expr}
end
/-- the list at a (n items at the start, which the loop leaves there), from its end -/
def Itv (K : PySem.W.Frag) (a : Addr) (n : Nat) : It :=
  ⟨fun i H => i < n ∧ ∃ (xs : List V) (x : V), SqL K H a xs ∧ xs[n - 1 - i]? = some x, fun i H x H' => H' = H ∧ ∀ xs, SqL K H a xs → xs[n - 1 - i]? = some x, fun i _ => n ≤ i⟩
def iRev (K : PySem.W.Frag) (ta : TA) : TI := fun σ H R => ta σ H fun vs H1 => ∃ (a : Addr) (xs : List V), vs = [.ref a] ∧ SqL K H1 a xs ∧ R (Itv K a xs.length) H1
section
variable {X : Cx} {tg : Expr}
end
def Its (x : Str) : It := ⟨fun i _ => i < x.cps.size, fun i H v H' => H' = H ∧ ∃ c, x.cps[i]? = some c ∧ v = .str ⟨#[c]⟩, fun i _ => x.cps.size ≤ i⟩
def iStr (te : TE) : TI := fun σ H R => te σ H fun v H1 => ∃ x, v = .str x ∧ R (Its x) H1
section
variable {prog : Program} {w : World} {A : Around} {E : Value → Shared → Prop} {s : Shared}
end
section
variable {X : Cx} {pins : List (Addr × Obj)} {σ : St} {H : Hp} {s : Shared} {d : Addr} {o : Obj}
end
/-- the keys of the locked dict at d, in their order -/
def Itk (d : Addr) (o : Obj) (kvs : List (Key × V)) : It :=
  ⟨fun i H => H d = some (.frz o (.dK kvs)) ∧ i < kvs.length, fun i H x H' => H' = H ∧ ∃ k v, kvs[i]? = some (k, v) ∧ x = kV k, fun i H => H d = some (.frz o (.dK kvs)) ∧ kvs.length ≤ i⟩
/-- .. of tuple keys: the key's own tuple -/
def Itkt (d : Addr) (o : Obj) (kvs : List (List Key × V)) : It :=
  ⟨fun i H => H d = some (.frz o (.dT kvs)) ∧ i < kvs.length, fun i H x H' => H' = H ∧ ∃ (k : List Key) (v : V) (q : Addr), kvs[i]? = some (k, v) ∧ x = .ref q ∧ H q = some (.tup (k.map kV)), fun i H => H d = some (.frz o (.dT kvs)) ∧ kvs.length ≤ i⟩
/-- the values -/
def Itd (d : Addr) (o : Obj) (kvs : List (Key × V)) : It :=
  ⟨fun i H => H d = some (.frz o (.dK kvs)) ∧ i < kvs.length, fun i H x H' => H' = H ∧ ∃ k, kvs[i]? = some (k, x), fun i H => H d = some (.frz o (.dK kvs)) ∧ kvs.length ≤ i⟩
/-- the pairs, each a new tuple -/
def Iti (d : Addr) (o : Obj) (kvs : List (Key × V)) : It :=
  ⟨fun i H => H d = some (.frz o (.dK kvs)) ∧ i < kvs.length, fun i H x H' => ∃ T k v, kvs[i]? = some (k, v) ∧ x = .ref T ∧ H T = none ∧ H' = upd H T (.tup [kV k, v]), fun i H => H d = some (.frz o (.dK kvs)) ∧ kvs.length ≤ i⟩
section
variable {P : Program} {w : World} {K : PySem.W.Frag} {tg : Expr} {d : Addr} {o : Obj} {es : Array DictEntry} {ep : Nat}
end
/-- the dict is locked (tLock, or by the caller) -/
def iKeys (td : TE) : TI := fun σ H R => td σ H fun x H1 => ∃ d o, x = .ref d ∧ ((∃ kvs, H1 d = some (.frz o (.dK kvs)) ∧ R (Itk d o kvs) H1) ∨ ∃ kvs, H1 d = some (.frz o (.dT kvs)) ∧ R (Itkt d o kvs) H1)
def iVals (td : TE) : TI := fun σ H R => td σ H fun x H1 => ∃ d o kvs, x = .ref d ∧ H1 d = some (.frz o (.dK kvs)) ∧ R (Itd d o kvs) H1
def iItems (td : TE) : TI := fun σ H R => td σ H fun x H1 => ∃ d o kvs, x = .ref d ∧ H1 d = some (.frz o (.dK kvs)) ∧ R (Iti d o kvs) H1
def iKeysM (td : TE) : TI := fun σ H R => td σ H fun x H1 => ∃ d o kvs, x = .ref d ∧ H1 d = some (.frz o (.dK kvs)) ∧ R (Itk d o kvs) H1
section
variable {X : Cx} {tg e : Expr} {td : TE} {apos cpos : Pos}
end
/-- the list at a as it stands at each turn, each item in a new pair -/
def Ite (K : PySem.W.Frag) (a : Addr) : It :=
  ⟨fun i H => ∃ (xs : List V) (x : V), SqL K H a xs ∧ xs[i]? = some x, fun i H v H' => ∃ T x, v = .ref T ∧ H T = none ∧ H' = upd H T (.tup [.int (i : Nat), x]) ∧ ∀ xs, SqL K H a xs → xs[i]? = some x, fun i H => ∃ xs : List V, SqL K H a xs ∧ xs.length ≤ i⟩
def iEnum (K : PySem.W.Frag) (ta : TA) : TI := fun σ H R => ta σ H fun vs H1 => ∃ a xs, vs = [.ref a] ∧ SqL K H1 a xs ∧ R (Ite K a) H1
/-- the lists at a and b as they stand at each turn, the items in new pairs -/
def Itz (K : PySem.W.Frag) (a b : Addr) : It :=
  ⟨fun i H => ∃ (xs ys : List V) (x y : V), SqL K H a xs ∧ SqL K H b ys ∧ xs[i]? = some x ∧ ys[i]? = some y,
    fun i H v H' => ∃ T x y, v = .ref T ∧ H T = none ∧ H' = upd H T (.tup [x, y]) ∧ (∀ xs, SqL K H a xs → xs[i]? = some x) ∧ ∀ ys, SqL K H b ys → ys[i]? = some y,
    fun i H => ∃ xs ys : List V, SqL K H a xs ∧ SqL K H b ys ∧ (xs.length ≤ i ∨ ys.length ≤ i)⟩
def iZip (K : PySem.W.Frag) (ta : TA) : TI := fun σ H R => ta σ H fun vs H1 => ∃ a b xs ys, vs = [.ref a, .ref b] ∧ SqL K H1 a xs ∧ SqL K H1 b ys ∧ R (Itz K a b) H1
end L2
section 
namespace Bits
open PySem PyProof.Rows
end Bits
end 
section 
namespace TL
open PySem PySem.Builtin PySem.Builtin.Str PySem.StrLaws
abbrev tl (x : Str) : List Nat := x.cps.toList
/-- S stands at the head of l -/
def pre (S l : List Nat) : Bool := l.take S.length == S
/-- l cut at each S from the left; k signs are still to be passed over -/
def spl (S : List Nat) : Nat → List Nat → List Nat → List (List Nat)
  | _, acc, [] => [acc]
  | 0, acc, c :: r => if pre S (c :: r) = true then acc :: spl S (S.length - 1) [] r else spl S 0 (acc ++ [c]) r
  | k + 1, acc, _ :: r => spl S k acc r
/-- what stands before the first S, and behind it -/
def par (S : List Nat) : List Nat → List Nat → Option (List Nat × List Nat)
  | _, [] => none
  | acc, c :: r => if pre S (c :: r) = true then some (acc, (c :: r).drop S.length) else par S (acc ++ [c]) r
/-- joined lists -/
def joinL (S : List Nat) : List (List Nat) → List Nat
  | [] => []
  | [p] => p
  | p :: q :: r => p ++ (S ++ joinL S (q :: r))
/-- the signs of a number -/
def numL (n : Nat) : List Nat := (Nat.toDigits 10 n).map Char.toNat
def wstep (st : List (List Nat) × List Nat) (c : Nat) : List (List Nat) × List Nat :=
  if Unicode.isSpace c = true then (if st.2 = [] then st else (st.1 ++ [st.2], [])) else (st.1, st.2 ++ [c])
def wfin (st : List (List Nat) × List Nat) : List (List Nat) := if st.2 = [] then st.1 else st.1 ++ [st.2]
end TL
end 
namespace L2
open PySem PySem.Spec PyProof.Rows
/-- a new list of texts, tracked -/
def rNewStrs (ys : List Str) : Hp → VK → Prop := fun H Q => ∀ p, H p = none → Q (.ref p) (upd H p (.lst (ys.map V.str)))
section
variable {X : Cx} {pins : List (Addr × Obj)} {σ : St} {H : Hp} {s : Shared} {Q : VK}
end
section
variable {X : Cx}
end
section
variable {X : Cx} {o e : Expr} {to te : TE}
def tM0 (r : V → List V → Hp → VK → Prop) (to : TE) : TE := fun σ H Q => to σ H fun x H1 => (∃ a, x = .str a) ∧ r x [] H1 Q
def tM1 (r : V → List V → Hp → VK → Prop) (to te : TE) : TE := fun σ H Q => to σ H fun x H1 => (∃ a, x = .str a) ∧ te σ H1 fun y H2 => r x [y] H2 Q
end
end L2
namespace L2
open PySem PySem.Spec PyProof.Rows
section
variable {X : Cx}
end
/-- a part, clipped, as the text's slice reckons it -/
def clipS (n d : Nat) : Option Int → Int
  | none => (d : Int)
  | some i => max 0 (min (if i < 0 then i + (n : Int) else i) (n : Int))
/-- z[lo:hi] -/
def cutS (z : Str) (lo hi : Option Int) : Str :=
  ⟨((z.cps.toList.drop (HT.sIx z.length 0 lo)).take (HT.sIx z.length z.length hi - HT.sIx z.length 0 lo)).toArray⟩
def rSlS : V → Option Int → Option Int → Hp → VK → Prop := fun x lo hi H Q => ∃ z, x = .str z ∧ z.length ≤ sizeLine ∧ Q (.str (cutS z lo hi)) H
end L2
namespace Att
open PySem PySem.W PySem.Calls PyProof.Rows
section
variable {prog : Program} {w : World} {A : Around} {E : Value → Shared → Prop} {s : Shared} {K : Frag}
def noObjs (h : Heap) : Heap := { h with objs := #[] }
def ledger (h : Heap) (L d : Addr) : List (Addr × Obj) := (List.range h.objs.size).filterMap fun a => if a = L ∨ a = d then none else (h.get? a).map fun o => (a, o)
end
end Att
namespace L2
open PySem PySem.Spec PyProof.Rows
theorem vals_ints : ∀ {vs : List Value} {ns : List Int}, IntsAre vs ns → Vals (ns.map V.int) vs
  | _, _, .nil => .nil
  | _, _, .cons n t h => .cons ⟨t, rfl⟩ (vals_ints h)
/-- nothing is tracked but the script, known to the object (or it is an object of the module) -/
def Only (H : Hp) : Prop := ∀ b, H b = none ∨ ∃ o xs, H b = some (.frz o (.lst xs))
/-- THE HEAD: the law's promise, at the heap behind the top. F, the promise of the law's def, may use that base is part of the heap (so K.In base, base.Ns mainGlobals mg stand in Mod) -/
theorem law_call {P : Program} {w : World} {K : PySem.W.Frag} {mg mb : Str → Option Value} {CX : CXT} {k : Nat} {fa a : Addr} {fd : FuncData} {x : Str} {sp : Sp} {s₁ : Shared} {vs : List Value} {ns : List Int}
    (KX : K.In s₁.heap) (hns : s₁.heap.Ns mainGlobals mg) (hb : s₁.heap.Ns builtinsNs mb) (hbb : ∀ x : Str, x ≠ "__name__" → mb x = bootBuiltins x) (hlim : s₁.heap.NoLimit) (hg : s₁.gens = #[])
    (ha : s₁.heap.get? a = some { cls := .type "list", data := .seq vs.toArray }) (hi : IntsAre vs ns) (hl : ns.length ≤ sizeLine) (hr : Room k callerA)
    (F : ∀ base : Heap, K.In base → base.Ns mainGlobals mg → FnOk P w K mg base CX k fa fd [x] sp) (hbind : ∀ (s : Shared) (u : Value), BindsTo s fd ⟨[u], []⟩ [(x, u)])
    (hsp : ∀ H : Hp, Only H → SqL K H a (ns.map V.int) → sp [.ref a] H (fun v _ => v = .bl true) fun _ _ _ => False)
    (hCX : ∀ H e s', CX [] H s₁ (fun _ _ _ => False) e s' → False) :
    codeAny (model P w) callerA (.call (.ref fa) ⟨[.ref a], []⟩) (fun r s' => r = .ok (.ret (.bool true)) ∧ OldK s₁.heap s'.heap ∧ s'.os = s₁.os ∧ AllBare s'.gens) s₁ := by
  have rv := vals_ints hi
  have lenV := hi.length
  -- from an abstract heap in which nothing but the script may be tracked
  have core : ∀ H : Hp, Only H → SqL K H a (ns.map V.int) → HOk P w H s₁.heap → (∀ b, H b ≠ none → b = a) → (H a ≠ none → K.lookup a = none) →
      codeAny (model P w) callerA (.call (.ref fa) ⟨[.ref a], []⟩) (fun r s' => r = .ok (.ret (.bool true)) ∧ OldK s₁.heap s'.heap ∧ s'.os = s₁.os ∧ AllBare s'.gens) s₁ := by
    intro H hO hS hok hA hK
    have base_of : ∀ {b : Addr} {o : Obj}, s₁.heap.get? b = some o → H b = none → (hidT s₁.heap H).get? b = some o := fun e n => hidT_get e n
    have noA : ∀ {b : Addr} {o : Obj} {es : Array DictEntry} {ep : Nat}, s₁.heap.get? b = some o → o.data = .dict es ep → H b = none := fun {b o es ep} e d => by
      cases q : H b with
      | none => rfl
      | some u =>
        have e' : b = a := hA b (by rw [q]; simp)
        subst e'
        rw [ha] at e; cases e
        have d' : Data.seq vs.toArray _ = Data.dict es ep := d
        cases d'
    have nsK : ∀ {b : Addr} {m : Str → Option Value}, s₁.heap.Ns b m → (hidT s₁.heap H).Ns b m := fun {b m} ⟨o, es, ep, e, d, r⟩ => ⟨o, es, ep, base_of e (noA e d), d, r⟩
    have hKb : K.In (hidT s₁.heap H) := fun b o e => base_of (KX b o e) (by
      cases q : H b with
      | none => rfl
      | some u =>
        have e' : b = a := hA b (by rw [q]; simp)
        subst e'
        rw [hK (by rw [q]; simp)] at e; cases e)
    have hM : Mod K mg (hidT s₁.heap H) := ⟨hKb, nsK hns, ⟨mb, nsK hb, hbb⟩, let ⟨mc, h1, h2⟩ := hlim; ⟨mc, nsK h1, h2⟩⟩
    have e0 : Env0 P w K mg (hidT s₁.heap H) callerA [] s₁ H := ⟨rfl, hM, fun b o e => of_hidT e, Nat.le_of_eq (hidT_size _ _), trivial, fun b hb => absurd (show b ∈ ([] : List Addr) from hb) (by simp), hok, .of_eq hg⟩
    refine codeAny_mono ((F _ hKb (nsK hns)).run callerA [] s₁ H ⟨[.ref a], []⟩ [.ref a] [.ref a] _ _ hr e0 (hbind s₁ (.ref a)) (.cons rfl .nil) (hsp H hO hS)) fun r s' h => ?_
    cases r with
    | error e => exact (hCX H e s' h).elim
    | ok fl =>
      cases fl with
      | next => exact False.elim h
      | brk => exact False.elim h
      | cont => exact False.elim h
      | ret u =>
        obtain ⟨v, H', os, bare, un, hok', r', q⟩ := h
        have q' : v = .bl true := q
        subst q'
        obtain rfl : u = Value.bool true := r'
        refine ⟨rfl, OldK.of_keep fun b o e => ?_, os, bare⟩
        cases q : H b with
        | none => exact un.keep b o e q (by intro z; exact absurd (show b ∈ ([] : List Addr) from z) (by simp)) (by simp)
        | some u =>
          rcases hO b with z | ⟨ob, xs, z⟩
          · rw [q] at z; cases z
          · have z2 := un.frzs b ob _ z
            obtain ⟨e1, _⟩ := hok b _ z
            obtain ⟨e2, _⟩ := hok' b _ z2
            rw [e] at e1; cases e1
            exact e2
  cases hk : K.lookup a with
  | some o =>
    -- the script is one of the module's own objects
    have e := KX a o hk
    rw [ha] at e
    cases e
    refine core (fun _ => none) (fun _ => .inl rfl) (.inr ⟨_, vs.toArray, _, hk, rfl, rfl, rfl, by rw [List.size_toArray, lenV]; exact hl, by simpa using rv⟩) (fun b u z => by have z' : (none : Option HO) = some u := z; cases z') (fun b z => absurd rfl z) fun z => absurd rfl z
  | none =>
    refine core (fun b => if b = a then some (.frz { cls := .type "list", data := .seq vs.toArray } (.lst (ns.map V.int))) else none) (fun b => ?_) (.inl (.inr ⟨{ cls := .type "list", data := .seq vs.toArray }, if_pos rfl⟩)) (fun b u z => ?_) (fun b z => ?_) fun _ => hk
    · by_cases hb : b = a
      · exact .inr ⟨_, _, if_pos hb⟩
      · exact .inl (if_neg hb)
    · by_cases hb : b = a
      · have z' := (if_pos hb).symm.trans z
        cases z'
        subst hb
        exact ⟨ha, by rw [List.length_map]; exact hl, vs, _, rv, ha⟩
      · have z' := (if_neg hb).symm.trans z
        cases z'
    · by_cases hb : b = a
      · exact hb
      · exact absurd (if_neg hb) z
end L2
namespace L2
open PySem PySem.Spec PyProof.Rows
abbrev KOf {K : PySem.W.Frag} {h : Heap} (_ : K.In h) : PySem.W.Frag := K
end L2
/- THE LAST THEOREM (shape; LID, My.* are yours):
   My.Adr: a structure of the addresses that your layer names (classes, functions); My.Txt K t: a structure (Prop) of the equations over K;
   My.txt_mk : {K} {implicit addresses ..} (e1 : nsIn K mainGlobals "law" = some (some (.ref f))) (e2 : K.lookup f = some ⟨oc, od, .func (fnOf "law" "law" params body scope dV kV doc pm an cdv ct), sl⟩) (e3 : codeIn K cdv "law" = true) .. : ∃ t, My.Txt K t
set_option maxRecDepth 100000 in
set_option maxHeartbeats 0 in
(the tactic k_is has no namespace: write k_is) -/
namespace L2
open PySem PySem.Spec PyProof.Rows
/-- the j-th statement of a class's body -/
def inClass (s : Stmt) (j : Nat) : Stmt := match s with
  | .ClassDef _ _ _ body _ _ _ _ _ _ _ => body.getD j (.Pass ⟨0, 0, 0, 0⟩)
  | _ => .Pass ⟨0, 0, 0, 0⟩
def defArgs (s : Stmt) : Arguments := match s with
  | .FunctionDef _ a _ _ _ _ _ _ _ _ => a
  | _ => { posonlyargs := [], args := [], vararg := none, kwonlyargs := [], kw_defaults := [], kwarg := none, defaults := [] }
def defBody (s : Stmt) : List Stmt := match s with
  | .FunctionDef _ _ b _ _ _ _ _ _ _ => b
  | _ => []
def defScope (s : Stmt) : Scope := match s with
  | .FunctionDef _ _ _ _ _ _ sc _ _ _ => sc
  | _ => { kind := .function, names := [], isGenerator := false, isCoroutine := false }
abbrev CX0 : CXT := fun _ _ _ _ _ _ => False
abbrev E0 : XK := fun _ _ _ => False
theorem pass0 {X : Cx} : Passes CX0 X E0 := fun _ _ _ _ _ _ _ h => h.elim
structure Fun (K : PySem.W.Frag) (x qual : Str) (st : Stmt) (f : Addr) (fd : FuncData) : Prop where
  ex : ∃ (oc : Value) (od : Option Addr) (kV doc pm : Value) (an : Option Addr) (cdv ct : Value) (osl : Array (Option Value)),
    fd = PySem.W.fnOf x qual (defArgs st) (defBody st) (defScope st) .none kV doc pm an cdv ct ∧ K.lookup f = some ⟨oc, od, .func fd, osl⟩ ∧ PySem.W.codeIn K cdv qual = true
  kp : PySem.W.keepIn K (.ref f) = true
section
variable {P : Program} {w : World} {K : PySem.W.Frag} {mg : Str → Option Value} {base : Heap}
/-- THE RULE for a def: its body as a term of rules, and the reading of that term -/
theorem Fun.ok {x qual : Str} {st : Stmt} {f : Addr} {fd : FuncData} {N ps : List Str} {k : Nat} {sp : Sp} (F : Fun K x qual st f fd) (S : FnScope N ps (defScope st)) (len : ∀ vs H Q E, sp vs H Q E → vs.length = ps.length)
    (hbody : ∀ (cdv : Value) (A : Around) (outer : List Env) (s : Shared) (H : Hp) (vs : List V) (Q : VK) (E : XK), Room k (A.deeper (envOfC qual (defScope st) s.heap.objs.size f cdv)) → sp vs H Q E →
      ∃ t, PSs (cxOf CX0 P w K mg base N qual (defScope st) f cdv A outer s H E).nox (defBody st) t ∧ t { nx := fun _ H' => Q .non H', rt := Q } (start N vs) H) : FnOk P w K mg base CX0 (k + 1) f fd ps sp := by
  obtain ⟨oc, od, kV, doc, pm, an, cdv, ct, osl, rfl, lk, hcd⟩ := F.ex
  refine fn_of lk hcd S len fun A outer s H vs Q E hr hsp => ?_
  obtain ⟨t, h, q⟩ := hbody cdv A outer s H vs Q E hr hsp
  exact ⟨t, h.nox, q⟩
/-- how its arguments bind (no defaults): h is «fun _ _ _ _ _ _ us hl => match us, hl with | [_, _], _ => rfl», one _ a parameter -/
theorem Fun.binds {x qual : Str} {st : Stmt} {f : Addr} {fd : FuncData} {ps : List Str} (F : Fun K x qual st f fd)
    (h : ∀ (kV doc pm : Value) (an : Option Addr) (cdv ct : Value) (us : List Value), us.length = ps.length → bindArgs (PySem.W.fnOf x qual (defArgs st) (defBody st) (defScope st) .none kV doc pm an cdv ct) ⟨us, []⟩ = pure (ps.zip us)) : Binds K fd ps [] := by
  obtain ⟨oc, od, kV, doc, pm, an, cdv, ct, osl, rfl, lk, hcd⟩ := F.ex
  exact .all (h kV doc pm an cdv ct)
theorem fun_mk {x qual : Str} {st : Stmt} {f : Addr} {oc : Value} {od an : Option Addr} {osl : Array (Option Value)} {kV doc pm cdv ct : Value} (l : K.lookup f = some ⟨oc, od, .func (PySem.W.fnOf x qual (defArgs st) (defBody st) (defScope st) .none kV doc pm an cdv ct), osl⟩)
    (c : PySem.W.codeIn K cdv qual = true) (k : PySem.W.keepIn K (.ref f) = true) : Fun K x qual st f (PySem.W.fnOf x qual (defArgs st) (defBody st) (defScope st) .none kV doc pm an cdv ct) := ⟨⟨oc, od, kV, doc, pm, an, cdv, ct, osl, rfl, l, c⟩, k⟩
end
section
variable {X : Cx}
theorem pv (i : Nat) {x : Str} {pos : Pos} (hN : X.N[i]? = some x := by rfl) (hv : Vis X.env.scope x := by first | exact Or.inl rfl | exact Or.inr (Or.inl rfl) | exact Or.inr (Or.inr rfl)) (hd : (x == ("__debug__" : Str)) = false := by decide)
    (hcd : (x == ("__classdict__" : Str)) = false := by decide) : PE X (.Name x pos) (tVar i) := pe_var hN hv hd hcd
end
theorem iteF {A B : Prop} (h : B) : if false = true then A else B := by
  rw [if_neg Bool.false_ne_true]
  exact h
theorem iteT {A B : Prop} (h : A) : if true = true then A else B := by
  rw [if_pos rfl]
  exact h
theorem ite2 {c A B : Prop} [Decidable c] (h1 : c → A) (h2 : ¬ c → B) : if c then A else B := by
  by_cases h : c
  · rw [if_pos h]
    exact h1 h
  · rw [if_neg h]
    exact h2 h
/-- all that was tracked is as it was -/
def Same (H H' : Hp) : Prop := ∀ b o, H b = some o → H' b = some o
theorem Same.trans {H H1 H2 : Hp} (a : Same H H1) (b : Same H1 H2) : Same H H2 := fun c o h => b c o (a c o h)
theorem Same.free {H H' : Hp} (e : Same H H') {l : Addr} (h : H' l = Option.none) : H l = Option.none := by
  cases q : H l with
  | none => rfl
  | some o =>
    rw [e l o q] at h
    cases h
theorem Same.seq {K : PySem.W.Frag} {H H' : Hp} {a : Addr} {xs : List V} (e : Same H H') (h : SqL K H a xs) : SqL K H' a xs := by
  rcases h with (h | ⟨o, h⟩) | h
  · exact .inl (.inl (e _ _ h))
  · exact .inl (.inr ⟨o, e _ _ h⟩)
  · exact .inr h
section
variable {κ : Type} [DecidableEq κ]
end
theorem at_of {xs : List V} {z : Int} {j : Nat} {v : V} (e : z = (j : Int)) (h : xs[j]? = some v) : atI xs z = some v := by
  rw [e]
  exact atI_nat h
end L2
section
set_option Elab.async false
set_option linter.all false
set_option maxRecDepth 100000
set_option maxHeartbeats 2000000
namespace L2
open PySem PySem.Spec PyProof.Rows
open PySem.W (WData Codec OpenSpec Well WellAll ReadsW ReadsAllW)
mutual
/-- x stands for the datum d, lists and tuples all the way -/
inductive Dw (K : PySem.W.Frag) (H : Hp) : V → WData → Prop
  | non : Dw K H .non .none
  | bl (b : Bool) : Dw K H (.bl b) (.bool b)
  | int (i : Int) : Dw K H (.int i) (.int i)
  | str (x : Str) : Dw K H (.str x) (.str x)
  | byt (b : Array UInt8) : Dw K H (.byt b) (.bytes b.toList)
  | lst {a : Addr} {xs : List V} {ds : List WData} : SqL K H a xs → DwAll K H xs ds → Dw K H (.ref a) (.list ds)
  | tup {a : Addr} {xs : List V} {ds : List WData} : SqT K H a xs → DwAll K H xs ds → Dw K H (.ref a) (.tuple ds)
inductive DwAll (K : PySem.W.Frag) (H : Hp) : List V → List WData → Prop
  | nil : DwAll K H [] []
  | cons {v : V} {vs : List V} {d : WData} {ds : List WData} : Dw K H v d → DwAll K H vs ds → DwAll K H (v :: vs) (d :: ds)
end
theorem dw_ints {K : PySem.W.Frag} {H : Hp} : ∀ ns : List Int, DwAll K H (ns.map V.int) (ns.map WData.int)
  | [] => .nil
  | n :: r => .cons (.int n) (dw_ints r)
theorem ints_dw {K : PySem.W.Frag} {H : Hp} : ∀ (ns : List Int) (xs : List V), DwAll K H xs (ns.map WData.int) → xs = ns.map V.int
  | [], xs, h => by
    cases h
    rfl
  | n :: r, xs, h => by
    cases h with
    | cons h1 h2 =>
      cases h1
      rw [ints_dw r _ h2] <;> rfl
section
variable {P : Program} {w : World} {K : PySem.W.Frag} {H : Hp} {h : Heap} {R : PySem.W.WRecords} {cl : Str → Option Addr}
theorem sqL_at {a : Addr} {xs : List V} (hok : HOk P w H h) (KX : K.In h) (q : SqL K H a xs) : ∃ (its : List Value) (o : Obj) (n : Nat), Vals xs its ∧ h.get? a = some o ∧ o.cls = .type "list" ∧ o.data = .seq its.toArray n := by
  rcases q with q | ⟨o, its, n, e, hc, _, hd, _, hv⟩
  · obtain ⟨_, its, n, hv, e⟩ := (show ObjOk P w H h a (.lst xs) from q.ok hok)
    exact ⟨its, _, n, hv, e, rfl, rfl⟩
  · exact ⟨its.toList, o, n, hv, KX _ _ e, hc, by simp [hd]⟩
theorem sqT_at {a : Addr} {xs : List V} (hok : HOk P w H h) (KX : K.In h) (q : SqT K H a xs) : ∃ (its : List Value) (o : Obj) (n : Nat), Vals xs its ∧ h.get? a = some o ∧ o.cls = .type "tuple" ∧ o.data = .seq its.toArray n := by
  rcases q with q | ⟨o, its, n, e, hc, hd, _, hv⟩
  · obtain ⟨_, its, hv, o, e, hc, n, hd⟩ := (show ObjOk P w H h a (.tup xs) from q.ok hok)
    exact ⟨its, o, n, hv, e, hc, hd⟩
  · exact ⟨its.toList, o, n, hv, KX _ _ e, hc, by simp [hd]⟩
mutual
theorem Dw.reads (hok : HOk P w H h) (KX : K.In h) : ∀ (d : WData) (v : V) (u : Value), Dw K H v d → RelV v u → ∃ as, ReadsW R cl h u d as
  | .none, _, _, x, r => by
    cases x
    cases r
    exact ⟨_, ReadsW.none⟩
  | .bool b, _, _, x, r => by
    cases x
    cases r
    exact ⟨_, ReadsW.bool b⟩
  | .int i, _, _, x, r => by
    cases x
    obtain ⟨t, rfl⟩ := r
    exact ⟨_, ReadsW.int i t⟩
  | .str s, _, _, x, r => by
    cases x
    obtain ⟨t, rfl⟩ := r
    exact ⟨_, ReadsW.str s t⟩
  | .bytes b, _, _, x, r => by
    cases x
    obtain ⟨t, rfl⟩ := r
    exact ⟨_, ReadsW.bytes _ t⟩
  | .list ds, _, _, x, r => by
    cases x with
    | lst hs ha =>
      cases r
      obtain ⟨its, o, n, rv, ho, hc, hd⟩ := sqL_at hok KX hs
      obtain ⟨as, hr⟩ := Dw.readsAll hok KX ds _ its ha rv
      exact ⟨_, ReadsW.list ho hc hd hr⟩
  | .tuple ds, _, _, x, r => by
    cases x with
    | tup hs ha =>
      cases r
      obtain ⟨its, o, n, rv, ho, hc, hd⟩ := sqT_at hok KX hs
      obtain ⟨as, hr⟩ := Dw.readsAll hok KX ds _ its ha rv
      exact ⟨_, ReadsW.tuple ho hc hd hr⟩
  | .float _, _, _, x, _ => by cases x
  | .dict _, _, _, x, _ => by cases x
  | .bytearray _, _, _, x, _ => by cases x
  | .set _, _, _, x, _ => by cases x
  | .frozenset _, _, _, x, _ => by cases x
  | .obj _ _, _, _, x, _ => by cases x
theorem Dw.readsAll (hok : HOk P w H h) (KX : K.In h) : ∀ (ds : List WData) (vs : List V) (us : List Value), DwAll K H vs ds → Vals vs us → ∃ as, ReadsAllW R cl h us ds as
  | [], _, _, x, r => by
    cases x
    cases r
    exact ⟨_, ReadsAllW.nil⟩
  | d :: ds, _, _, x, r => by
    cases x with
    | cons h1 h2 =>
      cases r with
      | cons r1 r2 =>
        obtain ⟨as, q1⟩ := Dw.reads hok KX d _ _ h1 r1
        obtain ⟨bs, q2⟩ := Dw.readsAll hok KX ds _ _ h2 r2
        exact ⟨_, ReadsAllW.cons q1 q2⟩
end
end
mutual
/-- data that a codec tells -/
def plW : WData → Bool
  | .none => true
  | .bool _ => true
  | .int _ => true
  | .str _ => true
  | .bytes _ => true
  | .list xs => plWs xs
  | .tuple xs => plWs xs
  | _ => false
def plWs : List WData → Bool
  | [] => true
  | x :: r => plW x && plWs r
end
theorem plWs_map {α : Type} {f : α → WData} (h : ∀ a, plW (f a) = true) : ∀ l : List α, plWs (l.map f) = true
  | [] => rfl
  | x :: r => by
    show (plW (f x) && plWs (r.map f)) = true
    rw [h x, plWs_map h r] <;> rfl
theorem pl_enc : ∀ (c : Codec) (a : c.denote), plW (c.enc a) = true
  | .unit, _ => rfl
  | .bool, _ => rfl
  | .int _ _, _ => rfl
  | .nat _ _, _ => rfl
  | .u8, _ => rfl
  | .bytes _ _, _ => rfl
  | .text _ _ _ _, _ => rfl
  | .list _ _ c, a => plWs_map (fun x => pl_enc c x) a
  | .pair c d, a => by
    show (plW (c.enc a.1) && (plW (d.enc a.2) && true)) = true
    rw [pl_enc c a.1, pl_enc d a.2] <;> rfl
  | .triple c d e, a => by
    show (plW (c.enc a.1) && (plW (d.enc a.2.1) && (plW (e.enc a.2.2) && true))) = true
    rw [pl_enc c a.1, pl_enc d a.2.1, pl_enc e a.2.2] <;> rfl
  | .option c, none => rfl
  | .option c, some x => pl_enc c x
theorem pl_encAll : ∀ (cs : List Codec) (a : Codec.denoteAll cs), plWs (Codec.encAll cs a) = true
  | [], _ => rfl
  | c :: cs, a => by
    show (plW (c.enc a.1) && plWs (Codec.encAll cs a.2)) = true
    rw [pl_enc c a.1, pl_encAll cs a.2] <;> rfl
theorem weight_mem : ∀ {xs : List WData} {d : WData}, d ∈ xs → d.weight ≤ WData.weightAll xs
  | [], d, h => absurd h (by simp)
  | x :: r, d, h => by
    show d.weight ≤ x.weight + 1 + WData.weightAll r
    rcases List.mem_cons.mp h with e | m
    · rw [e]
      omega
    · have z := weight_mem m
      omega
def toV : Value → V
  | .none => .non
  | .bool b => .bl b
  | .int i _ => .int i
  | .str x _ => .str x
  | .bytes b _ => .byt b
  | .ref a => .ref a
  | _ => .non
/-- a value of the arguments, its objects among A -/
def OkU (A : List Addr) : Value → Prop
  | .none => True
  | .bool _ => True
  | .int _ _ => True
  | .str _ _ => True
  | .bytes _ _ => True
  | .ref a => a ∈ A
  | _ => False
theorem OkU.mono {A B : List Addr} (h : ∀ a ∈ A, a ∈ B) : ∀ {u : Value}, OkU A u → OkU B u := fun {u} x => by
  cases u with
  | ref a => exact h a x
  | none => trivial
  | bool b => trivial
  | int i t => trivial
  | str s t => trivial
  | bytes b t => trivial
  | _ => exact False.elim x
theorem relV_toV {A : List Addr} {u : Value} (x : OkU A u) : RelV (toV u) u := by
  cases u with
  | ref a => rfl
  | none => rfl
  | bool b => rfl
  | int i t => exact ⟨t, rfl⟩
  | str s t => exact ⟨t, rfl⟩
  | bytes b t => exact ⟨t, rfl⟩
  | _ => exact False.elim x
theorem vals_toV {A : List Addr} : ∀ {vs : List Value}, (∀ u ∈ vs, OkU A u) → Vals (vs.map toV) vs
  | [], _ => .nil
  | u :: r, h => .cons (relV_toV (h u (List.mem_cons_self ..))) (vals_toV fun x hx => h x (List.mem_cons_of_mem _ hx))
/-- an object of the arguments -/
def ArgOb (h : Heap) (A : List Addr) (a : Addr) : Prop := ∃ vs : List Value, vs.length ≤ sizeLine ∧ (∀ u ∈ vs, OkU A u) ∧
  (h.get? a = some { cls := .type "list", data := .seq vs.toArray } ∨ h.get? a = some { cls := .type "tuple", data := .seq vs.toArray })
theorem ArgOb.mono {h : Heap} {A B : List Addr} {a : Addr} (k : ∀ a ∈ A, a ∈ B) (x : ArgOb h A a) : ArgOb h B a := by
  obtain ⟨vs, h1, h2, h3⟩ := x
  exact ⟨vs, h1, fun u hu => (h2 u hu).mono k, h3⟩
theorem wellAll_len {P : Params} {h : Heap} : ∀ {vs : List Value} {ds : List WData}, WellAll P h vs ds → vs.length = ds.length
  | _, _, .nil => rfl
  | _, _, .cons _ b => by
    show _ + 1 = _ + 1
    rw [wellAll_len b]
theorem well_list {P : Params} {h : Heap} {v : Value} {ds : List WData} (x : Well P h v (.list ds)) : ∃ (a : Addr) (vs : List Value), v = .ref a ∧ h.get? a = some { cls := .type "list", data := .seq vs.toArray } ∧ WellAll P h vs ds := by
  cases x with
  | list ho hall => exact ⟨_, _, rfl, ho, hall⟩
theorem well_tuple {P : Params} {h : Heap} {v : Value} {ds : List WData} (x : Well P h v (.tuple ds)) : ∃ (a : Addr) (vs : List Value), v = .ref a ∧ h.get? a = some { cls := .type "tuple", data := .seq vs.toArray } ∧ WellAll P h vs ds := by
  cases x with
  | tuple ho hall => exact ⟨_, _, rfl, ho, hall⟩
theorem well_cons {P : Params} {h : Heap} {us : List Value} {d : WData} {ds : List WData} (x : WellAll P h us (d :: ds)) : ∃ (v : Value) (vs : List Value), us = v :: vs ∧ Well P h v d ∧ WellAll P h vs ds := by
  cases x with
  | cons a b => exact ⟨_, _, rfl, a, b⟩
theorem line_of {n : Nat} (h : n ≤ 1048576) : n ≤ sizeLine := Nat.le_trans h (by decide)
section
variable {P : Params} {h : Heap}
mutual
theorem area_one : ∀ (d : WData) (v : Value), Well P h v d → plW d = true → d.weight ≤ 1048576 → ∃ A : List Addr, OkU A v ∧ ∀ a ∈ A, ArgOb h A a
  | .none, _, x, _, _ => by
    cases x
    exact ⟨[], trivial, fun a m => absurd m (by simp)⟩
  | .bool b, _, x, _, _ => by
    cases x
    exact ⟨[], trivial, fun a m => absurd m (by simp)⟩
  | .int i, _, x, _, _ => by
    cases x
    exact ⟨[], trivial, fun a m => absurd m (by simp)⟩
  | .str s, _, x, _, _ => by
    cases x
    exact ⟨[], trivial, fun a m => absurd m (by simp)⟩
  | .bytes b, _, x, _, _ => by
    cases x
    exact ⟨[], trivial, fun a m => absurd m (by simp)⟩
  | .list ds, _, x, p, z => by
    obtain ⟨a, vs, rfl, ho, hall⟩ := well_list x
    have z2 : WData.weightAll ds ≤ 1048576 := z
    obtain ⟨A, h1, h2⟩ := area_all ds _ hall p fun d hd => Nat.le_trans (weight_mem hd) z2
    have k : ∀ b ∈ A, b ∈ a :: A := fun b hb => List.mem_cons_of_mem _ hb
    refine ⟨a :: A, List.mem_cons_self .., fun b hb => ?_⟩
    rcases List.mem_cons.mp hb with e | m
    · rw [e]
      exact ⟨vs, line_of (by rw [wellAll_len hall]; exact Nat.le_trans (PySem.W.length_le_weightAllW ds) z2), fun u hu => (h1 u hu).mono k, .inl ho⟩
    · exact (h2 b m).mono k
  | .tuple ds, _, x, p, z => by
    obtain ⟨a, vs, rfl, ho, hall⟩ := well_tuple x
    have z2 : WData.weightAll ds ≤ 1048576 := z
    obtain ⟨A, h1, h2⟩ := area_all ds _ hall p fun d hd => Nat.le_trans (weight_mem hd) z2
    have k : ∀ b ∈ A, b ∈ a :: A := fun b hb => List.mem_cons_of_mem _ hb
    refine ⟨a :: A, List.mem_cons_self .., fun b hb => ?_⟩
    rcases List.mem_cons.mp hb with e | m
    · rw [e]
      exact ⟨vs, line_of (by rw [wellAll_len hall]; exact Nat.le_trans (PySem.W.length_le_weightAllW ds) z2), fun u hu => (h1 u hu).mono k, .inr ho⟩
    · exact (h2 b m).mono k
  | .float _, _, _, p, _ => Bool.noConfusion (show false = true from p)
  | .dict _, _, _, p, _ => Bool.noConfusion (show false = true from p)
  | .bytearray _, _, _, p, _ => Bool.noConfusion (show false = true from p)
  | .set _, _, _, p, _ => Bool.noConfusion (show false = true from p)
  | .frozenset _, _, _, p, _ => Bool.noConfusion (show false = true from p)
  | .obj _ _, _, _, p, _ => Bool.noConfusion (show false = true from p)
theorem area_all : ∀ (ds : List WData) (vs : List Value), WellAll P h vs ds → plWs ds = true → (∀ d ∈ ds, d.weight ≤ 1048576) → ∃ A : List Addr, (∀ u ∈ vs, OkU A u) ∧ ∀ a ∈ A, ArgOb h A a
  | [], _, x, _, _ => by
    cases x
    exact ⟨[], fun u m => absurd m (by simp), fun a m => absurd m (by simp)⟩
  | d :: ds, _, x, p, z => by
    obtain ⟨v, vs, rfl, x1, x2⟩ := well_cons x
    have q : plW d = true ∧ plWs ds = true := Bool.and_eq_true_iff.mp p
    obtain ⟨A, a1, a2⟩ := area_one d v x1 q.1 (z d (List.mem_cons_self ..))
    obtain ⟨B, b1, b2⟩ := area_all ds vs x2 q.2 fun e he => z e (List.mem_cons_of_mem _ he)
    have kA : ∀ b ∈ A, b ∈ A ++ B := fun b hb => List.mem_append.mpr (.inl hb)
    have kB : ∀ b ∈ B, b ∈ A ++ B := fun b hb => List.mem_append.mpr (.inr hb)
    refine ⟨A ++ B, fun u hu => ?_, fun b hb => ?_⟩
    · rcases List.mem_cons.mp hu with e | m
      · rw [e]
        exact a1.mono kA
      · exact (b1 u m).mono kB
    · rcases List.mem_append.mp hb with m | m
      · exact (a2 b m).mono kA
      · exact (b2 b m).mono kB
end
end
/-- what is tracked of an argument's object -/
def hoOf (o : Obj) : Option HO := match o.data with
  | .seq vs _ => if (o.cls == Value.type "list") = true then some (.frz o (.lst (vs.toList.map toV))) else some (.frz o (.tup (vs.toList.map toV)))
  | _ => none
def argH (K : PySem.W.Frag) (h : Heap) (A : List Addr) : Hp := fun b => if b ∈ A then (if (K.lookup b).isNone = true then (h.get? b).bind hoOf else none) else none
/-- nothing is tracked but what is known to the object -/
def OnlyF (H : Hp) : Prop := ∀ b, H b = none ∨ ∃ o u, H b = some (.frz o u)
theorem hoOf_lst (vs : List Value) : hoOf { cls := .type "list", data := .seq vs.toArray } = some (.frz { cls := .type "list", data := .seq vs.toArray } (.lst (vs.map toV))) := by
  show (if (Value.type "list" == Value.type "list") = true then some (HO.frz { cls := .type "list", data := .seq vs.toArray } (.lst (vs.toArray.toList.map toV))) else some (HO.frz { cls := .type "list", data := .seq vs.toArray } (.tup (vs.toArray.toList.map toV)))) = _
  rw [if_pos (beq_self_eq_true _)]
theorem hoOf_tup (vs : List Value) : hoOf { cls := .type "tuple", data := .seq vs.toArray } = some (.frz { cls := .type "tuple", data := .seq vs.toArray } (.tup (vs.map toV))) := by
  show (if (Value.type "tuple" == Value.type "list") = true then some (HO.frz { cls := .type "tuple", data := .seq vs.toArray } (.lst (vs.toArray.toList.map toV))) else some (HO.frz { cls := .type "tuple", data := .seq vs.toArray } (.tup (vs.toArray.toList.map toV)))) = _
  rw [if_neg (by decide)]
section
variable {P : Program} {w : World} {K : PySem.W.Frag} {h : Heap} {A : List Addr}
theorem argH_at {b : Addr} {o : Obj} (hb : b ∈ A) (hk : K.lookup b = none) (e : h.get? b = some o) : argH K h A b = hoOf o := by
  unfold argH
  rw [if_pos hb, hk, if_pos (show (none : Option Obj).isNone = true from rfl), e] <;> rfl
theorem of_argH {b : Addr} {u : HO} (q : argH K h A b = some u) : b ∈ A ∧ K.lookup b = none := by
  unfold argH at q
  by_cases hb : b ∈ A
  · rw [if_pos hb] at q
    cases hk : K.lookup b with
    | none => exact ⟨hb, rfl⟩
    | some o =>
      rw [hk, if_neg (by simp)] at q
      cases q
  · rw [if_neg hb] at q
    cases q
/-- what stands tracked -/
theorem argH_is (ar : ∀ a ∈ A, ArgOb h A a) {b : Addr} {u : HO} (q : argH K h A b = some u) : K.lookup b = none ∧ ∃ vs : List Value, vs.length ≤ sizeLine ∧ (∀ u ∈ vs, OkU A u) ∧
    ((h.get? b = some { cls := .type "list", data := .seq vs.toArray } ∧ u = .frz { cls := .type "list", data := .seq vs.toArray } (.lst (vs.map toV))) ∨
     (h.get? b = some { cls := .type "tuple", data := .seq vs.toArray } ∧ u = .frz { cls := .type "tuple", data := .seq vs.toArray } (.tup (vs.map toV)))) := by
  obtain ⟨hb, hk⟩ := of_argH q
  obtain ⟨vs, h1, h2, h3⟩ := ar b hb
  refine ⟨hk, vs, h1, h2, ?_⟩
  rcases h3 with e | e
  · rw [argH_at hb hk e, hoOf_lst] at q
    exact .inl ⟨e, (Option.some.inj q).symm⟩
  · rw [argH_at hb hk e, hoOf_tup] at q
    exact .inr ⟨e, (Option.some.inj q).symm⟩
theorem argH_only (ar : ∀ a ∈ A, ArgOb h A a) : OnlyF (argH K h A) := fun b => by
  cases q : argH K h A b with
  | none => exact .inl rfl
  | some u =>
    obtain ⟨_, vs, _, _, ⟨_, e⟩ | ⟨_, e⟩⟩ := argH_is ar q
    · exact .inr ⟨_, _, by rw [e]⟩
    · exact .inr ⟨_, _, by rw [e]⟩
theorem argH_ok (ar : ∀ a ∈ A, ArgOb h A a) : HOk P w (argH K h A) h := fun b u q => by
  obtain ⟨_, vs, h1, h2, ⟨e, rfl⟩ | ⟨e, rfl⟩⟩ := argH_is ar q
  · exact ⟨e, by rw [List.length_map]; exact h1, vs, _, vals_toV h2, e⟩
  · exact ⟨e, by rw [List.length_map]; exact h1, vs, vals_toV h2, _, e, rfl, _, rfl⟩
theorem seq_inj {c c' : Value} {vs us : List Value} (e : (some { cls := c, data := .seq vs.toArray } : Option Obj) = some { cls := c', data := .seq us.toArray }) : c = c' ∧ vs = us := by
  have e1 := Option.some.inj e
  have e2 : c = c' := congrArg Obj.cls e1
  have e3 : Data.seq vs.toArray = Data.seq us.toArray := congrArg Obj.data e1
  injection e3 with e4
  refine ⟨e2, ?_⟩
  have e5 := congrArg Array.toList e4
  simpa using e5
/-- a list argument -/
theorem argL (KX : K.In h) (ar : ∀ a ∈ A, ArgOb h A a) {a : Addr} {vs : List Value} (ha : a ∈ A) (e : h.get? a = some { cls := .type "list", data := .seq vs.toArray }) : (∀ u ∈ vs, OkU A u) ∧ SqL K (argH K h A) a (vs.map toV) := by
  obtain ⟨us, h1, h2, h3⟩ := ar a ha
  have hu : us = vs := by
    rcases h3 with q | q
    · rw [e] at q
      exact (seq_inj q).2.symm
    · rw [e] at q
      exact absurd (Value.type.inj (seq_inj q).1) (by decide)
  subst hu
  refine ⟨h2, ?_⟩
  cases hk : K.lookup a with
  | none => exact .inl (.inr ⟨_, by rw [argH_at ha hk e, hoOf_lst]⟩)
  | some o =>
    have e2 := KX a o hk
    rw [e] at e2
    obtain rfl := Option.some.inj e2
    exact .inr ⟨_, us.toArray, _, hk, rfl, rfl, rfl, by rw [List.size_toArray]; exact h1, by simpa using vals_toV h2⟩
theorem argT (KX : K.In h) (ar : ∀ a ∈ A, ArgOb h A a) {a : Addr} {vs : List Value} (ha : a ∈ A) (e : h.get? a = some { cls := .type "tuple", data := .seq vs.toArray }) : (∀ u ∈ vs, OkU A u) ∧ SqT K (argH K h A) a (vs.map toV) := by
  obtain ⟨us, h1, h2, h3⟩ := ar a ha
  have hu : us = vs := by
    rcases h3 with q | q
    · rw [e] at q
      exact absurd (Value.type.inj (seq_inj q).1) (by decide)
    · rw [e] at q
      exact (seq_inj q).2.symm
  subst hu
  refine ⟨h2, ?_⟩
  cases hk : K.lookup a with
  | none => exact .inl (.inr ⟨_, by rw [argH_at ha hk e, hoOf_tup]⟩)
  | some o =>
    have e2 := KX a o hk
    rw [e] at e2
    obtain rfl := Option.some.inj e2
    exact .inr ⟨_, us.toArray, _, hk, rfl, rfl, by rw [List.size_toArray]; exact h1, by simpa using vals_toV h2⟩
mutual
theorem dw_one {Pm : Params} (KX : K.In h) (ar : ∀ a ∈ A, ArgOb h A a) : ∀ (d : WData) (v : Value), Well Pm h v d → plW d = true → OkU A v → Dw K (argH K h A) (toV v) d
  | .none, _, x, _, _ => by
    cases x
    exact .non
  | .bool b, _, x, _, _ => by
    cases x
    exact .bl b
  | .int i, _, x, _, _ => by
    cases x
    exact .int i
  | .str s, _, x, _, _ => by
    cases x
    exact .str s
  | .bytes b, _, x, _, _ => by
    cases x
    have z := Dw.byt (K := K) (H := argH K h A) b.toArray
    exact z
  | .list ds, _, x, p, hu => by
    obtain ⟨a, vs, rfl, ho, hall⟩ := well_list x
    obtain ⟨h2, hs⟩ := argL KX ar hu ho
    exact .lst hs (dw_all KX ar ds _ hall p h2)
  | .tuple ds, _, x, p, hu => by
    obtain ⟨a, vs, rfl, ho, hall⟩ := well_tuple x
    obtain ⟨h2, hs⟩ := argT KX ar hu ho
    exact .tup hs (dw_all KX ar ds _ hall p h2)
  | .float _, _, _, p, _ => Bool.noConfusion (show false = true from p)
  | .dict _, _, _, p, _ => Bool.noConfusion (show false = true from p)
  | .bytearray _, _, _, p, _ => Bool.noConfusion (show false = true from p)
  | .set _, _, _, p, _ => Bool.noConfusion (show false = true from p)
  | .frozenset _, _, _, p, _ => Bool.noConfusion (show false = true from p)
  | .obj _ _, _, _, p, _ => Bool.noConfusion (show false = true from p)
theorem dw_all {Pm : Params} (KX : K.In h) (ar : ∀ a ∈ A, ArgOb h A a) : ∀ (ds : List WData) (vs : List Value), WellAll Pm h vs ds → plWs ds = true → (∀ u ∈ vs, OkU A u) → DwAll K (argH K h A) (vs.map toV) ds
  | [], _, x, _, _ => by
    cases x
    exact .nil
  | d :: ds, _, x, p, hu => by
    obtain ⟨v, vs, rfl, x1, x2⟩ := well_cons x
    have q : plW d = true ∧ plWs ds = true := Bool.and_eq_true_iff.mp p
    exact .cons (dw_one KX ar d v x1 q.1 (hu _ (List.mem_cons_self ..))) (dw_all KX ar ds vs x2 q.2 fun u m => hu u (List.mem_cons_of_mem _ m))
end
end
theorem spec_call {P : Program} {w : World} {K : PySem.W.Frag} {mg mb : Str → Option Value} {CX : CXT} {k : Nat} {fa : Addr} {fd : FuncData} {ps : List Str} {sp : Sp} {s₁ : Shared} {vals : List Value} {ds : List WData} {R : PySem.W.WRecords} {cl : Str → Option Addr} {d0 : WData}
    (KX : K.In s₁.heap) (hns : s₁.heap.Ns mainGlobals mg) (hb : s₁.heap.Ns builtinsNs mb) (hbb : ∀ x : Str, x ≠ "__name__" → mb x = bootBuiltins x) (hlim : s₁.heap.NoLimit) (hg : s₁.gens = #[])
    (hwl : WellAll w.params s₁.heap vals ds) (hpl : plWs ds = true) (hwt : ∀ d ∈ ds, d.weight ≤ 1048576) (hr : Room k callerA)
    (F : ∀ base : Heap, K.In base → base.Ns mainGlobals mg → FnOk P w K mg base CX k fa fd ps sp) (hbind : ∀ (s : Shared) (us : List Value), us.length = ps.length → BindsTo s fd ⟨us, []⟩ (ps.zip us)) (hlen : ds.length = ps.length)
    (hsp : ∀ (H : Hp) (xs : List V), OnlyF H → DwAll K H xs ds → sp xs H (fun v H' => Dw K H' v d0) fun _ _ _ => False)
    (hCX : ∀ H e s', CX [] H s₁ (fun _ _ _ => False) e s' → False) :
    codeAny (model P w) callerA (.call (.ref fa) ⟨vals, []⟩) (fun r s' => ∃ u as, r = .ok (.ret u) ∧ ReadsW R cl s'.heap u d0 as ∧ OldK s₁.heap s'.heap ∧ s'.os = s₁.os ∧ AllBare s'.gens) s₁ := by
  obtain ⟨A, ho, ar⟩ := area_all ds vals hwl hpl hwt
  have hO : OnlyF (argH K s₁.heap A) := argH_only ar
  have hok : HOk P w (argH K s₁.heap A) s₁.heap := argH_ok ar
  have hS := dw_all KX ar ds vals hwl hpl ho
  have hV := vals_toV ho
  have hK : ∀ b u, argH K s₁.heap A b = some u → K.lookup b = none := fun b u q => (argH_is ar q).1
  have noA : ∀ {b : Addr} {o : Obj} {es : Array DictEntry} {ep : Nat}, s₁.heap.get? b = some o → o.data = .dict es ep → argH K s₁.heap A b = none := fun {b o es ep} e d => by
    cases q : argH K s₁.heap A b with
    | none => rfl
    | some u =>
      obtain ⟨_, vs, _, _, ⟨e2, _⟩ | ⟨e2, _⟩⟩ := argH_is ar q
      · rw [e2] at e
        cases e
        have d' : Data.seq vs.toArray _ = Data.dict es ep := d
        cases d'
      · rw [e2] at e
        cases e
        have d' : Data.seq vs.toArray _ = Data.dict es ep := d
        cases d'
  generalize argH K s₁.heap A = H at hO hok hS hK noA
  have base_of : ∀ {b : Addr} {o : Obj}, s₁.heap.get? b = some o → H b = none → (hidT s₁.heap H).get? b = some o := fun e n => hidT_get e n
  have nsK : ∀ {b : Addr} {m : Str → Option Value}, s₁.heap.Ns b m → (hidT s₁.heap H).Ns b m := fun {b m} ⟨o, es, ep, e, d, r⟩ => ⟨o, es, ep, base_of e (noA e d), d, r⟩
  have nK : ∀ b o, K.lookup b = some o → H b = none := fun b o e => by
    cases q : H b with
    | none => rfl
    | some u =>
      rw [hK b u q] at e
      cases e
  have hKb : K.In (hidT s₁.heap H) := fun b o e => base_of (KX b o e) (nK b o e)
  have hM : Mod K mg (hidT s₁.heap H) := ⟨hKb, nsK hns, ⟨mb, nsK hb, hbb⟩, let ⟨mc, h1, h2⟩ := hlim; ⟨mc, nsK h1, h2⟩⟩
  have e0 : Env0 P w K mg (hidT s₁.heap H) callerA [] s₁ H := ⟨rfl, hM, fun b o e => of_hidT e, Nat.le_of_eq (hidT_size _ _), trivial, fun b hb => absurd (show b ∈ ([] : List Addr) from hb) (by simp), hok, .of_eq hg⟩
  have hl : vals.length = ps.length := by rw [wellAll_len hwl]; exact hlen
  refine codeAny_mono ((F _ hKb (nsK hns)).run callerA [] s₁ H ⟨vals, []⟩ vals (vals.map toV) _ _ hr e0 (hbind s₁ vals hl) hV (hsp H _ hO hS)) fun r s' x => ?_
  cases r with
  | error e => exact (hCX H e s' x).elim
  | ok fl =>
    cases fl with
    | next => exact False.elim x
    | brk => exact False.elim x
    | cont => exact False.elim x
    | ret u =>
      obtain ⟨v, H', os, bare, un, hok', r', q⟩ := x
      have kept : ∀ b o, s₁.heap.get? b = some o → s'.heap.get? b = some o := fun b o e => by
        cases q2 : H b with
        | none => exact un.keep b o e q2 (by intro z; exact absurd (show b ∈ ([] : List Addr) from z) (by simp)) (by simp)
        | some u2 =>
          rcases hO b with z | ⟨ob, u3, z⟩
          · rw [q2] at z
            cases z
          · have z2 := un.frzs b ob _ z
            obtain ⟨e1, _⟩ := hok b _ z
            obtain ⟨e2, _⟩ := hok' b _ z2
            rw [e] at e1
            cases e1
            exact e2
      have KX' : K.In s'.heap := fun b o e => kept b o (KX b o e)
      obtain ⟨as, hrd⟩ := Dw.reads (R := R) (cl := cl) hok' KX' d0 v u q r'
      exact ⟨u, as, rfl, hrd, OldK.of_keep kept, os, bare⟩
theorem layable_weight {ds : List WData} (h : WData.layableAll ds = true) : ∀ d ∈ ds, d.weight ≤ 1048576 := fun d hd =>
  (PySem.W.layableW_iff.mp (List.all_eq_true.mp h d hd)).2.2
theorem encAll_len : ∀ (cs : List Codec) (a : Codec.denoteAll cs), (Codec.encAll cs a).length = cs.length
  | [], _ => rfl
  | c :: cs, a => by
    show (Codec.encAll cs a.2).length + 1 = cs.length + 1
    rw [encAll_len cs a.2]
/-- the goal that k_headS leaves (case hc), from the promise of the row's def: whatever the arguments that the codecs let and the row asks for, the def gives what stands for enc (f ..) -/
theorem walk_spec {r : OpenSpec} {k : Nat} {q : Program} {loose : List Str} {XP : (Str → Option Value) → Heap → Prop} {YP : World → Heap → Prop} {d : DefRec} {K : Params → PySem.W.Frag} {CX : World → CXT} {ps : List Str} {sp : World → Sp}
    (hwell : r.wellSaid = true) (hdf : d.params.defaults = []) (hlen : r.args.length = ps.length) (hr : Room k callerA)
    (hY : ∀ (w : World) (h : Heap), YP w h → (K w.params).In h)
    (F : ∀ (w : World) (mg : Str → Option Value) (fa : Addr) (h : Heap), YP w h → (K w.params).In h → h.Ns mainGlobals mg → mg d.name = some (.ref fa) →
      ∃ fd : FuncData, (∀ (s : Shared) (us : List Value), us.length = ps.length → BindsTo s fd ⟨us, []⟩ (ps.zip us)) ∧
        ∀ base : Heap, (K w.params).In base → base.Ns mainGlobals mg → FnOk r.prog w (K w.params) mg base (CX w) k fa fd ps (sp w))
    (hsp : ∀ (w : World) (H : Hp) (xs : List V) (a : Codec.denoteAll r.args), OnlyF H → Codec.withinAll r.args a = true → Codec.app r.args r.asked a = true → DwAll (K w.params) H xs (Codec.encAll r.args a) →
      sp w xs H (fun v H' => Dw (K w.params) H' v (r.ret.enc (Codec.app r.args r.f a))) fun _ _ _ => False)
    (hCX : ∀ (w : World) (H : Hp) (s : Shared) (e : Value) (s' : Shared), CX w [] H s (fun _ _ _ => False) e s' → False) :
    PySem.W.WalkOS q loose XP YP r d [] (fun f vs => PySem.call f vs) := by
  intro w s_0 s₁ mg mb G Y fa o pm cd doc dV kV ho hd hcd hD hmg hg args vals as hpre hlay hrd hwl hlo
  obtain ⟨a, e1, e2⟩ := PySem.W.os_pre_some hpre
  obtain ⟨e3, hwi⟩ := Codec.encAll_of_decAll r.args args a e1
  subst e3
  have KX := hY w _ Y
  obtain ⟨fd, hb, hF⟩ := F w mg fa _ Y KX G.T.g hmg
  refine PySem.W.enter_call (codeAny_mono (spec_call (R := []) (cl := classAt s_0.heap) (d0 := r.ret.enc (Codec.app r.args r.f a)) KX G.T.g G.T.b G.T.builtins G.T.nolimit hg hwl (pl_encAll _ _) (layable_weight hlay) hr hF hb (by rw [encAll_len]; exact hlen)
    (fun H xs hO hS => hsp w H xs a hO hwi e2 hS) fun H e s' => hCX w H s₁ e s') fun r' s' hq => ?_)
  obtain ⟨u, as', rfl, h1, h2, h3, h4⟩ := hq
  exact ⟨.inl ⟨u, _, as', rfl, fun _ => rfl, h1, (OpenSpec.post_iff hwell hwi _ _).mpr rfl, fun z => Bool.noConfusion (show false = true from z)⟩, h2, h3, h4⟩
/-- the same where the promise hangs on the written part alone -/
theorem walk_specK {r : OpenSpec} {k : Nat} {q : Program} {loose : List Str} {XP : (Str → Option Value) → Heap → Prop} {YP : World → Heap → Prop} {d : DefRec} {K : Params → PySem.W.Frag} {CX : CXT} {ps : List Str} {sp : PySem.W.Frag → Sp}
    (hwell : r.wellSaid = true) (hdf : d.params.defaults = []) (hlen : r.args.length = ps.length) (hr : Room k callerA)
    (hY : ∀ (w : World) (h : Heap), YP w h → (K w.params).In h)
    (F : ∀ (w : World) (mg : Str → Option Value) (fa : Addr) (h : Heap), YP w h → (K w.params).In h → h.Ns mainGlobals mg → mg d.name = some (.ref fa) →
      ∃ fd : FuncData, (∀ (s : Shared) (us : List Value), us.length = ps.length → BindsTo s fd ⟨us, []⟩ (ps.zip us)) ∧
        ∀ base : Heap, (K w.params).In base → base.Ns mainGlobals mg → FnOk r.prog w (K w.params) mg base CX k fa fd ps (sp (K w.params)))
    (hsp : ∀ (K : PySem.W.Frag) (H : Hp) (xs : List V) (a : Codec.denoteAll r.args), OnlyF H → Codec.withinAll r.args a = true → Codec.app r.args r.asked a = true → DwAll K H xs (Codec.encAll r.args a) →
      sp K xs H (fun v H' => Dw K H' v (r.ret.enc (Codec.app r.args r.f a))) fun _ _ _ => False)
    (hCX : ∀ (H : Hp) (s : Shared) (e : Value) (s' : Shared), CX [] H s (fun _ _ _ => False) e s' → False) :
    PySem.W.WalkOS q loose XP YP r d [] (fun f vs => PySem.call f vs) :=
  walk_spec (K := K) (CX := fun _ => CX) (sp := fun w => sp (K w.params)) hwell hdf hlen hr hY F (fun w H xs a h1 h2 h3 h4 => hsp (K w.params) H xs a h1 h2 h3 h4) fun _ H s e s' => hCX H s e s'
end L2
-- rests on (row put in by the clerk, for the bench that shows a file only what it spells): KE.SpHead KE.OsShapes
end

section
namespace Lg
open Uw92
def fr (n d : Int) : Frac := frac n d.toNat
theorem frac_pos {u : Int} {l : Nat} (h : 0 < l) : frac u l = ⟨u / (Nat.gcd u.natAbs l : Int), l / Nat.gcd u.natAbs l⟩ := by
  unfold frac
  by_cases e : u = 0
  · subst e
    simp [Nat.div_self h]
  · rw [if_neg e]
theorem frac_mul {u : Int} {l k : Nat} (h : 0 < l) (hk : 0 < k) : frac (u * (k : Int)) (l * k) = frac u l := by
  rw [frac_pos h, frac_pos (Nat.mul_pos h hk)]
  have e : Nat.gcd (u * (k : Int)).natAbs (l * k) = Nat.gcd u.natAbs l * k := by
    rw [Int.natAbs_mul, Int.natAbs_natCast, Nat.gcd_mul_right]
  rw [e, Nat.mul_div_mul_right _ _ hk]
  have : ((Nat.gcd u.natAbs l * k : Nat) : Int) = (Nat.gcd u.natAbs l : Int) * (k : Int) := by simp
  rw [this, Int.mul_ediv_mul_of_pos_left _ _ (by omega)]
theorem frac_l {u : Int} {l : Nat} (h : 0 < l) : 0 < (frac u l).l := by
  rw [frac_pos h]
  exact Nat.div_pos (Nat.gcd_le_right _ h) (Nat.gcd_pos_of_pos_right _ h)
theorem frac_val {u : Int} {l : Nat} (h : 0 < l) : (frac u l).u * (l : Int) = u * ((frac u l).l : Int) := by
  rw [frac_pos h]
  have g : 0 < Nat.gcd u.natAbs l := Nat.gcd_pos_of_pos_right _ h
  obtain ⟨a, ha⟩ : (Nat.gcd u.natAbs l : Int) ∣ u := Int.ofNat_dvd_left.mpr (Nat.gcd_dvd_left _ _)
  obtain ⟨b, hb⟩ : Nat.gcd u.natAbs l ∣ l := Nat.gcd_dvd_right _ _
  show u / _ * (l : Int) = u * ((l / Nat.gcd u.natAbs l : Nat) : Int)
  generalize hg : Nat.gcd u.natAbs l = G at *
  have e1 : u / (G : Int) = a := by
    rw [ha]; exact Int.mul_ediv_cancel_left _ (by omega)
  have e2 : l / G = b := by
    rw [hb]; exact Nat.mul_div_cancel_left _ g
  rw [e1, e2, ha, hb]
  simp only [Int.natCast_mul]
  grind
theorem frac_eq {u m : Int} {l k : Nat} (h : 0 < l) (hk : 0 < k) (e : u * (k : Int) = m * (l : Int)) : frac u l = frac m k := by
  rw [← frac_mul h hk, e, Nat.mul_comm l k, frac_mul hk h]
/-! the same over ints -/
theorem fr_eq {n d m e : Int} (h : 0 < d) (hk : 0 < e) (q : n * e = m * d) : fr n d = fr m e := by
  unfold fr
  refine frac_eq (by omega) (by omega) ?_
  rw [Int.toNat_of_nonneg (by omega), Int.toNat_of_nonneg (by omega)]
  exact q
theorem fr_l {n d : Int} (h : 0 < d) : 0 < (fr n d).l := frac_l (by omega)
theorem fr_val {n d : Int} (h : 0 < d) : (fr n d).u * d = n * ((fr n d).l : Int) := by
  have q := frac_val (u := n) (l := d.toNat) (by omega)
  rw [Int.toNat_of_nonneg (by omega)] at q
  exact q
theorem fr_of_nat {u : Int} {l : Nat} : frac u l = fr u l := by
  unfold fr; rw [Int.toNat_natCast]
theorem whole_fr (n : Int) : whole n = fr n 1 := by
  unfold fr
  show _ = frac n 1
  rw [frac_pos (by decide), Nat.gcd_one_right]
  simp [whole]
theorem fr_zero {d : Int} (h : 0 < d) : fr 0 d = whole 0 := by
  rw [whole_fr]; exact fr_eq h (by decide) (by simp)
theorem mulpos {a b : Int} (h : 0 < a) (k : 0 < b) : 0 < a * b := Int.mul_pos h k
theorem plus_fr {n d m e : Int} (h : 0 < d) (k : 0 < e) : plus (fr n d) (fr m e) = fr (n * e + m * d) (d * e) := by
  unfold plus
  have a := fr_l (n := n) h
  have b := fr_l (n := m) k
  rw [fr_of_nat, Int.natCast_mul]
  refine fr_eq (mulpos (by omega) (by omega)) (mulpos h k) ?_
  have va := fr_val (n := n) h
  have vb := fr_val (n := m) k
  generalize (fr n d).u = u1 at *
  generalize ((fr n d).l : Int) = l1 at *
  generalize (fr m e).u = u2 at *
  generalize ((fr m e).l : Int) = l2 at *
  grind
theorem plus_same {n m d : Int} (h : 0 < d) : plus (fr n d) (fr m d) = fr (n + m) d := by
  rw [plus_fr h h]
  refine fr_eq (mulpos h h) h ?_
  grind
theorem times_fr {n d m e : Int} (h : 0 < d) (k : 0 < e) : times (fr n d) (fr m e) = fr (n * m) (d * e) := by
  unfold times
  have a := fr_l (n := n) h
  have b := fr_l (n := m) k
  rw [fr_of_nat, Int.natCast_mul]
  refine fr_eq (mulpos (by omega) (by omega)) (mulpos h k) ?_
  have va := fr_val (n := n) h
  have vb := fr_val (n := m) k
  generalize (fr n d).u = u1 at *
  generalize ((fr n d).l : Int) = l1 at *
  generalize (fr m e).u = u2 at *
  generalize ((fr m e).l : Int) = l2 at *
  grind
theorem minus_fr {n d m e : Int} (h : 0 < d) (k : 0 < e) : minus (fr n d) (fr m e) = fr (n * e - m * d) (d * e) := by
  have a := fr_l (n := n) h
  have b := fr_l (n := m) k
  show frac ((fr n d).u * ((fr m e).l : Int) + (-(fr m e).u) * ((fr n d).l : Int)) ((fr n d).l * (fr m e).l) = _
  rw [fr_of_nat, Int.natCast_mul]
  refine fr_eq (mulpos (by omega) (by omega)) (mulpos h k) ?_
  have va := fr_val (n := n) h
  have vb := fr_val (n := m) k
  generalize (fr n d).u = u1 at *
  generalize ((fr n d).l : Int) = l1 at *
  generalize (fr m e).u = u2 at *
  generalize ((fr m e).l : Int) = l2 at *
  grind
theorem minus_same {n m d : Int} (h : 0 < d) : minus (fr n d) (fr m d) = fr (n - m) d := by
  rw [minus_fr h h]
  refine fr_eq (mulpos h h) h ?_
  grind
theorem fr_u_pos {n d : Int} (h : 0 < d) (hn : 0 < n) : 0 < (fr n d).u := by
  have a := fr_l (n := n) h
  have va := fr_val (n := n) h
  have : 0 < n * ((fr n d).l : Int) := mulpos hn (by omega)
  rw [← va] at this
  exact Int.pos_of_mul_pos_left this h
theorem over_fr {n d m e : Int} (h : 0 < d) (k : 0 < e) (hm : 0 < m) : over (fr n d) (fr m e) = fr (n * e) (d * m) := by
  unfold over
  have a := fr_l (n := n) h
  have b := fr_l (n := m) k
  have c := fr_u_pos k hm
  rw [fr_of_nat, Int.natCast_mul, Int.natAbs_of_nonneg (by omega)]
  refine fr_eq (mulpos (by omega) c) (mulpos h hm) ?_
  have va := fr_val (n := n) h
  have vb := fr_val (n := m) k
  generalize (fr n d).u = u1 at *
  generalize ((fr n d).l : Int) = l1 at *
  generalize (fr m e).u = u2 at *
  generalize ((fr m e).l : Int) = l2 at *
  grind
theorem less_fr {n d m e : Int} (h : 0 < d) (k : 0 < e) : less (fr n d) (fr m e) = decide (n * e < m * d) := by
  unfold less
  have a := fr_l (n := n) h
  have b := fr_l (n := m) k
  have va := fr_val (n := n) h
  have vb := fr_val (n := m) k
  have a' : 0 < ((fr n d).l : Int) := by omega
  have b' : 0 < ((fr m e).l : Int) := by omega
  generalize (fr n d).u = u1 at *
  generalize ((fr n d).l : Int) = l1 at *
  generalize (fr m e).u = u2 at *
  generalize ((fr m e).l : Int) = l2 at *
  have q1 : (u1 * l2) * (d * e) = (n * e) * (l1 * l2) := by grind
  have q2 : (u2 * l1) * (d * e) = (m * d) * (l1 * l2) := by grind
  have p1 : 0 < d * e := mulpos h k
  have p2 : 0 < l1 * l2 := mulpos a' b'
  refine decide_eq_decide.mpr ⟨fun q => ?_, fun q => ?_⟩
  · have z := Int.mul_lt_mul_of_pos_right q p1
    rw [q1, q2] at z
    exact Int.lt_of_mul_lt_mul_right z (Int.le_of_lt p2)
  · have z := Int.mul_lt_mul_of_pos_right q p2
    rw [← q1, ← q2] at z
    exact Int.lt_of_mul_lt_mul_right z (Int.le_of_lt p1)
end Lg
end

section
namespace Lg
open Uw92
/-- a game in ints: v, then the three chances -/
structure Gm where
  v : Int
  a : Int
  b : Int
  c : Int
structure Gm.Ok (g : Gm) : Prop where
  a0 : 0 < g.a
  a1 : g.a < g.v
  b0 : 0 < g.b
  b1 : g.b < g.v
  c0 : 0 < g.c
  c1 : g.c < g.v
theorem Gm.Ok.v0 {g : Gm} (h : g.Ok) : 0 < g.v := by have := h.a0; have := h.a1; omega
def Gm.odds (g : Gm) : Odds := [fr g.a g.v, fr g.b g.v, fr g.c g.v]
structure S3 where
  x : Int
  y : Int
  z : Int
def of3 (s : S3) (D : Int) : Often := [fr s.x D, fr s.y D, fr s.z D]
def behind (s : S3) (g : Gm) : S3 := ⟨s.y * (g.v - g.b) + s.z * g.c, s.x * g.a + s.z * (g.v - g.c), s.x * (g.v - g.a) + s.y * g.b⟩
def S3.sum (s : S3) : Int := s.x + s.y + s.z
theorem sum_behind (s : S3) (g : Gm) : (behind s g).sum = s.sum * g.v := by
  unfold behind S3.sum
  grind
theorem lose_fr {n d : Int} (h : 0 < d) : minus (whole 1) (fr n d) = fr (d - n) d := by
  rw [whole_fr, minus_fr (by decide) h]
  refine fr_eq (by omega) h ?_
  grind
theorem round_fr {s : S3} {g : Gm} {D : Int} (hD : 0 < D) (hv : 0 < g.v) : round g.odds (of3 s D) = of3 (behind s g) (D * g.v) := by
  have hp : 0 < D * g.v := mulpos hD hv
  show [plus (times (fr s.z D) (fr g.c g.v)) (times (fr s.y D) (minus (whole 1) (fr g.b g.v))),
    plus (times (fr s.x D) (fr g.a g.v)) (times (fr s.z D) (minus (whole 1) (fr g.c g.v))),
    plus (times (fr s.y D) (fr g.b g.v)) (times (fr s.x D) (minus (whole 1) (fr g.a g.v)))] = _
  simp only [lose_fr hv, times_fr hD hv, plus_same hp]
  unfold of3 behind
  simp only [List.cons.injEq, and_true]
  refine ⟨?_, ?_, ?_⟩ <;> congr 1 <;> grind
def behindAll (row : List Gm) (s : S3) : S3 := row.foldl behind s
def vprod : List Gm → Int
  | [] => 1
  | g :: r => g.v * vprod r
theorem vprod_pos : ∀ {row : List Gm}, (∀ g ∈ row, 0 < g.v) → 0 < vprod row
  | [], _ => by decide
  | g :: r, h => mulpos (h g (List.mem_cons_self ..)) (vprod_pos fun x hx => h x (List.mem_cons_of_mem _ hx))
theorem rounds_fr : ∀ (row : List Gm) {s : S3} {D : Int}, 0 < D → (∀ g ∈ row, 0 < g.v) → rounds (row.map Gm.odds) (of3 s D) = of3 (behindAll row s) (D * vprod row)
  | [], s, D, _, _ => by
    show of3 s D = of3 s (D * 1)
    rw [Int.mul_one]
  | g :: r, s, D, hD, h => by
    have hv := h g (List.mem_cons_self ..)
    show rounds (r.map Gm.odds) (round g.odds (of3 s D)) = of3 (behindAll r (behind s g)) (D * (g.v * vprod r))
    rw [round_fr hD hv, rounds_fr r (mulpos hD hv) (fun x hx => h x (List.mem_cons_of_mem _ hx)), Int.mul_assoc]
theorem sum_behindAll : ∀ (row : List Gm) (s : S3), (behindAll row s).sum = s.sum * vprod row
  | [], s => by show s.sum = s.sum * 1; rw [Int.mul_one]
  | g :: r, s => by
    show (behindAll r (behind s g)).sum = s.sum * (g.v * vprod r)
    rw [sum_behindAll r, sum_behind, Int.mul_assoc]
def unit (i : Nat) : S3 := if i = 0 then ⟨1, 0, 0⟩ else if i = 1 then ⟨0, 1, 0⟩ else ⟨0, 0, 1⟩
theorem surely_fr {i : Nat} (h : i < 3) : surely i = of3 (unit i) 1 := by
  match i, h with
  | 0, _ => simp [surely, of3, unit, ← whole_fr, List.range, List.range.loop]
  | 1, _ => simp [surely, of3, unit, ← whole_fr, List.range, List.range.loop]
  | 2, _ => simp [surely, of3, unit, ← whole_fr, List.range, List.range.loop]
/-- the three moves of a row -/
def mv (row : List Gm) (i : Nat) : S3 := behindAll row (unit i)
def S3.at (s : S3) (i : Nat) : Int := if i = 0 then s.x else if i = 1 then s.y else s.z
theorem at_of3 {s : S3} {D : Int} {j : Nat} (h : j < 3) : at_ (of3 s D) j = fr (s.at j) D := by
  match j, h with
  | 0, _ => rfl
  | 1, _ => rfl
  | 2, _ => rfl
theorem leads_fr {row : List Gm} {i j : Nat} (hv : ∀ g ∈ row, 0 < g.v) (hi : i < 3) (hj : j < 3) : leads (row.map Gm.odds) i j = fr ((mv row i).at j) (vprod row) := by
  unfold leads
  rw [surely_fr hi, rounds_fr row (by decide) hv, at_of3 hj, Int.one_mul]
  rfl
def wt (row : List Gm) (i : Nat) : Int :=
  let j := (i + 1) % 3
  let k := (i + 2) % 3
  (mv row j).at i * (mv row k).at i + (mv row j).at k * (mv row k).at i + (mv row k).at j * (mv row j).at i
theorem weight_fr {row : List Gm} {i : Nat} (hv : ∀ g ∈ row, 0 < g.v) (hi : i < 3) : weight (row.map Gm.odds) i = fr (wt row i) (vprod row * vprod row) := by
  have p := vprod_pos hv
  have pp := mulpos p p
  unfold weight
  simp only [leads_fr hv (Nat.mod_lt (i + 1) (by decide : 0 < 3)) hi, leads_fr hv (Nat.mod_lt (i + 2) (by decide : 0 < 3)) hi,
    leads_fr hv (Nat.mod_lt (i + 1) (by decide : 0 < 3)) (Nat.mod_lt (i + 2) (by decide : 0 < 3)), leads_fr hv (Nat.mod_lt (i + 2) (by decide : 0 < 3)) (Nat.mod_lt (i + 1) (by decide : 0 < 3)),
    times_fr p p, plus_same pp]
  congr 1
  unfold wt
  simp only
  grind
def lasting (row : List Gm) : S3 := ⟨wt row 0, wt row 1, wt row 2⟩
/-! positive -/
structure S3.Pos (s : S3) : Prop where
  x : 0 < s.x
  y : 0 < s.y
  z : 0 < s.z
/-- none below 0, and above 0 but at place i -/
structure S3.But (i : Nat) (s : S3) : Prop where
  x : 0 ≤ s.x
  y : 0 ≤ s.y
  z : 0 ≤ s.z
  px : i ≠ 0 → 0 < s.x
  py : i ≠ 1 → 0 < s.y
  pz : i ≠ 2 → 0 < s.z
theorem but_behind {s : S3} {g : Gm} {i : Nat} (h : s.But i) (hg : g.Ok) (hi : i < 3) : (behind s g).But i := by
  obtain ⟨a0, a1, b0, b1, c0, c1⟩ := hg
  obtain ⟨x, y, z, px, py, pz⟩ := h
  have u1 := Int.mul_nonneg y (show 0 ≤ g.v - g.b by omega)
  have u2 := Int.mul_nonneg z (show 0 ≤ g.c by omega)
  have u3 := Int.mul_nonneg x (show 0 ≤ g.a by omega)
  have u4 := Int.mul_nonneg z (show 0 ≤ g.v - g.c by omega)
  have u5 := Int.mul_nonneg x (show 0 ≤ g.v - g.a by omega)
  have u6 := Int.mul_nonneg y (show 0 ≤ g.b by omega)
  match i, hi with
  | 0, _ =>
    have y := py (by decide)
    have z := pz (by decide)
    have v1 := Int.mul_pos y (show 0 < g.v - g.b by omega)
    have v2 := Int.mul_pos z (show 0 < g.c by omega)
    have v4 := Int.mul_pos z (show 0 < g.v - g.c by omega)
    have v6 := Int.mul_pos y (show 0 < g.b by omega)
    constructor <;> simp only [Lg.behind] <;> omega
  | 1, _ =>
    have x := px (by decide)
    have z := pz (by decide)
    have v3 := Int.mul_pos x (show 0 < g.a by omega)
    have v2 := Int.mul_pos z (show 0 < g.c by omega)
    have v4 := Int.mul_pos z (show 0 < g.v - g.c by omega)
    have v5 := Int.mul_pos x (show 0 < g.v - g.a by omega)
    constructor <;> simp only [Lg.behind] <;> omega
  | 2, _ =>
    have x := px (by decide)
    have y := py (by decide)
    have v3 := Int.mul_pos x (show 0 < g.a by omega)
    have v5 := Int.mul_pos x (show 0 < g.v - g.a by omega)
    have v1 := Int.mul_pos y (show 0 < g.v - g.b by omega)
    have v6 := Int.mul_pos y (show 0 < g.b by omega)
    constructor <;> simp only [Lg.behind] <;> omega
theorem but_unit {g : Gm} {i : Nat} (hg : g.Ok) (hi : i < 3) : (behind (unit i) g).But i := by
  obtain ⟨a0, a1, b0, b1, c0, c1⟩ := hg
  match i, hi with
  | 0, _ => constructor <;> simp [Lg.behind, Lg.unit] <;> omega
  | 1, _ => constructor <;> simp [Lg.behind, Lg.unit] <;> omega
  | 2, _ => constructor <;> simp [Lg.behind, Lg.unit] <;> omega
theorem but_all : ∀ {row : List Gm} {s : S3} {i : Nat}, s.But i → (∀ g ∈ row, g.Ok) → i < 3 → (behindAll row s).But i
  | [], _, _, h, _, _ => h
  | g :: r, _, _, h, hg, hi => but_all (row := r) (but_behind h (hg g (List.mem_cons_self ..)) hi) (fun x hx => hg x (List.mem_cons_of_mem _ hx)) hi
theorem mv_but {row : List Gm} {i : Nat} (h : ∀ g ∈ row, g.Ok) (hne : row ≠ []) (hi : i < 3) : (mv row i).But i := by
  match row, hne with
  | g :: r, _ => exact but_all (row := r) (but_unit (h g (List.mem_cons_self ..)) hi) (fun x hx => h x (List.mem_cons_of_mem _ hx)) hi
theorem lasting_pos {row : List Gm} (h : ∀ g ∈ row, g.Ok) (hne : row ≠ []) : (lasting row).Pos := by
  have m0 := mv_but h hne (show 0 < 3 by decide)
  have m1 := mv_but h hne (show 1 < 3 by decide)
  have m2 := mv_but h hne (show 2 < 3 by decide)
  have p10 := m1.px (by decide)
  have p12 := m1.pz (by decide)
  have p20 := m2.px (by decide)
  have p21 := m2.py (by decide)
  have p01 := m0.py (by decide)
  have p02 := m0.pz (by decide)
  constructor
  · show 0 < (mv row 1).x * (mv row 2).x + (mv row 1).z * (mv row 2).x + (mv row 2).y * (mv row 1).x
    have := mulpos p10 p20; have := mulpos p12 p20; have := mulpos p21 p10
    omega
  · show 0 < (mv row 2).y * (mv row 0).y + (mv row 2).x * (mv row 0).y + (mv row 0).z * (mv row 2).y
    have := mulpos p21 p01; have := mulpos p20 p01; have := mulpos p02 p21
    omega
  · show 0 < (mv row 0).z * (mv row 1).z + (mv row 0).y * (mv row 1).z + (mv row 1).x * (mv row 0).z
    have := mulpos p02 p12; have := mulpos p01 p12; have := mulpos p10 p02
    omega
theorem lasting_sum {row : List Gm} (h : ∀ g ∈ row, g.Ok) (hne : row ≠ []) : 0 < (lasting row).sum := by
  have ⟨x, y, z⟩ := lasting_pos h hne
  unfold S3.sum
  omega
theorem sum3 {x y z D : Int} (h : 0 < D) : Uw92.sum [fr x D, fr y D, fr z D] = fr (x + y + z) D := by
  show plus (plus (plus (whole 0) (fr x D)) (fr y D)) (fr z D) = _
  rw [← fr_zero h, plus_same h, plus_same h, plus_same h, Int.zero_add]
theorem long_fr {row : List Gm} (h : ∀ g ∈ row, g.Ok) (hne : row ≠ []) : long (row.map Gm.odds) = of3 (lasting row) (lasting row).sum := by
  have hv : ∀ g ∈ row, 0 < g.v := fun g hg => (h g hg).v0
  have p := vprod_pos hv
  have pp := mulpos p p
  have ps := lasting_sum h hne
  show [over (weight (row.map Gm.odds) 0) (Uw92.sum [weight (row.map Gm.odds) 0, weight (row.map Gm.odds) 1, weight (row.map Gm.odds) 2]),
    over (weight (row.map Gm.odds) 1) (Uw92.sum [weight (row.map Gm.odds) 0, weight (row.map Gm.odds) 1, weight (row.map Gm.odds) 2]),
    over (weight (row.map Gm.odds) 2) (Uw92.sum [weight (row.map Gm.odds) 0, weight (row.map Gm.odds) 1, weight (row.map Gm.odds) 2])] = _
  rw [weight_fr hv (show 0 < 3 by decide), weight_fr hv (show 1 < 3 by decide), weight_fr hv (show 2 < 3 by decide), sum3 pp]
  have ps' : 0 < wt row 0 + wt row 1 + wt row 2 := ps
  rw [over_fr pp pp ps', over_fr pp pp ps', over_fr pp pp ps']
  unfold of3
  simp only [List.cons.injEq, and_true]
  refine ⟨?_, ?_, ?_⟩ <;> refine fr_eq (mulpos pp ps') ps ?_ <;> simp only [lasting, S3.sum] <;> grind
/-! what is won -/
def wonIn (s : S3) (g : Gm) : Int := s.x * (2 * g.a - g.v) + s.y * (2 * g.b - g.v) + s.z * (2 * g.c - g.v)
theorem once_fr {s : S3} {g : Gm} {D : Int} (hD : 0 < D) (hv : 0 < g.v) : once g.odds (of3 s D) = fr (wonIn s g) (D * g.v) := by
  have hp : 0 < D * g.v := mulpos hD hv
  show Uw92.sum [times (fr s.x D) (minus (fr g.a g.v) (minus (whole 1) (fr g.a g.v))),
    times (fr s.y D) (minus (fr g.b g.v) (minus (whole 1) (fr g.b g.v))),
    times (fr s.z D) (minus (fr g.c g.v) (minus (whole 1) (fr g.c g.v)))] = _
  simp only [lose_fr hv, minus_same hv, times_fr hD hv]
  rw [sum3 hp]
  congr 1
  unfold wonIn
  grind
/-- what is won so far, and the shares, behind a row -/
def winAll : List Gm → Int → S3 → Int
  | [], won, _ => won
  | g :: r, won, s => winAll r (won * g.v + wonIn s g) (behind s g)
theorem plus_assoc_fr {n d m e k l : Int} (h : 0 < d) (h1 : 0 < e) (h2 : 0 < l) : plus (fr n d) (plus (fr m e) (fr k l)) = plus (plus (fr n d) (fr m e)) (fr k l) := by
  rw [plus_fr h1 h2, plus_fr h h1, plus_fr h (mulpos h1 h2), plus_fr (mulpos h h1) h2]
  refine fr_eq (mulpos h (mulpos h1 h2)) (mulpos (mulpos h h1) h2) ?_
  grind
theorem bringing_is : ∀ (row : List Gm) {s : S3} {D : Int}, 0 < D → (∀ g ∈ row, 0 < g.v) → ∃ n, bringing (row.map Gm.odds) (of3 s D) = fr n (D * vprod row)
  | [], s, D, hD, _ => ⟨0, by
    show whole 0 = fr 0 (D * 1)
    rw [Int.mul_one, fr_zero hD]⟩
  | g :: r, s, D, hD, h => by
    have hv := h g (List.mem_cons_self ..)
    have hr : ∀ x ∈ r, 0 < x.v := fun x hx => h x (List.mem_cons_of_mem _ hx)
    obtain ⟨n, e⟩ := bringing_is r (s := behind s g) (mulpos hD hv) hr
    have p := vprod_pos hr
    refine ⟨wonIn s g * vprod r + n, ?_⟩
    show plus (once g.odds (of3 s D)) (bringing (r.map Gm.odds) (round g.odds (of3 s D))) = fr _ (D * (g.v * vprod r))
    rw [round_fr hD hv, e, once_fr hD hv, plus_fr (mulpos hD hv) (mulpos (mulpos hD hv) p)]
    refine fr_eq (mulpos (mulpos hD hv) (mulpos (mulpos hD hv) p)) (mulpos hD (mulpos hv p)) ?_
    grind
theorem winAll_fr : ∀ (row : List Gm) {won : Int} {s : S3} {D : Int}, 0 < D → (∀ g ∈ row, 0 < g.v) → plus (fr won D) (bringing (row.map Gm.odds) (of3 s D)) = fr (winAll row won s) (D * vprod row)
  | [], won, s, D, hD, _ => by
    show plus (fr won D) (whole 0) = fr won (D * 1)
    rw [← fr_zero hD, plus_same hD, Int.mul_one, Int.add_zero]
  | g :: r, won, s, D, hD, h => by
    have hv := h g (List.mem_cons_self ..)
    have hr : ∀ x ∈ r, 0 < x.v := fun x hx => h x (List.mem_cons_of_mem _ hx)
    have p := vprod_pos hr
    have hp := mulpos hD hv
    show plus (fr won D) (plus (once g.odds (of3 s D)) (bringing (r.map Gm.odds) (round g.odds (of3 s D)))) = fr (winAll r (won * g.v + wonIn s g) (behind s g)) (D * (g.v * vprod r))
    rw [round_fr hD hv, once_fr hD hv]
    obtain ⟨n, e⟩ := bringing_is r (s := behind s g) hp hr
    rw [e, plus_assoc_fr hD hp (mulpos hp p), ← e]
    have e2 : plus (fr won D) (fr (wonIn s g) (D * g.v)) = fr (won * g.v + wonIn s g) (D * g.v) := by
      rw [plus_fr hD hp]
      refine fr_eq (mulpos hD hp) hp ?_
      grind
    rw [e2, winAll_fr r hp hr, Int.mul_assoc]
theorem bringing_fr {row : List Gm} {s : S3} {D : Int} (hD : 0 < D) (h : ∀ g ∈ row, 0 < g.v) : bringing (row.map Gm.odds) (of3 s D) = fr (winAll row 0 s) (D * vprod row) := by
  have p := vprod_pos h
  rw [← winAll_fr row hD h]
  obtain ⟨n, e⟩ := bringing_is row (s := s) hD h
  rw [e, fr_zero hD, ← fr_zero (mulpos hD p), plus_same (mulpos hD p), Int.zero_add]
/-- **the gain**, above and below (not in lowest terms) -/
def gainUp (row : List Gm) : Int := winAll row 0 (lasting row)
def gainLo (row : List Gm) : Int := (behindAll row (lasting row)).sum * (row.length : Int)
theorem gainLo_pos {row : List Gm} (h : ∀ g ∈ row, g.Ok) (hne : row ≠ []) : 0 < gainLo row := by
  have hv : ∀ g ∈ row, 0 < g.v := fun g hg => (h g hg).v0
  unfold gainLo
  rw [sum_behindAll]
  refine mulpos (mulpos (lasting_sum h hne) (vprod_pos hv)) ?_
  have := List.length_pos_iff.mpr hne
  omega
theorem gain_fr {row : List Gm} (h : ∀ g ∈ row, g.Ok) (hne : row ≠ []) : Uw92.gain (row.map Gm.odds) = fr (gainUp row) (gainLo row) := by
  have hv : ∀ g ∈ row, 0 < g.v := fun g hg => (h g hg).v0
  have ps := lasting_sum h hne
  have p := vprod_pos hv
  have hl := List.length_pos_iff.mpr hne
  unfold Uw92.gain
  rw [long_fr h hne, bringing_fr ps hv, List.length_map, whole_fr, over_fr (mulpos ps p) (by decide) (by omega), Int.mul_one]
  unfold gainUp gainLo
  rw [sum_behindAll]
end Lg
end

section
namespace Lg
open Uw92
/-- one call read off the list -/
inductive Read (p : Int) (r : List Int) : List (List Int) → List Int → Prop
  | plain {n : Nat} (hs : PyUw92.shape p = some (n, 0)) (hn : n ≤ r.length) : Read p r [p :: r.take n] (r.drop n)
  | row {n : Nat} {m : Int} {r2 : List Int} (hs : PyUw92.shape p = some (n, 1)) (hn : n ≤ r.length) (e : r.drop n = m :: r2) (h0 : 0 ≤ m) (hm : m.toNat ≤ r2.length) : Read p r [p :: r.take n, r2.take m.toNat] (r2.drop m.toNat)
theorem shape_cases {p : Int} {n k : Nat} (h : PyUw92.shape p = some (n, k)) : (p = 0 ∧ n = 4 ∧ k = 0) ∨ (p = 1 ∧ n = 0 ∧ k = 0) ∨ (p = 2 ∧ n = 1 ∧ k = 0) ∨ (p = 3 ∧ n = 2 ∧ k = 0) ∨ (p = 4 ∧ n = 0 ∧ k = 0) ∨ (p = 5 ∧ n = 0 ∧ k = 1) ∨ (p = 6 ∧ n = 0 ∧ k = 1) ∨ (p = 7 ∧ n = 0 ∧ k = 1) ∨ (p = 8 ∧ n = 1 ∧ k = 0) ∨ (p = 9 ∧ n = 1 ∧ k = 1) ∨ (p = 10 ∧ n = 2 ∧ k = 1) ∨ (p = 11 ∧ n = 0 ∧ k = 1) := by
  unfold PyUw92.shape at h
  by_cases h0 : p = 0
  · rw [if_pos h0] at h
    obtain ⟨rfl, rfl⟩ := Prod.mk.inj (Option.some.inj h)
    simp [h0]
  rw [if_neg h0] at h
  by_cases h1 : p = 1
  · rw [if_pos h1] at h
    obtain ⟨rfl, rfl⟩ := Prod.mk.inj (Option.some.inj h)
    simp [h1]
  rw [if_neg h1] at h
  by_cases h2 : p = 2
  · rw [if_pos h2] at h
    obtain ⟨rfl, rfl⟩ := Prod.mk.inj (Option.some.inj h)
    simp [h2]
  rw [if_neg h2] at h
  by_cases h3 : p = 3
  · rw [if_pos h3] at h
    obtain ⟨rfl, rfl⟩ := Prod.mk.inj (Option.some.inj h)
    simp [h3]
  rw [if_neg h3] at h
  by_cases h4 : p = 4
  · rw [if_pos h4] at h
    obtain ⟨rfl, rfl⟩ := Prod.mk.inj (Option.some.inj h)
    simp [h4]
  rw [if_neg h4] at h
  by_cases h5 : p = 5
  · rw [if_pos h5] at h
    obtain ⟨rfl, rfl⟩ := Prod.mk.inj (Option.some.inj h)
    simp [h5]
  rw [if_neg h5] at h
  by_cases h6 : p = 6
  · rw [if_pos h6] at h
    obtain ⟨rfl, rfl⟩ := Prod.mk.inj (Option.some.inj h)
    simp [h6]
  rw [if_neg h6] at h
  by_cases h7 : p = 7
  · rw [if_pos h7] at h
    obtain ⟨rfl, rfl⟩ := Prod.mk.inj (Option.some.inj h)
    simp [h7]
  rw [if_neg h7] at h
  by_cases h8 : p = 8
  · rw [if_pos h8] at h
    obtain ⟨rfl, rfl⟩ := Prod.mk.inj (Option.some.inj h)
    simp [h8]
  rw [if_neg h8] at h
  by_cases h9 : p = 9
  · rw [if_pos h9] at h
    obtain ⟨rfl, rfl⟩ := Prod.mk.inj (Option.some.inj h)
    simp [h9]
  rw [if_neg h9] at h
  by_cases h10 : p = 10
  · rw [if_pos h10] at h
    obtain ⟨rfl, rfl⟩ := Prod.mk.inj (Option.some.inj h)
    simp [h10]
  rw [if_neg h10] at h
  by_cases h11 : p = 11
  · rw [if_pos h11] at h
    obtain ⟨rfl, rfl⟩ := Prod.mk.inj (Option.some.inj h)
    simp [h11]
  rw [if_neg h11] at h
  cases h
theorem shape_rows {p : Int} {n k : Nat} (h : PyUw92.shape p = some (n, k)) : k = 0 ∨ k = 1 := by
  rcases shape_cases h with h | h | h | h | h | h | h | h | h | h | h | h <;> omega
theorem read_of {p : Int} {r : List Int} {c : List (List Int)} {t : List Int} (h : PyFlat.call PyUw92.shape (p :: r) = some (c, t)) : Read p r c t := by
  unfold PyFlat.call at h
  dsimp only at h
  cases hs : PyUw92.shape p with
  | none => rw [hs] at h; cases h
  | some nk =>
    obtain ⟨n, k⟩ := nk
    rw [hs] at h
    dsimp only at h
    by_cases hl : r.length < n
    · rw [if_pos hl] at h; cases h
    · rw [if_neg hl] at h
      rcases shape_rows hs with rfl | rfl
      · unfold PyFlat.rows at h
        cases h
        exact .plain hs (by omega)
      · unfold PyFlat.rows PyFlat.rows at h
        cases hd : r.drop n with
        | nil => rw [hd] at h; simp [PyFlat.row] at h
        | cons m r2 =>
          rw [hd] at h
          unfold PyFlat.row at h
          dsimp only at h
          by_cases hm : 0 ≤ m ∧ m.toNat ≤ r2.length
          · rw [if_pos hm] at h
            cases h
            exact .row hs (by omega) hd hm.1 hm.2
          · rw [if_neg hm] at h; cases h
theorem calls_cons {f : Nat} {p : Int} {r : List Int} {raw : List (List (List Int))} (h : PyFlat.calls PyUw92.shape f (p :: r) = some raw) :
    ∃ f' c t cs, Read p r c t ∧ PyFlat.calls PyUw92.shape f' t = some cs ∧ raw = c :: cs := by
  cases f with
  | zero => cases h
  | succ f =>
    unfold PyFlat.calls at h
    cases hc : PyFlat.call PyUw92.shape (p :: r) with
    | none => rw [hc] at h; cases h
    | some ct =>
      obtain ⟨c, t⟩ := ct
      rw [hc] at h
      dsimp only at h
      cases ht : PyFlat.calls PyUw92.shape f t with
      | none => rw [ht] at h; cases h
      | some cs =>
        rw [ht] at h
        cases h
        exact ⟨f, c, t, cs, read_of hc, ht, rfl⟩
theorem calls_nil {f : Nat} {raw : List (List (List Int))} (h : PyFlat.calls PyUw92.shape f [] = some raw) : raw = [] := by
  cases f <;> (cases h; rfl)
/-- what is due behind a state, for the calls that are left -/
def due (s : Uw92.St) (raw : List (List (List Int))) : List Int := PyFlat.told (PyFlat.played (fun s c => Uw92Neutral.step s (c.headD [])) s (raw.map PyUw92.whole))
def stepOf (s : Uw92.St) (c : List (List Int)) : Uw92.St × List Int := Uw92Neutral.step s ((PyUw92.whole c).headD [])
theorem due_cons (s : Uw92.St) (c : List (List Int)) (cs : List (List (List Int))) : due s (c :: cs) = ((stepOf s c).2.length : Int) :: (stepOf s c).2 ++ due (stepOf s c).1 cs := rfl
theorem due_nil (s : Uw92.St) : due s [] = [] := rfl
theorem answers_due {l : List Int} {raw : List (List (List Int))} (h : PyFlat.calls PyUw92.shape l.length l = some raw) : PyUw92.answers l = due Uw92.init raw := by
  unfold PyUw92.answers PyUw92.calls
  rw [h]
  rfl
/-- what is asked of the calls that are left -/
structure Left (raw : List (List (List Int))) : Prop where
  inside : PyInside.calls PyUw92.bound raw = true
  asked : ∀ c ∈ raw, Uw92Neutral.asked1 ((PyUw92.whole c).headD []) = true
theorem Left.tail {c : List (List Int)} {cs : List (List (List Int))} (h : Left (c :: cs)) : Left cs := by
  refine ⟨?_, fun d hd => h.asked d (List.mem_cons_of_mem _ hd)⟩
  have q := h.inside
  unfold PyInside.calls at q ⊢
  rw [List.all_cons, Bool.and_eq_true] at q
  exact q.2
theorem asked_left {l : List Int} (h : PyUw92.answers_asked l = true) : ∃ raw, PyFlat.calls PyUw92.shape l.length l = some raw ∧ Left raw ∧ raw.length ≤ 40 ∧ (PyUw92.answers l).length ≤ 10000000 := by
  unfold PyUw92.answers_asked at h
  cases hc : PyFlat.calls PyUw92.shape l.length l with
  | none => rw [hc] at h; cases h
  | some raw =>
    rw [hc] at h
    simp only [Bool.and_eq_true] at h
    obtain ⟨⟨⟨⟨h1, h2⟩, h3⟩, h4⟩, h5⟩ := h
    refine ⟨raw, rfl, ⟨h3, fun c hcm => ?_⟩, of_decide_eq_true h2, of_decide_eq_true h5⟩
    unfold Uw92Neutral.asked at h4
    simp only [Bool.and_eq_true] at h4
    exact (List.all_eq_true.mp h4.1) _ (List.mem_map.mpr ⟨_, List.mem_map.mpr ⟨c, hcm, rfl⟩, rfl⟩)
end Lg
end

section
namespace Lg
open Uw92
def NatL (l : List Int) : Prop := ∀ z ∈ l, 0 ≤ z ∧ z < 4294967296
theorem all_nat {l : List Int} (h : NatL l) : l.all Uw92Neutral.nat = true := by
  refine List.all_eq_true.mpr fun z hz => ?_
  obtain ⟨h1, h2⟩ := h z hz
  unfold Uw92Neutral.nat
  simp only [Bool.and_eq_true, decide_eq_true_eq]
  exact ⟨h1, by omega⟩
theorem natL_of {l : List Int} (h : Uw92Neutral.asked1 l = true) : NatL l := by
  unfold Uw92Neutral.asked1 Uw92Neutral.callOf at h
  by_cases e : l.all Uw92Neutral.nat = false
  · rw [if_pos e] at h; cases h
  · have e2 : l.all Uw92Neutral.nat = true := by simpa using e
    intro z hz
    have q := List.all_eq_true.mp e2 z hz
    unfold Uw92Neutral.nat at q
    simp only [Bool.and_eq_true, decide_eq_true_eq] at q
    exact ⟨q.1, by omega⟩
theorem callOf_is {l : List Int} (h : NatL l) : Uw92Neutral.callOf l = Uw92Neutral.callIn (l.map Int.toNat) := by
  unfold Uw92Neutral.callOf
  rw [if_neg (by rw [all_nat h]; decide)]
theorem step_is {s : Uw92.St} {l : List Int} {x : Uw92.Call} (h : NatL l) (e : Uw92Neutral.callIn (l.map Int.toNat) = some x) : Uw92Neutral.step s l = Uw92.step s x := by
  unfold Uw92Neutral.step
  rw [callOf_is h, e]
  rfl
section
variable {s : Uw92.St} {a b c d : Int} {r : List Int}
theorem step0 (h : NatL [0, a, b, c, d]) : stepOf s [[0, a, b, c, d]] = Uw92.step s (.game a.toNat b.toNat c.toNat d.toNat) := step_is h rfl
theorem step1 : stepOf s [[1]] = Uw92.step s .drop := step_is (l := [1]) (by intro z hz; simp at hz; omega) rfl
theorem step2 (h : NatL [2, a]) : stepOf s [[2, a]] = Uw92.step s (.have_ a.toNat) := step_is h rfl
theorem step3 (h : NatL [3, a, b]) : stepOf s [[3, a, b]] = Uw92.step s (.play a.toNat b.toNat) := step_is h rfl
theorem step4 : stepOf s [[4]] = Uw92.step s .shows := step_is (l := [4]) (by intro z hz; simp at hz; omega) rfl
theorem step5 (h : NatL (5 :: r)) : stepOf s [[5], r] = Uw92.step s (.gain (r.map Int.toNat)) := step_is h rfl
theorem step6 (h : NatL (6 :: r)) : stepOf s [[6], r] = Uw92.step s (.rests (r.map Int.toNat)) := step_is h rfl
theorem step7 (h : NatL (7 :: r)) : stepOf s [[7], r] = Uw92.step s (.mix (r.map Int.toNat)) := step_is h rfl
theorem step8 (h : NatL [8, a]) : stepOf s [[8, a]] = Uw92.step s (.best a.toNat) := step_is h rfl
theorem step9 (h : NatL (9 :: a :: r)) : stepOf s [[9, a], r] = Uw92.step s (.after a.toNat (r.map Int.toNat)) := step_is h rfl
theorem step10 (h : NatL (10 :: a :: b :: r)) : stepOf s [[10, a, b], r] = Uw92.step s (.chance a.toNat b.toNat (r.map Int.toNat)) := step_is h rfl
theorem step11 (h : NatL (11 :: r)) : stepOf s [[11], r] = Uw92.step s (.loses (r.map Int.toNat)) := step_is h rfl
end
/-- a call in the program's own numbers: its number, its whole numbers, its row -/
def callP (p : Int) (ns row : List Int) : List (List Int) := if p = 5 ∨ p = 6 ∨ p = 7 ∨ 9 ≤ p then [p :: ns, row] else [p :: ns]
theorem inside_row {p : Int} {ns row : List Int} (hp : PyUw92.shape p = some (ns.length, 1)) (h : PyInside.call PyUw92.bound [p :: ns, row] = true) : row.length ≤ 9 := by
  unfold PyInside.call at h
  simp only [Bool.and_eq_true] at h
  have q := h.2
  rcases shape_cases hp with h | h | h | h | h | h | h | h | h | h | h | h <;> first
    | omega
    | (obtain ⟨rfl, _, _⟩ := h
       have e : ∀ (b : List (Int × Int)), PyInside.lists [((0 : Int), (4294967295 : Int), 0, 9)] [row] = true → row.length ≤ 9 := by
         intro b hb
         simp [PyInside.lists] at hb
         exact hb.1
       exact e [] q)
end Lg
end

section
namespace Lg
open Uw92
def Gm.game (g : Gm) : Game := ⟨g.v.toNat, [g.a.toNat, g.b.toNat, g.c.toNat]⟩
theorem odds_game {g : Gm} (h : g.Ok) : Uw92.odds g.game = g.odds := by
  have a0 := h.a0; have b0 := h.b0; have c0 := h.c0; have v0 := h.v0
  show [frac ((g.a.toNat : Nat) : Int) g.v.toNat, frac ((g.b.toNat : Nat) : Int) g.v.toNat, frac ((g.c.toNat : Nat) : Int) g.v.toNat] = [fr g.a g.v, fr g.b g.v, fr g.c g.v]
  rw [Int.toNat_of_nonneg (by omega), Int.toNat_of_nonneg (by omega), Int.toNat_of_nonneg (by omega)]
  rfl
/-- the row's games, where all are there -/
def rowOf (gs : List Gm) (r : List Int) : List Gm := r.filterMap fun i => gs[i.toNat]?
theorem rowOf_mem {gs : List Gm} {r : List Int} {g : Gm} (h : g ∈ rowOf gs r) : g ∈ gs := by
  unfold rowOf at h
  obtain ⟨i, _, hi⟩ := List.mem_filterMap.mp h
  exact List.mem_of_getElem? hi
theorem oddsOf_is {gs : List Gm} (h : ∀ g ∈ gs, g.Ok) : ∀ (r : List Int), oddsOf (gs.map Gm.game) (r.map Int.toNat) = (rowOf gs r).map Gm.odds
  | [] => rfl
  | i :: r => by
    have ih := oddsOf_is h r
    unfold oddsOf rowOf at *
    rw [List.map_cons, List.filterMap_cons, List.filterMap_cons, List.getElem?_map]
    cases e : gs[i.toNat]? with
    | none => exact ih
    | some g =>
      show Uw92.odds g.game :: _ = g.odds :: _
      rw [ih, odds_game (h g (List.mem_of_getElem? e))]
structure IsRow (gs : List Gm) (r : List Int) : Prop where
  lo : 1 ≤ r.length
  hi : r.length ≤ 6
  mem : ∀ i ∈ r, 0 ≤ i ∧ i < (gs.length : Int)
theorem rowOf_length {gs : List Gm} : ∀ {r : List Int}, (∀ i ∈ r, 0 ≤ i ∧ i < (gs.length : Int)) → (rowOf gs r).length = r.length
  | [], _ => rfl
  | i :: r, h => by
    have ih := rowOf_length (r := r) fun j hj => h j (List.mem_cons_of_mem _ hj)
    obtain ⟨h0, h1⟩ := h i (List.mem_cons_self ..)
    unfold rowOf at *
    rw [List.filterMap_cons, List.getElem?_eq_getElem (show i.toNat < gs.length by omega)]
    show (_ :: _).length = _
    rw [List.length_cons, List.length_cons, ih]
theorem rowOf_ne {gs : List Gm} {r : List Int} (h : IsRow gs r) : rowOf gs r ≠ [] := by
  intro e
  have := rowOf_length h.mem
  rw [e] at this
  have := h.lo
  simp at *
  omega
theorem isRow_is {gs : List Gm} {r : List Int} {s : Uw92.St} (hs : s.games = gs.map Gm.game) (hn : ∀ z ∈ r, 0 ≤ z) : isRow s (r.map Int.toNat) = true ↔ IsRow gs r := by
  unfold isRow
  rw [hs]
  simp only [Bool.and_eq_true, decide_eq_true_eq, List.length_map, List.all_eq_true, List.mem_map, forall_exists_index, and_imp, forall_apply_eq_imp_iff₂]
  constructor
  · rintro ⟨a, b, c⟩
    exact ⟨a, b, fun i hi => ⟨hn i hi, by have := c i hi; have := hn i hi; omega⟩⟩
  · rintro ⟨a, b, c⟩
    exact ⟨a, b, fun i hi => by have := c i hi; omega⟩
/-! fractions told -/
def gcdI (n d : Int) : Int := (Nat.gcd n.natAbs d.toNat : Int)
theorem gcdI_pos {n d : Int} (h : 0 < d) : 0 < gcdI n d := by
  have : 0 < Nat.gcd n.natAbs d.toNat := Nat.gcd_pos_of_pos_right _ (by omega)
  unfold gcdI
  omega
theorem gcdI_le {n d : Int} (h : 0 < d) : gcdI n d ≤ d := by
  have : Nat.gcd n.natAbs d.toNat ≤ d.toNat := Nat.gcd_le_right _ (by omega)
  unfold gcdI
  omega
theorem two_fr {n d : Int} (h : 0 < d) : two (fr n d) = [n / gcdI n d, d / gcdI n d] := by
  unfold two fr gcdI
  rw [frac_pos (by omega)]
  show [n / _, ((d.toNat / Nat.gcd n.natAbs d.toNat : Nat) : Int)] = _
  rw [Int.natCast_ediv, Int.toNat_of_nonneg (by omega)]
def signI (n : Int) : Int := if 0 < n then 1 else if n = 0 then 2 else 0
theorem sign_fr {n d : Int} (h : 0 < d) : sign (fr n d) = signI n := by
  unfold sign signI
  rw [whole_fr, less_fr (by decide) h, less_fr h (by decide)]
  simp only [decide_eq_true_eq, Int.zero_mul, Int.mul_one]
  split
  · rfl
  · split
    · rw [if_neg (by omega)]
    · rw [if_pos (by omega)]
theorem signI_div {n d : Int} (h : 0 < d) : signI (n / gcdI n d) = signI n := by
  have g := gcdI_pos (n := n) h
  obtain ⟨k, e⟩ : gcdI n d ∣ n := Int.ofNat_dvd_left.mpr (Nat.gcd_dvd_left _ _)
  generalize gcdI n d = G at *
  subst e
  rw [Int.mul_ediv_cancel_left _ (by omega)]
  unfold signI
  by_cases h1 : 0 < k
  · rw [if_pos h1, if_pos (Int.mul_pos g h1)]
  · by_cases h2 : k = 0
    · subst h2; simp
    · have : G * k < 0 := Int.mul_neg_of_pos_of_neg g (by omega)
      rw [if_neg h1, if_neg h2, if_neg (by omega), if_neg (by omega)]
/-! the sizes of what is reckoned -/
theorem S3.Pos.le {s : S3} (h : s.Pos) : s.x ≤ s.sum ∧ s.y ≤ s.sum ∧ s.z ≤ s.sum := by
  obtain ⟨x, y, z⟩ := h
  unfold S3.sum
  omega
theorem S3.But.le {s : S3} {i : Nat} (h : s.But i) : s.x ≤ s.sum ∧ s.y ≤ s.sum ∧ s.z ≤ s.sum := by
  obtain ⟨x, y, z, _, _, _⟩ := h
  unfold S3.sum
  omega
theorem unit_sum (i : Nat) : (unit i).sum = 1 := by
  unfold unit
  split
  · rfl
  · split <;> rfl
theorem mv_sum (row : List Gm) (i : Nat) : (mv row i).sum = vprod row := by
  unfold mv
  rw [sum_behindAll, unit_sum, Int.one_mul]
theorem vprod_le {row : List Gm} (h : ∀ g ∈ row, 0 < g.v ∧ g.v ≤ 100) : vprod row ≤ 100 ^ row.length := by
  induction row with
  | nil => decide
  | cons g r ih =>
    have i := ih fun x hx => h x (List.mem_cons_of_mem _ hx)
    obtain ⟨h0, h1⟩ := h g (List.mem_cons_self ..)
    have p := vprod_pos (row := r) fun x hx => (h x (List.mem_cons_of_mem _ hx)).1
    show g.v * vprod r ≤ 100 ^ (r.length + 1)
    rw [Int.pow_succ, Int.mul_comm (100 ^ r.length) 100]
    exact Int.mul_le_mul h1 i (by omega) (by decide)
end Lg
end

section
namespace Lg
open Uw92
/-- the rounds of a row, begun with its first game -/
def playedG (row : List Gm) (d : Nat) : List Gm := (List.range d).filterMap fun i => row[i % row.length]?
theorem played_is (row : List Gm) (d : Nat) : played (row.map Gm.odds) d = (playedG row d).map Gm.odds := by
  unfold played playedG
  rw [List.map_filterMap]
  congr 1
  funext i
  rw [List.length_map, List.getElem?_map]
theorem playedG_mem {row : List Gm} {d : Nat} {g : Gm} (h : g ∈ playedG row d) : g ∈ row := by
  unfold playedG at h
  obtain ⟨i, _, hi⟩ := List.mem_filterMap.mp h
  exact List.mem_of_getElem? hi
theorem playedG_len {row : List Gm} (hne : row ≠ []) (d : Nat) : (playedG row d).length = d := by
  have hl := List.length_pos_iff.mpr hne
  unfold playedG
  induction d with
  | zero => rfl
  | succ d ih =>
    rw [List.range_succ, List.filterMap_append, List.length_append, ih]
    show d + (List.filterMap (fun i => row[i % row.length]?) [d]).length = d + 1
    rw [List.filterMap_cons, List.getElem?_eq_getElem (Nat.mod_lt d hl)]
    rfl
theorem restOf_lt (x : Int) : restOf x < 3 := by
  unfold restOf
  omega
theorem after_fr {row : List Gm} (hv : ∀ g ∈ row, 0 < g.v) (x : Int) (d : Nat) : Uw92.after x (row.map Gm.odds) d = fr (winAll (playedG row d) x (unit (restOf x))) (vprod (playedG row d)) := by
  unfold Uw92.after
  rw [played_is, surely_fr (restOf_lt x), whole_fr, winAll_fr _ (by decide) (fun g hg => hv g (playedG_mem hg)), Int.one_mul]
/-! how likely each amount is -/
def Gm.u (g : Gm) (r : Nat) : Int := if r = 0 then g.a else if r = 1 then g.b else g.c
theorem win_fr {g : Gm} {r : Nat} (h : r < 3) : win g.odds r = fr (g.u r) g.v := by
  match r, h with
  | 0, _ => rfl
  | 1, _ => rfl
  | 2, _ => rfl
theorem lose_fr' {g : Gm} {r : Nat} (hv : 0 < g.v) (h : r < 3) : lose g.odds r = fr (g.v - g.u r) g.v := by
  unfold lose
  rw [win_fr h, lose_fr hv]
/-- behind one round more: from one less by winning, from one more by losing -/
def distStep (x : Int) (D : Int → Int) (g : Gm) : Int → Int := fun j => D (j - 1) * g.u (restOf (x + (j - 1))) + D (j + 1) * (g.v - g.u (restOf (x + (j + 1))))
def dist0 : Int → Int := fun j => if j = 0 then 1 else 0
def distAll (x : Int) (row : List Gm) (D : Int → Int) : Int → Int := row.foldl (distStep x) D
def Within (k : Int) (D : Int → Int) : Prop := ∀ j, j < -k ∨ k < j → D j = 0
theorem Within.step {k x : Int} {D : Int → Int} {g : Gm} (h : Within k D) : Within (k + 1) (distStep x D g) := by
  intro j hj
  unfold distStep
  rw [h (j - 1) (by omega), h (j + 1) (by omega)]
  simp
def lay (d : Nat) (D : Int → Int) (M : Int) : List Frac := (List.range (2 * d + 1)).map fun (i : Nat) => fr (D ((i : Int) - (d : Int))) M
theorem lay_at {d j : Nat} {D : Int → Int} {M : Int} (h : j ≤ 2 * d) : (lay d D M).getD j (whole 0) = fr (D ((j : Int) - (d : Int))) M := by
  unfold lay
  rw [List.getD_eq_getElem?_getD, List.getElem?_map, List.getElem?_range (by omega)]
  rfl
theorem spread_fr {x : Int} {d : Nat} {D : Int → Int} {M : Int} {g : Gm} (hM : 0 < M) (hv : 0 < g.v) (hD : Within d D) : spread x d g.odds (lay d D M) = lay d (distStep x D g) (M * g.v) := by
  have hp := mulpos hM hv
  unfold spread
  show _ = (List.range (2 * d + 1)).map _
  refine List.map_congr_left fun i hi => ?_
  have hi' : i < 2 * d + 1 := List.mem_range.mp hi
  have w : (if i = 0 then whole 0 else if 2 * d < i - 1 then whole 0 else times ((lay d D M).getD (i - 1) (whole 0)) (if true = true then win g.odds (restOf (x + ((i - 1 : Nat) : Int) - (d : Int))) else lose g.odds (restOf (x + ((i - 1 : Nat) : Int) - (d : Int)))))
      = fr (D ((i : Int) - (d : Int) - 1) * g.u (restOf (x + ((i : Int) - (d : Int) - 1)))) (M * g.v) := by
    by_cases h0 : i = 0
    · rw [if_pos h0, hD _ (by omega), Int.zero_mul, fr_zero hp]
    · rw [if_neg h0, if_neg (by omega), lay_at (by omega), if_pos rfl, win_fr (restOf_lt _), times_fr hM hv]
      have e1 : ((i - 1 : Nat) : Int) - (d : Int) = (i : Int) - (d : Int) - 1 := by omega
      have e2 : x + ((i - 1 : Nat) : Int) - (d : Int) = x + ((i : Int) - (d : Int) - 1) := by omega
      rw [e1, e2]
  have l : (if 2 * d < i + 1 then whole 0 else times ((lay d D M).getD (i + 1) (whole 0)) (if false = true then win g.odds (restOf (x + ((i + 1 : Nat) : Int) - (d : Int))) else lose g.odds (restOf (x + ((i + 1 : Nat) : Int) - (d : Int)))))
      = fr (D ((i : Int) - (d : Int) + 1) * (g.v - g.u (restOf (x + ((i : Int) - (d : Int) + 1))))) (M * g.v) := by
    by_cases h0 : 2 * d < i + 1
    · rw [if_pos h0, hD _ (by omega), Int.zero_mul, fr_zero hp]
    · rw [if_neg h0, lay_at (by omega), if_neg (by decide), lose_fr' hv (restOf_lt _), times_fr hM hv]
      have e1 : ((i + 1 : Nat) : Int) - (d : Int) = (i : Int) - (d : Int) + 1 := by omega
      have e2 : x + ((i + 1 : Nat) : Int) - (d : Int) = x + ((i : Int) - (d : Int) + 1) := by omega
      rw [e1, e2]
  refine (congr (congrArg plus w) l).trans ?_
  rw [plus_same hp]
  rfl
theorem spread_all {x : Int} {d : Nat} : ∀ (row : List Gm) {D : Int → Int} {M : Int} {k : Nat}, 0 < M → (∀ g ∈ row, 0 < g.v) → Within k D → k + row.length ≤ d →
    (row.map Gm.odds).foldl (fun l o => spread x d o l) (lay d D M) = lay d (distAll x row D) (M * vprod row)
  | [], D, M, _, _, _, _, _ => by
    show lay d D M = lay d D (M * 1)
    rw [Int.mul_one]
  | g :: r, D, M, k, hM, hv, hD, hk => by
    have h := hv g (List.mem_cons_self ..)
    rw [List.length_cons] at hk
    show (r.map Gm.odds).foldl (fun l o => spread x d o l) (spread x d g.odds (lay d D M)) = lay d (distAll x r (distStep x D g)) (M * (g.v * vprod r))
    rw [spread_fr hM h (fun j hj => hD j (by omega)), spread_all r (k := k + 1) (mulpos hM h) (fun y hy => hv y (List.mem_cons_of_mem _ hy)) (by have := hD.step (x := x) (g := g); simpa using this) (by omega), Int.mul_assoc]
theorem lay0 (d : Nat) : ((List.range (2 * d + 1)).map fun i => if i = d then whole 1 else whole 0) = lay d dist0 1 := by
  unfold lay
  refine List.map_congr_left fun i _ => ?_
  unfold dist0
  by_cases h : i = d
  · rw [if_pos h, if_pos (by omega), whole_fr]
  · rw [if_neg h, if_neg (by omega), whole_fr]
theorem chance_fr {row : List Gm} (hne : row ≠ []) (hv : ∀ g ∈ row, 0 < g.v) (x : Int) {d y : Nat} (hy : y ≤ d) : Uw92.chance x (row.map Gm.odds) d y = fr (distAll x (playedG row d) dist0 (y : Int)) (vprod (playedG row d)) := by
  unfold Uw92.chance
  rw [played_is, lay0, spread_all (playedG row d) (k := 0) (by decide) (fun g hg => hv g (playedG_mem hg)) (by intro j hj; unfold dist0; rw [if_neg (by omega)]) (by rw [playedG_len hne]; omega), lay_at (by omega), Int.one_mul]
  congr 2
  omega
/-! a mix -/
/-- the games' chances at a rest, shared by weights: above and below so far -/
def mixUp (r : Nat) : List (Gm × Int) → Int → Int → Int
  | [], n, _ => n
  | (g, w) :: l, n, d => mixUp r l (n * g.v + g.u r * w * d) (d * g.v)
def mixLo : List (Gm × Int) → Int → Int
  | [], d => d
  | (g, _) :: l, d => mixLo l (d * g.v)
theorem mixLo_pos : ∀ {l : List (Gm × Int)} {d : Int}, 0 < d → (∀ x ∈ l, 0 < x.1.v) → 0 < mixLo l d
  | [], _, h, _ => h
  | (g, _) :: l, _, h, hv => mixLo_pos (l := l) (mulpos h (hv _ (List.mem_cons_self ..))) fun x hx => hv x (List.mem_cons_of_mem _ hx)
theorem mix_sum {r : Nat} (hr : r < 3) : ∀ (l : List (Gm × Int)) {n d : Int}, 0 < d → (∀ x ∈ l, 0 < x.1.v) →
    (l.map fun x => times (win x.1.odds r) (whole x.2)).foldl plus (fr n d) = fr (mixUp r l n d) (mixLo l d)
  | [], _, _, _, _ => rfl
  | (g, w) :: l, n, d, hd, hv => by
    have h : 0 < g.v := hv _ (List.mem_cons_self ..)
    show (l.map fun x => times (win x.1.odds r) (whole x.2)).foldl plus (plus (fr n d) (times (win g.odds r) (whole w))) = _
    rw [win_fr hr, whole_fr, times_fr h (by decide), Int.mul_one, plus_fr hd h, mix_sum hr l (mulpos hd h) (fun x hx => hv x (List.mem_cons_of_mem _ hx))]
    rfl
/-- the mix as a game -/
def mixG (gs : List Gm) (ws : List Int) : Gm := ⟨mixLo (gs.zip ws) 1 * ws.sum, mixUp 0 (gs.zip ws) 0 1, mixUp 1 (gs.zip ws) 0 1, mixUp 2 (gs.zip ws) 0 1⟩
theorem Gm.Ok.u0 {g : Gm} (h : g.Ok) (r : Nat) : 0 < g.u r ∧ g.u r < g.v := by
  unfold Gm.u
  have := h.a0; have := h.a1; have := h.b0; have := h.b1; have := h.c0; have := h.c1
  split
  · omega
  · split <;> omega
/-- a share of what is weighed so far: nothing yet, or strictly between 0 and the weights' sum -/
def Sh (n d s : Int) : Prop := (s = 0 ∧ n = 0) ∨ (0 < s ∧ 0 < n ∧ n < d * s)
theorem Sh.step {n d s u v w : Int} (hd : 0 < d) (hu : 0 < u) (huv : u < v) (hw : 0 ≤ w) (h : Sh n d s) : Sh (n * v + u * w * d) (d * v) (s + w) := by
  have hv : 0 < v := by omega
  rcases Int.lt_or_eq_of_le hw with hw | hw
  · have q1 : 0 < u * w * d := mulpos (mulpos hu hw) hd
    have q2 : u * w * d < v * w * d := Int.mul_lt_mul_of_pos_right (Int.mul_lt_mul_of_pos_right huv hw) hd
    have e : d * v * (s + w) = d * s * v + v * w * d := by grind
    rcases h with ⟨h1, h2⟩ | ⟨h0, h1, h2⟩
    · subst h1 h2
      refine .inr ⟨by omega, by omega, ?_⟩
      rw [e]
      simp
      omega
    · have q3 : 0 < n * v := mulpos h1 hv
      have q4 : n * v < d * s * v := Int.mul_lt_mul_of_pos_right h2 hv
      exact .inr ⟨by omega, by omega, by rw [e]; omega⟩
  · subst hw
    rcases h with ⟨h1, h2⟩ | ⟨h0, h1, h2⟩
    · subst h1 h2
      exact .inl ⟨by omega, by simp⟩
    · have q3 : 0 < n * v := mulpos h1 hv
      have q4 : n * v < d * s * v := Int.mul_lt_mul_of_pos_right h2 hv
      have e : d * v * (s + 0) = d * s * v := by grind
      refine .inr ⟨by omega, by simpa using q3, ?_⟩
      rw [e]
      simpa using q4
theorem mix_sh {r : Nat} : ∀ (l : List (Gm × Int)) {n d s : Int}, 0 < d → (∀ x ∈ l, x.1.Ok ∧ 0 ≤ x.2) → Sh n d s → Sh (mixUp r l n d) (mixLo l d) (s + (l.map Prod.snd).sum)
  | [], n, d, s, _, _, h => by
    show Sh n d (s + 0)
    rw [Int.add_zero]
    exact h
  | (g, w) :: l, n, d, s, hd, hl, h => by
    obtain ⟨ok, hw⟩ := hl _ (List.mem_cons_self ..)
    obtain ⟨u0, u1⟩ := ok.u0 r
    have q := mix_sh (r := r) l (mulpos hd ok.v0) (fun x hx => hl x (List.mem_cons_of_mem _ hx)) (h.step hd u0 u1 hw)
    show Sh _ _ (s + ((w :: l.map Prod.snd).sum))
    rw [List.sum_cons, ← Int.add_assoc]
    exact q
theorem zip_snd : ∀ {gs : List Gm} {ws : List Int}, gs.length = ws.length → (gs.zip ws).map Prod.snd = ws
  | [], [], _ => rfl
  | _ :: gs, w :: ws, h => by
    exact congrArg (List.cons w) (zip_snd (gs := gs) (ws := ws) (by simpa using h))
theorem mem_zip {gs : List Gm} {ws : List Int} {x : Gm × Int} (h : x ∈ gs.zip ws) : x.1 ∈ gs ∧ x.2 ∈ ws := ⟨(List.of_mem_zip h).1, (List.of_mem_zip h).2⟩
theorem mixG_ok {gs : List Gm} {ws : List Int} (hg : ∀ g ∈ gs, g.Ok) (hw : ∀ z ∈ ws, 0 ≤ z) (hl : gs.length = ws.length) (hs : 0 < ws.sum) : (mixG gs ws).Ok := by
  have q : ∀ r, Sh (mixUp r (gs.zip ws) 0 1) (mixLo (gs.zip ws) 1) (0 + ((gs.zip ws).map Prod.snd).sum) := fun r =>
    mix_sh _ (by decide) (fun x hx => ⟨hg _ (mem_zip hx).1, hw _ (mem_zip hx).2⟩) (.inl ⟨rfl, rfl⟩)
  rw [zip_snd hl, Int.zero_add] at q
  have f : ∀ r, 0 < mixUp r (gs.zip ws) 0 1 ∧ mixUp r (gs.zip ws) 0 1 < mixLo (gs.zip ws) 1 * ws.sum := fun r => by
    rcases q r with ⟨h, _⟩ | ⟨_, h1, h2⟩
    · omega
    · exact ⟨h1, h2⟩
  exact ⟨(f 0).1, (f 0).2, (f 1).1, (f 1).2, (f 2).1, (f 2).2⟩
theorem sum_nat : ∀ (ws : List Int) (a : Nat), (∀ z ∈ ws, 0 ≤ z) → (((ws.map Int.toNat).foldl (fun (a b : Nat) => a + b) a : Nat) : Int) = (a : Int) + ws.sum
  | [], a, _ => by simp
  | w :: ws, a, h => by
    have h0 := h w (List.mem_cons_self ..)
    show (((ws.map Int.toNat).foldl (fun (a b : Nat) => a + b) (a + w.toNat) : Nat) : Int) = _
    rw [sum_nat ws _ (fun z hz => h z (List.mem_cons_of_mem _ hz)), List.sum_cons]
    omega
theorem zip_is {r : Nat} : ∀ {gs : List Gm} {ws : List Int}, (∀ g ∈ gs, g.Ok) → (∀ z ∈ ws, 0 ≤ z) →
    ((gs.map Gm.game).zip (ws.map Int.toNat)).map (fun x => times (win (Uw92.odds x.1) r) (whole (x.2 : Int))) = (gs.zip ws).map fun x => times (win x.1.odds r) (whole x.2)
  | [], _, _, _ => by simp
  | _ :: _, [], _, _ => by simp
  | g :: gs, w :: ws, hg, hw => by
    have h0 := hw w (List.mem_cons_self ..)
    have ih := zip_is (r := r) (gs := gs) (ws := ws) (fun x hx => hg x (List.mem_cons_of_mem _ hx)) (fun x hx => hw x (List.mem_cons_of_mem _ hx))
    have e : times (win (Uw92.odds g.game) r) (whole ((w.toNat : Nat) : Int)) = times (win g.odds r) (whole w) := by
      rw [odds_game (hg g (List.mem_cons_self ..)), Int.toNat_of_nonneg h0]
    exact congr (congrArg List.cons e) ih
theorem mixed_is {gs : List Gm} {ws : List Int} (hg : ∀ g ∈ gs, g.Ok) (hw : ∀ z ∈ ws, 0 ≤ z) (hs : 0 < ws.sum) : mixed (gs.map Gm.game) (ws.map Int.toNat) = (mixG gs ws).odds := by
  have hv : ∀ x ∈ gs.zip ws, 0 < x.1.v := fun x hx => (hg _ (mem_zip hx).1).v0
  have p := mixLo_pos (l := gs.zip ws) (d := 1) (by decide) hv
  have e : ∀ r, r < 3 → over (Uw92.sum (((gs.map Gm.game).zip (ws.map Int.toNat)).map fun x => times (win (Uw92.odds x.1) r) (whole (x.2 : Int)))) (whole (((ws.map Int.toNat).foldl (fun (a b : Nat) => a + b) 0 : Nat) : Int)) = fr (mixUp r (gs.zip ws) 0 1) (mixLo (gs.zip ws) 1 * ws.sum) := fun r hr => by
    unfold Uw92.sum
    rw [zip_is hg hw, sum_nat ws 0 hw, whole_fr 0, mix_sum hr _ (by decide) hv, whole_fr, over_fr p (by decide) (by simpa using hs)]
    simp
  show [over _ _, over _ _, over _ _] = [fr _ _, fr _ _, fr _ _]
  rw [e 0 (by decide), e 1 (by decide), e 2 (by decide)]
  rfl
end Lg
end

section
namespace Lg
open Uw92
theorem vprod_leB {B : Int} (hB : 0 < B) {row : List Gm} (h : ∀ g ∈ row, 0 < g.v ∧ g.v ≤ B) : vprod row ≤ B ^ row.length := by
  induction row with
  | nil => simp [vprod]
  | cons g r ih =>
    have i := ih fun x hx => h x (List.mem_cons_of_mem _ hx)
    obtain ⟨h0, h1⟩ := h g (List.mem_cons_self ..)
    have p := vprod_pos (row := r) fun x hx => (h x (List.mem_cons_of_mem _ hx)).1
    show g.v * vprod r ≤ B ^ (r.length + 1)
    rw [Int.pow_succ, Int.mul_comm (B ^ r.length) B]
    exact Int.mul_le_mul h1 i (by omega) (by omega)
/-- a share between 0 and a lid -/
structure S3.In (s : S3) (M : Int) : Prop where
  x : 0 ≤ s.x ∧ s.x ≤ M
  y : 0 ≤ s.y ∧ s.y ≤ M
  z : 0 ≤ s.z ∧ s.z ≤ M
theorem mv_in {row : List Gm} {i : Nat} (h : ∀ g ∈ row, g.Ok) (hne : row ≠ []) (hi : i < 3) : (mv row i).In (vprod row) := by
  have b := mv_but h hne hi
  obtain ⟨l1, l2, l3⟩ := b.le
  rw [mv_sum] at l1 l2 l3
  exact ⟨⟨b.x, l1⟩, ⟨b.y, l2⟩, ⟨b.z, l3⟩⟩
theorem S3.In.at {s : S3} {M : Int} (h : s.In M) (i : Nat) : 0 ≤ s.at i ∧ s.at i ≤ M := by
  unfold S3.at
  split
  · exact h.x
  · split
    · exact h.y
    · exact h.z
theorem mul_in {a b M : Int} (ha : 0 ≤ a ∧ a ≤ M) (hb : 0 ≤ b ∧ b ≤ M) : a * b ≤ M * M := Int.mul_le_mul ha.2 hb.2 hb.1 (by omega)
theorem wt_le {row : List Gm} {i : Nat} (h : ∀ g ∈ row, g.Ok) (hne : row ≠ []) : wt row i ≤ 3 * (vprod row * vprod row) := by
  have f := fun (j k : Nat) => (mv_in h hne (Nat.mod_lt j (by decide : 0 < 3))).at k
  have p1 := mul_in (f (i + 1) i) (f (i + 2) i)
  have p2 := mul_in (f (i + 1) ((i + 2) % 3)) (f (i + 2) i)
  have p3 := mul_in (f (i + 2) ((i + 1) % 3)) (f (i + 1) i)
  unfold wt
  simp only
  omega
theorem lasting_sum_le {row : List Gm} (h : ∀ g ∈ row, g.Ok) (hne : row ≠ []) : (lasting row).sum ≤ 9 * (vprod row * vprod row) := by
  have a := wt_le (i := 0) h hne
  have b := wt_le (i := 1) h hne
  have c := wt_le (i := 2) h hne
  show wt row 0 + wt row 1 + wt row 2 ≤ _
  omega
theorem cube_le {a M : Int} (h0 : 0 ≤ a) (h : a ≤ M) : a * a * a ≤ M * M * M :=
  Int.mul_le_mul (Int.mul_le_mul h h h0 (by omega)) h h0 (Int.mul_nonneg (by omega) (by omega))
theorem gainLo_le {row : List Gm} (h : ∀ g ∈ row, g.Ok) (hne : row ≠ []) {M : Int} (hM : vprod row ≤ M) (hl : row.length ≤ 6) : gainLo row ≤ 54 * (M * M * M) := by
  have hv : ∀ g ∈ row, 0 < g.v := fun g hg => (h g hg).v0
  have p := vprod_pos hv
  have a := lasting_sum_le h hne
  have a0 := lasting_sum h hne
  have e1 : (lasting row).sum * vprod row ≤ 9 * (vprod row * vprod row) * vprod row := Int.mul_le_mul_of_nonneg_right a (by omega)
  have c := cube_le (by omega) hM
  have e2 : 9 * (vprod row * vprod row) * vprod row = 9 * (vprod row * vprod row * vprod row) := by grind
  have q : (lasting row).sum * vprod row ≤ 9 * (M * M * M) := by omega
  have q0 : 0 < (lasting row).sum * vprod row := mulpos a0 p
  unfold gainLo
  rw [sum_behindAll]
  have e3 : (lasting row).sum * vprod row * (row.length : Int) ≤ 9 * (M * M * M) * 6 := Int.mul_le_mul q (by omega) (by omega) (by omega)
  omega
/-- games of the table, of a mix: all numbers are small -/
structure Gm.Fit (g : Gm) : Prop where
  ok : g.Ok
  v : g.v ≤ 2 ^ 60
theorem gainLo_lt {row : List Gm} (h : ∀ g ∈ row, g.Fit) (hne : row ≠ []) (hl : row.length ≤ 6) : gainLo row < 2 ^ 1200 := by
  have hM : vprod row ≤ 2 ^ 360 := by
    refine Int.le_trans (vprod_leB (B := 2 ^ 60) (by decide) fun g hg => ⟨(h g hg).ok.v0, (h g hg).v⟩) ?_
    rw [← Int.pow_mul]
    have : (2 : Nat) ^ (60 * row.length) ≤ 2 ^ 360 := Nat.pow_le_pow_right (by decide) (by omega)
    exact_mod_cast this
  have q := gainLo_le (fun g hg => (h g hg).ok) hne hM hl
  refine Int.lt_of_le_of_lt q ?_
  decide +kernel
end Lg
end

section
namespace Lg
open Uw92
/-- the specification's table in whole numbers -/
structure StOk (s : Uw92.St) (gs : List Gm) (had : Int) : Prop where
  games : s.games = gs.map Gm.game
  has : s.has = had
  ok : ∀ g ∈ gs, g.Ok ∧ g.v ≤ 100
  few : gs.length ≤ 4
theorem StOk.fit {s : Uw92.St} {gs : List Gm} {had : Int} (h : StOk s gs had) : ∀ g ∈ gs, g.Fit := fun g hg => ⟨(h.ok g hg).1, by
  have := (h.ok g hg).2
  have e : (2 : Int) ^ 60 = 1152921504606846976 := by decide
  omega⟩
theorem stOk_init : StOk Uw92.init [] 0 := ⟨rfl, rfl, (fun g hg => absurd hg (by simp)), Nat.zero_le _⟩
/-- a call as the program takes it apart: its number, its whole numbers, its row -/
inductive OkC : Int → List Int → List Int → Prop
  | game {v a b c : Int} (h : NatL [v, a, b, c]) : OkC 0 [v, a, b, c] []
  | drop : OkC 1 [] []
  | have_ {x : Int} (h : NatL [x]) : OkC 2 [x] []
  | play {i x : Int} (h : NatL [i, x]) : OkC 3 [i, x] []
  | shows : OkC 4 [] []
  | gain {r : List Int} (h : NatL r) (h9 : r.length ≤ 9) : OkC 5 [] r
  | rests {r : List Int} (h : NatL r) (h9 : r.length ≤ 9) : OkC 6 [] r
  | mix {r : List Int} (h : NatL r) (h9 : r.length ≤ 9) : OkC 7 [] r
  | best {n : Int} (h : NatL [n]) : OkC 8 [n] []
  | after {d : Int} {r : List Int} (h : NatL (d :: r)) (h9 : r.length ≤ 9) : OkC 9 [d] r
  | chance {d x : Int} {r : List Int} (h : NatL (d :: x :: r)) (h9 : r.length ≤ 9) : OkC 10 [d, x] r
  | loses {r : List Int} (h : NatL r) (h9 : r.length ≤ 9) : OkC 11 [] r
theorem natL_cons {p : Int} {l : List Int} (h0 : 0 ≤ p) (h1 : p < 4294967296) (h : NatL l) : NatL (p :: l) := by
  intro z hz
  rcases List.mem_cons.mp hz with rfl | hz
  · exact ⟨h0, h1⟩
  · exact h z hz
theorem natL_tail {p : Int} {l : List Int} (h : NatL (p :: l)) : NatL l := fun z hz => h z (List.mem_cons_of_mem _ hz)
/-- each call that is read is of one of the twelve forms -/
theorem len4 {l : List Int} (h : l.length = 4) : ∃ a b c d, l = [a, b, c, d] := by
  match l, h with
  | [a, b, c, d], _ => exact ⟨a, b, c, d, rfl⟩
theorem len2 {l : List Int} (h : l.length = 2) : ∃ a b, l = [a, b] := by
  match l, h with
  | [a, b], _ => exact ⟨a, b, rfl⟩
theorem len1 {l : List Int} (h : l.length = 1) : ∃ a, l = [a] := by
  match l, h with
  | [a], _ => exact ⟨a, rfl⟩
theorem len0 {l : List Int} (h : l.length = 0) : l = [] := List.eq_nil_of_length_eq_zero h
theorem ok_plain {p : Int} {ns : List Int} (hs : PyUw92.shape p = some (ns.length, 0)) (ha : Uw92Neutral.asked1 ((PyUw92.whole [p :: ns]).headD []) = true) : OkC p ns [] := by
  rcases shape_cases hs with h | h | h | h | h | h | h | h | h | h | h | h <;> obtain ⟨rfl, h1, h2⟩ := h <;> try omega
  · obtain ⟨a, b, c, d, rfl⟩ := len4 h1
    exact .game (natL_tail (natL_of ha))
  · obtain rfl := len0 h1
    exact .drop
  · obtain ⟨a, rfl⟩ := len1 h1
    exact .have_ (natL_tail (natL_of ha))
  · obtain ⟨a, b, rfl⟩ := len2 h1
    exact .play (natL_tail (natL_of ha))
  · obtain rfl := len0 h1
    exact .shows
  · obtain ⟨a, rfl⟩ := len1 h1
    exact .best (natL_tail (natL_of ha))
theorem ok_row {p : Int} {ns r : List Int} (hs : PyUw92.shape p = some (ns.length, 1)) (ha : Uw92Neutral.asked1 ((PyUw92.whole [p :: ns, r]).headD []) = true) (h9 : r.length ≤ 9) : OkC p ns r := by
  rcases shape_cases hs with h | h | h | h | h | h | h | h | h | h | h | h <;> obtain ⟨rfl, h1, h2⟩ := h <;> try omega
  · obtain rfl := len0 h1
    exact .gain (natL_tail (natL_of ha)) h9
  · obtain rfl := len0 h1
    exact .rests (natL_tail (natL_of ha)) h9
  · obtain rfl := len0 h1
    exact .mix (natL_tail (natL_of ha)) h9
  · obtain ⟨a, rfl⟩ := len1 h1
    exact .after (natL_tail (natL_of ha)) h9
  · obtain ⟨a, b, rfl⟩ := len2 h1
    exact .chance (natL_tail (natL_of ha)) h9
  · obtain rfl := len0 h1
    exact .loses (natL_tail (natL_of ha)) h9
/-! what each call answers, in whole numbers -/
def canBe (v a b c : Int) : Bool := decide (2 ≤ v ∧ v ≤ 100 ∧ (1 ≤ a ∧ a ≤ v - 1) ∧ (1 ≤ b ∧ b ≤ v - 1) ∧ (1 ≤ c ∧ c ≤ v - 1))
section
variable {s : Uw92.St} {gs : List Gm} {had : Int}
theorem mi_len (ok : StOk s gs had) : s.games.length = gs.length := by rw [ok.games, List.length_map]
theorem mi_game (ok : StOk s gs had) {v a b c : Int} (h : NatL [v, a, b, c]) :
    stepOf s [[0, v, a, b, c]] = if canBe v a b c = false then (s, [-1]) else if gs.length = 4 then (s, [-5]) else ({ s with games := s.games ++ [Gm.game ⟨v, a, b, c⟩] }, [(gs.length : Int)]) := by
  rw [step0 (natL_cons (by decide) (by decide) h)]
  have hv := h v (by simp)
  have ha := h a (by simp)
  have hb := h b (by simp)
  have hc := h c (by simp)
  have few := ok.few
  unfold Uw92.step
  simp only [mi_len ok]
  have any_is : (v.toNat < 2 ∨ 100 < v.toNat ∨ [a.toNat, b.toNat, c.toNat].any (fun u => decide (u < 1) || decide (v.toNat ≤ u)) = true) ↔ canBe v a b c = false := by
    unfold canBe
    simp only [List.any_cons, List.any_nil, Bool.or_eq_true, decide_eq_true_eq, Bool.false_eq_true, decide_eq_false_iff_not, or_false]
    omega
  by_cases hk : canBe v a b c = false
  · rw [if_pos (any_is.mpr hk), if_pos hk]
  · rw [if_neg (fun z => hk (any_is.mp z)), if_neg hk]
    by_cases h4 : gs.length = 4
    · rw [if_pos (show 4 ≤ gs.length by omega), if_pos h4]
    · rw [if_neg (show ¬ 4 ≤ gs.length by omega), if_neg h4]
      rfl
theorem mi_game_ok (ok : StOk s gs had) {v a b c : Int} (h : canBe v a b c = true) (h4 : gs.length ≠ 4) : StOk { s with games := s.games ++ [Gm.game ⟨v, a, b, c⟩] } (gs ++ [⟨v, a, b, c⟩]) had := by
  unfold canBe at h
  obtain ⟨q1, q2, q3, q4, q5⟩ := of_decide_eq_true h
  have few := ok.few
  refine ⟨by rw [List.map_append, ok.games]; rfl, ok.has, fun g hg => ?_, by rw [List.length_append, List.length_singleton]; omega⟩
  rcases List.mem_append.mp hg with hg | hg
  · exact ok.ok g hg
  · simp at hg
    subst hg
    exact ⟨⟨by show 0 < a; omega, by show a < v; omega, by show 0 < b; omega, by show b < v; omega, by show 0 < c; omega, by show c < v; omega⟩, q2⟩
theorem mi_drop (ok : StOk s gs had) : stepOf s [[1]] = if gs = [] then (s, [-9]) else ({ s with games := s.games.dropLast }, [(gs.length : Int) - 1]) := by
  rw [step1]
  unfold Uw92.step
  by_cases h : gs = []
  · have e : s.games = [] := by rw [ok.games, h]; rfl
    rw [if_pos h, if_pos (by rw [e]; rfl)]
  · have hp := List.length_pos_iff.mpr h
    rw [if_neg h, if_neg (by rw [ok.games]; simpa using h), mi_len ok]
    have e : ((gs.length - 1 : Nat) : Int) = (gs.length : Int) - 1 := by omega
    rw [e]
theorem mi_drop_ok (ok : StOk s gs had) : StOk { s with games := s.games.dropLast } gs.dropLast had :=
  ⟨by rw [ok.games, List.map_dropLast], ok.has, fun g hg => ok.ok g ((List.dropLast_sublist gs).subset hg), by rw [List.length_dropLast]; have := ok.few; omega⟩
theorem mi_had_ok (ok : StOk s gs had) (z : Int) : StOk { s with has := z } gs z := ⟨ok.games, rfl, ok.ok, ok.few⟩
theorem mi_have {x : Int} (h : NatL [x]) : stepOf s [[2, x]] = if 1000000 < x then (s, [-1]) else ({ s with has := x }, [0]) := by
  rw [step2 (natL_cons (by decide) (by decide) h)]
  have hx := h x (by simp)
  simp only [Uw92.step]
  by_cases c : 1000000 < x
  · rw [if_pos (show 1000000 < x.toNat by omega), if_pos c]
  · rw [if_neg (show ¬ 1000000 < x.toNat by omega), if_neg c, Int.toNat_of_nonneg hx.1]
theorem mi_play (ok : StOk s gs had) {i x : Int} (h : NatL [i, x]) :
    stepOf s [[3, i, x]] = if (gs.length : Int) ≤ i then (s, [-2]) else if 1 < x then (s, [-1]) else if x = 1 then ({ s with has := had + 1 }, [0, had + 1]) else ({ s with has := had - 1 }, [0, had - 1]) := by
  rw [step3 (natL_cons (by decide) (by decide) h)]
  have hi := h i (by simp)
  have hx := h x (by simp)
  unfold Uw92.step
  simp only [mi_len ok, ok.has]
  by_cases c : (gs.length : Int) ≤ i
  · rw [if_pos (show gs.length ≤ i.toNat by omega), if_pos c]
  · rw [if_neg (show ¬ gs.length ≤ i.toNat by omega), if_neg c]
    by_cases c2 : 1 < x
    · rw [if_pos (show 1 < x.toNat by omega), if_pos c2]
    · rw [if_neg (show ¬ 1 < x.toNat by omega), if_neg c2]
      by_cases c3 : x = 1
      · rw [if_pos (show x.toNat = 1 by omega), if_pos c3]
      · rw [if_neg (show ¬ x.toNat = 1 by omega), if_neg c3]
def flat (gs : List Gm) : List Int := gs.flatMap fun g => [g.v, g.a, g.b, g.c]
theorem flat_game : ∀ {gs : List Gm}, (∀ g ∈ gs, g.Ok) → Uw92.ints ((gs.map Gm.game).flatMap fun g => g.v :: g.wins) = flat gs
  | [], _ => rfl
  | g :: gs, h => by
    have ih := flat_game (gs := gs) fun x hx => h x (List.mem_cons_of_mem _ hx)
    have ok := h g (List.mem_cons_self ..)
    have a0 := ok.a0; have b0 := ok.b0; have c0 := ok.c0; have v0 := ok.v0
    have e : Uw92.ints ((g.game :: gs.map Gm.game).flatMap fun g => g.v :: g.wins) = ((g.v.toNat : Nat) : Int) :: ((g.a.toNat : Nat) : Int) :: ((g.b.toNat : Nat) : Int) :: ((g.c.toNat : Nat) : Int) :: Uw92.ints ((gs.map Gm.game).flatMap fun g => g.v :: g.wins) := rfl
    rw [List.map_cons, e, ih, Int.toNat_of_nonneg (by omega), Int.toNat_of_nonneg (by omega), Int.toNat_of_nonneg (by omega), Int.toNat_of_nonneg (by omega)]
    rfl
theorem mi_shows (ok : StOk s gs had) : stepOf s [[4]] = (s, (gs.length : Int) :: had :: flat gs) := by
  rw [step4]
  unfold Uw92.step
  simp only [mi_len ok, ok.has]
  rw [ok.games, flat_game fun g hg => (ok.ok g hg).1]
def isRowB (gs : List Gm) (r : List Int) : Bool := decide (1 ≤ r.length ∧ r.length ≤ 6) && r.all fun i => decide (i < (gs.length : Int))
theorem isRowB_is {gs : List Gm} {r : List Int} (h0 : ∀ z ∈ r, 0 ≤ z) : isRowB gs r = true ↔ IsRow gs r := by
  unfold isRowB
  simp only [Bool.and_eq_true, decide_eq_true_eq, List.all_eq_true]
  constructor
  · rintro ⟨⟨h1, h2⟩, h3⟩
    exact ⟨h1, h2, fun i hi => ⟨h0 i hi, h3 i hi⟩⟩
  · rintro ⟨h1, h2, h3⟩
    exact ⟨⟨h1, h2⟩, fun i hi => (h3 i hi).2⟩
/-- what a call of a row answers -/
theorem onRow_is (ok : StOk s gs had) {r : List Int} (h : NatL r) (f : List Odds → List Int) :
    onRow s (r.map Int.toNat) f = (s, if isRowB gs r = false then [-2] else f ((rowOf gs r).map Gm.odds)) := by
  have h0 : ∀ z ∈ r, 0 ≤ z := fun z hz => (h z hz).1
  unfold onRow
  have e : isRow s (r.map Int.toNat) = isRowB gs r := by
    rw [Bool.eq_iff_iff, isRow_is ok.games h0, isRowB_is h0]
  rw [e, ok.games, oddsOf_is fun g hg => (ok.ok g hg).1]
/-- a fraction told -/
def twoI (n d : Int) : List Int := [n / gcdI n d, d / gcdI n d]
theorem mi_gain (ok : StOk s gs had) {r : List Int} (h : NatL r) :
    stepOf s [[5], r] = (s, if isRowB gs r = false then [-2] else 0 :: twoI (gainUp (rowOf gs r)) (gainLo (rowOf gs r)) ++ [signI (gainUp (rowOf gs r))]) := by
  rw [step5 (natL_cons (by decide) (by decide) h)]
  simp only [Uw92.step]
  rw [onRow_is ok h]
  by_cases c : isRowB gs r = false
  · rw [if_pos c, if_pos c]
  · rw [if_neg c, if_neg c]
    have ir : IsRow gs r := (isRowB_is fun z hz => (h z hz).1).mp (by simpa using c)
    have hok : ∀ g ∈ rowOf gs r, g.Ok := fun g hg => (ok.ok g (rowOf_mem hg)).1
    have hp := gainLo_pos hok (rowOf_ne ir)
    simp only [gain_fr hok (rowOf_ne ir), two_fr hp, sign_fr hp]
    rfl
theorem mi_rests (ok : StOk s gs had) {r : List Int} (h : NatL r) :
    stepOf s [[6], r] = (s, if isRowB gs r = false then [-2] else 0 :: (twoI (lasting (rowOf gs r)).x (lasting (rowOf gs r)).sum ++ (twoI (lasting (rowOf gs r)).y (lasting (rowOf gs r)).sum ++ twoI (lasting (rowOf gs r)).z (lasting (rowOf gs r)).sum))) := by
  rw [step6 (natL_cons (by decide) (by decide) h)]
  simp only [Uw92.step]
  rw [onRow_is ok h]
  by_cases c : isRowB gs r = false
  · rw [if_pos c, if_pos c]
  · rw [if_neg c, if_neg c]
    have ir : IsRow gs r := (isRowB_is fun z hz => (h z hz).1).mp (by simpa using c)
    have hok : ∀ g ∈ rowOf gs r, g.Ok := fun g hg => (ok.ok g (rowOf_mem hg)).1
    have hp := lasting_sum hok (rowOf_ne ir)
    rw [long_fr hok (rowOf_ne ir)]
    unfold of3
    simp only [List.flatMap_cons, List.flatMap_nil, two_fr hp, List.append_nil]
    rfl
theorem mi_after (ok : StOk s gs had) {d : Int} {r : List Int} (h : NatL (d :: r)) :
    stepOf s [[9, d], r] = (s, if isRowB gs r = false then [-2] else if 30 < d then [-1] else 0 :: twoI (winAll (playedG (rowOf gs r) d.toNat) had (unit (restOf had))) (vprod (playedG (rowOf gs r) d.toNat))) := by
  rw [step9 (natL_cons (by decide) (by decide) h)]
  have hd := h d (by simp)
  have hr := natL_tail h
  simp only [Uw92.step]
  rw [onRow_is ok hr]
  by_cases c : isRowB gs r = false
  · rw [if_pos c, if_pos c]
  · rw [if_neg c, if_neg c]
    have hv : ∀ g ∈ rowOf gs r, 0 < g.v := fun g hg => (ok.ok g (rowOf_mem hg)).1.v0
    by_cases c2 : 30 < d
    · rw [if_pos (show 30 < d.toNat by omega), if_pos c2]
    · rw [if_neg (show ¬ 30 < d.toNat by omega), if_neg c2, ok.has, after_fr hv, two_fr (vprod_pos fun g hg => hv g (playedG_mem hg))]
      rfl
theorem mi_chance (ok : StOk s gs had) {d x : Int} {r : List Int} (h : NatL (d :: x :: r)) :
    stepOf s [[10, d, x], r] = (s, if isRowB gs r = false then [-2] else if 30 < d then [-1] else if d < x then [0, 0, 1] else 0 :: twoI (distAll had (playedG (rowOf gs r) d.toNat) dist0 x) (vprod (playedG (rowOf gs r) d.toNat))) := by
  rw [step10 (natL_cons (by decide) (by decide) h)]
  have hd := h d (by simp)
  have hx := h x (by simp)
  have hr := natL_tail (natL_tail h)
  simp only [Uw92.step]
  rw [onRow_is ok hr]
  by_cases c : isRowB gs r = false
  · rw [if_pos c, if_pos c]
  · rw [if_neg c, if_neg c]
    have ir : IsRow gs r := (isRowB_is fun z hz => (hr z hz).1).mp (by simpa using c)
    have hv : ∀ g ∈ rowOf gs r, 0 < g.v := fun g hg => (ok.ok g (rowOf_mem hg)).1.v0
    by_cases c2 : 30 < d
    · rw [if_pos (show 30 < d.toNat by omega), if_pos c2]
    · rw [if_neg (show ¬ 30 < d.toNat by omega), if_neg c2]
      by_cases c3 : d < x
      · rw [if_pos (show d.toNat < x.toNat by omega), if_pos c3]
        rfl
      · rw [if_neg (show ¬ d.toNat < x.toNat by omega), if_neg c3, ok.has, chance_fr (rowOf_ne ir) hv _ (by omega), two_fr (vprod_pos fun g hg => hv g (playedG_mem hg)), Int.toNat_of_nonneg hx.1]
        rfl
end
end Lg
end

section
namespace Lg
open Uw92
section
variable {s : Uw92.St} {gs : List Gm} {had : Int}
theorem gain1_fr {g : Gm} (h : g.Ok) : Uw92.gain [g.odds] = fr (gainUp [g]) (gainLo [g]) := gain_fr (row := [g]) (by intro x hx; simp at hx; subst hx; exact h) (by simp)
theorem gainLo1_pos {g : Gm} (h : g.Ok) : 0 < gainLo [g] := gainLo_pos (by intro x hx; simp at hx; subst hx; exact h) (by simp)
/-- whether a row of losing games wins -/
def losesB (row : List Gm) : Bool := (row.all fun g => decide (gainUp [g] < 0)) && decide (0 < gainUp row)
theorem mi_loses (ok : StOk s gs had) {r : List Int} (h : NatL r) : stepOf s [[11], r] = (s, if isRowB gs r = false then [-2] else [if losesB (rowOf gs r) = true then 1 else 0]) := by
  rw [step11 (natL_cons (by decide) (by decide) h)]
  simp only [Uw92.step]
  rw [onRow_is ok h]
  by_cases c : isRowB gs r = false
  · rw [if_pos c, if_pos c]
  · rw [if_neg c, if_neg c]
    have ir : IsRow gs r := (isRowB_is fun z hz => (h z hz).1).mp (by simpa using c)
    have hok : ∀ g ∈ rowOf gs r, g.Ok := fun g hg => (ok.ok g (rowOf_mem hg)).1
    have hp := gainLo_pos hok (rowOf_ne ir)
    have e1 : ((rowOf gs r).map Gm.odds).all (fun o => less (Uw92.gain [o]) (whole 0)) = (rowOf gs r).all fun g => decide (gainUp [g] < 0) := by
      rw [List.all_map, Bool.eq_iff_iff, List.all_eq_true, List.all_eq_true]
      refine forall_congr' fun g => imp_congr_right fun hg => ?_
      simp only [Function.comp_apply]
      rw [gain1_fr (hok g hg), whole_fr, less_fr (gainLo1_pos (hok g hg)) (by decide)]
      simp
    have e2 : less (whole 0) (Uw92.gain ((rowOf gs r).map Gm.odds)) = decide (0 < gainUp (rowOf gs r)) := by
      rw [gain_fr hok (rowOf_ne ir), whole_fr, less_fr (by decide) hp]
      simp
    simp only [e1, e2, losesB, Bool.and_eq_true]
/-- weights that are refused -/
def mixBad (gs : List Gm) (ws : List Int) : Bool := decide (ws.length ≠ gs.length) || (ws.any fun x => decide (9 < x)) || ws.all fun x => decide (x = 0)
theorem sum_pos_of {ws : List Int} (h0 : ∀ z ∈ ws, 0 ≤ z) (h : ¬ ∀ z ∈ ws, z = 0) : 0 < ws.sum := by
  induction ws with
  | nil => exact absurd (by simp) h
  | cons w ws ih =>
    have hw := h0 w (List.mem_cons_self ..)
    have hn : ∀ z ∈ ws, 0 ≤ z := fun z hz => h0 z (List.mem_cons_of_mem _ hz)
    have hs : 0 ≤ ws.sum := by
      clear ih h h0 hw
      induction ws with
      | nil => simp
      | cons x xs ih2 =>
        rw [List.sum_cons]
        have := hn x (List.mem_cons_self ..)
        have := ih2 fun z hz => hn z (List.mem_cons_of_mem _ hz)
        omega
    rw [List.sum_cons]
    by_cases c : w = 0
    · have := ih hn (fun z => h fun y hy => by
        rcases List.mem_cons.mp hy with rfl | hy
        · exact c
        · exact z y hy)
      omega
    · omega
theorem mixBad_not {ws : List Int} (h : NatL ws) (c : mixBad gs ws = false) : ws.length = gs.length ∧ (∀ z ∈ ws, z ≤ 9) ∧ 0 < ws.sum := by
  unfold mixBad at c
  simp only [Bool.or_eq_false_iff, decide_eq_false_iff_not, List.any_eq_false, List.all_eq_false, decide_eq_true_eq] at c
  obtain ⟨⟨c1, c2⟩, z, hz, c3⟩ := c
  refine ⟨by simpa using c1, fun z hz => by have := c2 z hz; omega, sum_pos_of (fun z hz => (h z hz).1) fun q => c3 (q z hz)⟩
theorem mi_mix (ok : StOk s gs had) {ws : List Int} (h : NatL ws) :
    stepOf s [[7], ws] = (s, if mixBad gs ws = true then [-2] else 0 :: twoI (gainUp [mixG gs ws]) (gainLo [mixG gs ws]) ++ [signI (gainUp [mixG gs ws])]) := by
  rw [step7 (natL_cons (by decide) (by decide) h)]
  have h0 : ∀ z ∈ ws, 0 ≤ z := fun z hz => (h z hz).1
  simp only [Uw92.step]
  have e : ((ws.map Int.toNat).length ≠ s.games.length ∨ (ws.map Int.toNat).any (fun x => decide (9 < x)) = true ∨ (ws.map Int.toNat).all (fun x => x == 0) = true) ↔ mixBad gs ws = true := by
    unfold mixBad
    rw [mi_len ok, List.length_map]
    simp only [Bool.or_eq_true, decide_eq_true_eq, List.any_eq_true, List.all_eq_true, List.mem_map, beq_iff_eq, forall_exists_index, and_imp, forall_apply_eq_imp_iff₂, or_assoc]
    refine or_congr Iff.rfl (or_congr ⟨?_, ?_⟩ ⟨?_, ?_⟩)
    · rintro ⟨x, ⟨z, hz, rfl⟩, hx⟩
      exact ⟨z, hz, by omega⟩
    · rintro ⟨z, hz, hx⟩
      exact ⟨z.toNat, ⟨z, hz, rfl⟩, by omega⟩
    · intro q z hz
      have := q z hz
      have := h0 z hz
      omega
    · intro q z hz
      rw [q z hz]
      rfl
  by_cases c : mixBad gs ws = true
  · rw [if_pos (e.mpr c), if_pos c]
  · rw [if_neg (fun z => c (e.mp z)), if_neg c]
    obtain ⟨c1, c2, c3⟩ := mixBad_not h (by simpa using c)
    have hok : ∀ g ∈ gs, g.Ok := fun g hg => (ok.ok g hg).1
    have hm := mixG_ok hok h0 c1.symm c3
    have hp := gainLo1_pos hm
    simp only [ok.games, mixed_is hok h0 c3, gain1_fr hm, two_fr hp, sign_fr hp]
    rfl
/-! best -/
def rowN (gs : List Gm) (r : List Nat) : List Gm := r.filterMap fun i => gs[i]?
theorem rowN_is (gs : List Gm) (r : List Nat) : rowN gs r = rowOf gs (r.map fun (i : Nat) => (i : Int)) := by
  unfold rowN rowOf
  rw [List.filterMap_map]
  rfl
theorem oddsN_is {gs : List Gm} (h : ∀ g ∈ gs, g.Ok) (r : List Nat) : oddsOf (gs.map Gm.game) r = (rowN gs r).map Gm.odds := by
  rw [rowN_is, ← oddsOf_is h]
  congr 1
  rw [List.map_map]
  conv => lhs; rw [← List.map_id r]
  refine List.map_congr_left fun i _ => ?_
  simp
/-- the better of what was found and a row -/
def better (gs : List Gm) (m : Option (List Nat × Int × Int)) (r : List Nat) : Option (List Nat × Int × Int) :=
  match m with
  | none => some (r, gainUp (rowN gs r), gainLo (rowN gs r))
  | some x => if x.2.1 * gainLo (rowN gs r) < gainUp (rowN gs r) * x.2.2 then some (r, gainUp (rowN gs r), gainLo (rowN gs r)) else some x
def bestI (gs : List Gm) (n : Nat) : Option (List Nat × Int × Int) := (rowsOf gs.length n).foldl (better gs) none
theorem rowsOf_mem {n : Nat} : ∀ {k : Nat} {r : List Nat}, r ∈ rowsOf n k → r.length = k ∧ ∀ i ∈ r, i < n
  | 0, r, h => by
    simp [rowsOf] at h
    subst h
    simp
  | k + 1, r, h => by
    simp only [rowsOf, List.mem_flatMap, List.mem_map, List.mem_range] at h
    obtain ⟨i, hi, l, hl, rfl⟩ := h
    obtain ⟨h1, h2⟩ := rowsOf_mem hl
    exact ⟨by simp [h1], fun j hj => by
      rcases List.mem_cons.mp hj with rfl | hj
      · exact hi
      · exact h2 j hj⟩
theorem rowN_ne {gs : List Gm} {k : Nat} {r : List Nat} (hk : 1 ≤ k) (h : r ∈ rowsOf gs.length k) : rowN gs r ≠ [] := by
  obtain ⟨h1, h2⟩ := rowsOf_mem h
  rw [rowN_is]
  intro e
  have := rowOf_length (gs := gs) (r := r.map fun (i : Nat) => (i : Int)) (by
    intro z hz
    obtain ⟨i, hi, rfl⟩ := List.mem_map.mp hz
    have := h2 i hi
    omega)
  rw [e, List.length_map, h1] at this
  simp at this
  omega
def asFr (x : List Nat × Int × Int) : List Nat × Frac := (x.1, fr x.2.1 x.2.2)
theorem best_fold {gs : List Gm} (hok : ∀ g ∈ gs, g.Ok) : ∀ (rows : List (List Nat)) (m : Option (List Nat × Int × Int)), (∀ r ∈ rows, rowN gs r ≠ []) → (∀ x, m = some x → 0 < x.2.2) →
    rows.foldl (fun m r => let g := Uw92.gain (oddsOf (gs.map Gm.game) r); match m with | none => some (r, g) | some x => if less x.2 g = true then some (r, g) else some x) (m.map asFr) = (rows.foldl (better gs) m).map asFr
  | [], _, _, _ => rfl
  | r :: rows, m, hne, hm => by
    have hrow : ∀ g ∈ rowN gs r, g.Ok := fun g hg => by
      rw [rowN_is] at hg
      exact hok g (rowOf_mem hg)
    have hn := hne r (List.mem_cons_self ..)
    have hp := gainLo_pos hrow hn
    have step : (let g := Uw92.gain (oddsOf (gs.map Gm.game) r); match m.map asFr with | none => some (r, g) | some x => if less x.2 g = true then some (r, g) else some x) = (better gs m r).map asFr := by
      rw [oddsN_is hok, gain_fr hrow hn]
      cases m with
      | none => rfl
      | some x =>
        have hx := hm x rfl
        simp only [Option.map_some, better, asFr]
        rw [less_fr hx hp]
        by_cases c : x.2.1 * gainLo (rowN gs r) < gainUp (rowN gs r) * x.2.2
        · rw [if_pos (by simpa using c), if_pos c]
          rfl
        · rw [if_neg (by simpa using c), if_neg c]
          rfl
    rw [List.foldl_cons, List.foldl_cons, step]
    refine best_fold hok rows (better gs m r) (fun q hq => hne q (List.mem_cons_of_mem _ hq)) (fun x hx => ?_)
    cases m with
    | none =>
      simp only [better, Option.some.injEq] at hx
      subst hx
      exact hp
    | some y =>
      simp only [better] at hx
      split at hx
      · simp only [Option.some.injEq] at hx
        subst hx
        exact hp
      · simp only [Option.some.injEq] at hx
        subst hx
        exact hm y rfl
theorem best_is {gs : List Gm} (hok : ∀ g ∈ gs, g.Ok) {n : Nat} (hn : 1 ≤ n) : Uw92.best (gs.map Gm.game) n = (bestI gs n).map asFr := by
  unfold Uw92.best bestI
  rw [List.length_map]
  exact best_fold hok _ none (fun r hr => rowN_ne hn hr) (by intro x hx; cases hx)
theorem mi_best (ok : StOk s gs had) {n : Int} (h : NatL [n]) :
    stepOf s [[8, n]] = (s, if gs = [] then [-2] else if n < 1 ∨ 4 < n then [-1] else match bestI gs n.toNat with | none => [] | some x => Uw92.ints x.1 ++ two (fr x.2.1 x.2.2)) := by
  rw [step8 (natL_cons (by decide) (by decide) h)]
  have hn := h n (by simp)
  simp only [Uw92.step]
  by_cases c : gs = []
  · have e : s.games = [] := by rw [ok.games, c]; rfl
    rw [if_pos c, if_pos (by rw [e]; rfl)]
  · rw [if_neg c, if_neg (by rw [ok.games]; simpa using c)]
    by_cases c2 : n < 1 ∨ 4 < n
    · rw [if_pos c2, if_pos (by omega)]
    · rw [if_neg c2, if_neg (by omega), ok.games, best_is (fun g hg => (ok.ok g hg).1) (by omega)]
      cases bestI gs n.toNat with
      | none => rfl
      | some x => rfl
end
end Lg
end

section
namespace Lg
open Uw92
/-! ### a row's winnings from what one had -/
theorem winAll_add : ∀ (row : List Gm) (won : Int) (s : S3), winAll row won s = won * vprod row + winAll row 0 s
  | [], won, s => by show won = won * 1 + 0; omega
  | g :: r, won, s => by
    show winAll r (won * g.v + wonIn s g) (behind s g) = won * (g.v * vprod r) + winAll r (0 * g.v + wonIn s g) (behind s g)
    rw [winAll_add r (won * g.v + wonIn s g), winAll_add r (0 * g.v + wonIn s g)]
    grind
theorem behindAll_unit (row : List Gm) (i : Nat) : (behindAll row (unit i)).sum = vprod row := by
  rw [sum_behindAll, unit_sum, Int.one_mul]
/-! ### signs of a fraction in lowest terms -/
theorem div_gcd {n d : Int} (h : 0 < d) : ∃ G k e, gcdI n d = G ∧ 0 < G ∧ n = G * k ∧ d = G * e ∧ n / gcdI n d = k ∧ d / gcdI n d = e ∧ 0 < e := by
  have g := gcdI_pos (n := n) h
  obtain ⟨k, e1⟩ : gcdI n d ∣ n := Int.ofNat_dvd_left.mpr (Nat.gcd_dvd_left _ _)
  obtain ⟨e, e2⟩ : gcdI n d ∣ d := by
    have : gcdI n d ∣ (d.toNat : Int) := Int.ofNat_dvd.mpr (Nat.gcd_dvd_right _ _)
    rwa [Int.toNat_of_nonneg (by omega)] at this
  refine ⟨_, k, e, rfl, g, e1, e2, ?_, ?_, ?_⟩
  · generalize gcdI n d = G at *
    rw [e1]; exact Int.mul_ediv_cancel_left _ (by omega)
  · generalize gcdI n d = G at *
    rw [e2]; exact Int.mul_ediv_cancel_left _ (by omega)
  · generalize gcdI n d = G at *
    rw [e2] at h
    exact Int.pos_of_mul_pos_right h g
theorem low_neg {n d : Int} (h : 0 < d) : n / gcdI n d < 0 ↔ n < 0 := by
  obtain ⟨G, k, e, _, hG, h1, h2, h3, h4, h5⟩ := div_gcd (n := n) h
  rw [h3, h1]
  constructor
  · intro hk
    exact Int.mul_neg_of_pos_of_neg hG hk
  · intro hk
    rcases Int.lt_or_le k 0 with c | c
    · exact c
    · have := Int.mul_nonneg (Int.le_of_lt hG) c
      omega
theorem low_pos {n d : Int} (h : 0 < d) : 0 < n / gcdI n d ↔ 0 < n := by
  obtain ⟨G, k, e, _, hG, h1, h2, h3, h4, h5⟩ := div_gcd (n := n) h
  rw [h3, h1]
  constructor
  · intro hk
    exact mulpos hG hk
  · intro hk
    exact Int.pos_of_mul_pos_right hk hG
/-- two fractions compared in lowest terms -/
theorem low_lt {n d m e : Int} (h : 0 < d) (k : 0 < e) : (m / gcdI m e) * (d / gcdI n d) < (n / gcdI n d) * (e / gcdI m e) ↔ m * d < n * e := by
  obtain ⟨G, a, b, _, hG, h1, h2, h3, h4, h5⟩ := div_gcd (n := n) h
  obtain ⟨F, p, q, _, hF, k1, k2, k3, k4, k5⟩ := div_gcd (n := m) k
  rw [h3, h4, k3, k4]
  have e1 : m * d = (p * b) * (G * F) := by rw [k1, h2]; grind
  have e2 : n * e = (a * q) * (G * F) := by rw [h1, k2]; grind
  rw [e1, e2]
  have hp := mulpos hG hF
  exact ⟨fun z => Int.mul_lt_mul_of_pos_right z hp, fun z => Int.lt_of_mul_lt_mul_right z (Int.le_of_lt hp)⟩
/-! ### no row gains as little as -1 -/
structure S3.Non (s : S3) : Prop where
  x : 0 ≤ s.x
  y : 0 ≤ s.y
  z : 0 ≤ s.z
  sum : 0 < s.sum
theorem Non.behind {s : S3} {g : Gm} (h : s.Non) (hg : g.Ok) : (Lg.behind s g).Non := by
  have v0 := hg.v0
  obtain ⟨a0, a1, b0, b1, c0, c1⟩ := hg
  obtain ⟨x, y, z, sm⟩ := h
  have u1 := Int.mul_nonneg y (show 0 ≤ g.v - g.b by omega)
  have u2 := Int.mul_nonneg z (show 0 ≤ g.c by omega)
  have u3 := Int.mul_nonneg x (show 0 ≤ g.a by omega)
  have u4 := Int.mul_nonneg z (show 0 ≤ g.v - g.c by omega)
  have u5 := Int.mul_nonneg x (show 0 ≤ g.v - g.a by omega)
  have u6 := Int.mul_nonneg y (show 0 ≤ g.b by omega)
  refine ⟨?_, ?_, ?_, ?_⟩
  · simp only [Lg.behind]; omega
  · simp only [Lg.behind]; omega
  · simp only [Lg.behind]; omega
  · rw [sum_behind]
    exact mulpos sm v0
theorem wonIn_gt {s : S3} {g : Gm} (h : s.Non) (hg : g.Ok) : -(s.sum * g.v) < wonIn s g := by
  obtain ⟨a0, a1, b0, b1, c0, c1⟩ := hg
  obtain ⟨x, y, z, sm⟩ := h
  have e : wonIn s g + s.sum * g.v = 2 * (s.x * g.a + s.y * g.b + s.z * g.c) := by
    unfold wonIn S3.sum
    grind
  have p1 : s.x ≤ s.x * g.a := by
    have := Int.mul_le_mul_of_nonneg_left (show 1 ≤ g.a by omega) x
    omega
  have p2 : s.y ≤ s.y * g.b := by
    have := Int.mul_le_mul_of_nonneg_left (show 1 ≤ g.b by omega) y
    omega
  have p3 : s.z ≤ s.z * g.c := by
    have := Int.mul_le_mul_of_nonneg_left (show 1 ≤ g.c by omega) z
    omega
  have : s.sum = s.x + s.y + s.z := rfl
  omega
theorem winAll_gt : ∀ (row : List Gm) {won k : Int} {s : S3}, (∀ g ∈ row, g.Ok) → row ≠ [] → s.Non → -(k * s.sum) ≤ won → -((k + (row.length : Int)) * (behindAll row s).sum) < winAll row won s
  | [], _, _, _, _, hne, _, _ => absurd rfl hne
  | [g], won, k, s, hg, _, hs, hw => by
    have ok := hg g (by simp)
    have q := wonIn_gt hs ok
    have v0 := ok.v0
    show -((k + 1) * (behind s g).sum) < won * g.v + wonIn s g
    rw [sum_behind]
    have q2 := Int.mul_le_mul_of_nonneg_right hw (Int.le_of_lt v0)
    have e : (k + 1) * (s.sum * g.v) = k * s.sum * g.v + s.sum * g.v := by grind
    have e2 : -(k * s.sum) * g.v = -(k * s.sum * g.v) := by grind
    omega
  | g :: g2 :: r, won, k, s, hg, _, hs, hw => by
    have ok := hg g (by simp)
    have q := wonIn_gt hs ok
    have v0 := ok.v0
    have q2 := Int.mul_le_mul_of_nonneg_right hw (Int.le_of_lt v0)
    have e : (k + 1) * (s.sum * g.v) = k * s.sum * g.v + s.sum * g.v := by grind
    have e2 : -(k * s.sum) * g.v = -(k * s.sum * g.v) := by grind
    have ih := winAll_gt (g2 :: r) (won := won * g.v + wonIn s g) (k := k + 1) (s := behind s g) (fun x hx => hg x (List.mem_cons_of_mem _ hx)) (by simp) (Non.behind hs ok) (by rw [sum_behind]; omega)
    show -((k + ((r.length + 1 + 1 : Nat) : Int)) * (behindAll (g2 :: r) (behind s g)).sum) < winAll (g2 :: r) (won * g.v + wonIn s g) (behind s g)
    have e3 : k + ((r.length + 1 + 1 : Nat) : Int) = k + 1 + ((g2 :: r).length : Int) := by
      rw [List.length_cons]
      omega
    rw [e3]
    exact ih
theorem gain_gt {row : List Gm} (h : ∀ g ∈ row, g.Ok) (hne : row ≠ []) : -(gainLo row) < gainUp row := by
  have ⟨x, y, z⟩ := lasting_pos h hne
  have q := winAll_gt row (won := 0) (k := 0) (s := lasting row) h hne ⟨Int.le_of_lt x, Int.le_of_lt y, Int.le_of_lt z, lasting_sum h hne⟩ (by simp)
  rw [Int.zero_add, Int.mul_comm] at q
  exact q
/-! ### all rows, made from the front -/
def longer (n : Nat) (rows : List (List Nat)) : List (List Nat) := rows.flatMap fun r => (List.range n).map fun j => r ++ [j]
theorem longer_map (n i : Nat) : ∀ rows : List (List Nat), (longer n rows).map (fun l => i :: l) = longer n (rows.map fun l => i :: l)
  | [] => rfl
  | r :: rows => by
    have ih := longer_map n i rows
    unfold longer at *
    rw [List.flatMap_cons, List.map_append, ih, List.map_cons, List.flatMap_cons, List.map_map]
    rfl
theorem longer_flat (n : Nat) (f : Nat → List (List Nat)) : ∀ is : List Nat, longer n (is.flatMap f) = is.flatMap fun i => longer n (f i)
  | [] => rfl
  | i :: is => by
    have ih := longer_flat n f is
    unfold longer at *
    rw [List.flatMap_cons, List.flatMap_append, ih, List.flatMap_cons]
theorem rowsOf_longer (n : Nat) : ∀ k, rowsOf n (k + 1) = longer n (rowsOf n k)
  | 0 => by
    have e : ∀ is : List Nat, (is.flatMap fun i => (rowsOf n 0).map fun l => i :: l) = is.map fun j => [j] := by
      intro is
      induction is with
      | nil => rfl
      | cons a r ih => rw [List.flatMap_cons, ih]; rfl
    show ((List.range n).flatMap fun i => (rowsOf n 0).map fun l => i :: l) = _
    rw [e]
    show _ = ((List.range n).map fun j => [] ++ [j]) ++ []
    rw [List.append_nil]
    rfl
  | k + 1 => by
    show ((List.range n).flatMap fun i => (rowsOf n (k + 1)).map fun l => i :: l) = longer n ((List.range n).flatMap fun i => (rowsOf n k).map fun l => i :: l)
    rw [longer_flat, rowsOf_longer n k]
    congr 1
    funext i
    exact longer_map n i _
theorem rowsOf_length (n : Nat) : ∀ k, (rowsOf n k).length = n ^ k
  | 0 => rfl
  | k + 1 => by
    rw [rowsOf_longer]
    have : ∀ rows : List (List Nat), (longer n rows).length = rows.length * n := by
      intro rows
      induction rows with
      | nil => simp [longer]
      | cons r rows ih =>
        unfold longer at *
        rw [List.flatMap_cons, List.length_append, ih, List.length_map, List.length_range, List.length_cons, Nat.succ_mul]
        omega
    rw [this, rowsOf_length n k, Nat.pow_succ]
/-- the fold of best, in the program's own numbers: what is chosen, and its gain in lowest terms -/
structure Chosen where
  r : List Nat
  up : Int
  lo : Int
def lowU (n d : Int) : Int := n / gcdI n d
def lowL (n d : Int) : Int := d / gcdI n d
def pick (gs : List Gm) (c : Chosen) (r : List Nat) : Chosen :=
  if c.up * lowL (gainUp (rowN gs r)) (gainLo (rowN gs r)) < lowU (gainUp (rowN gs r)) (gainLo (rowN gs r)) * c.lo then ⟨r, lowU (gainUp (rowN gs r)) (gainLo (rowN gs r)), lowL (gainUp (rowN gs r)) (gainLo (rowN gs r))⟩ else c
/-- the two folds go together -/
inductive Tied : Option (List Nat × Int × Int) → Chosen → Prop
  | none : Tied none ⟨[], -1, 1⟩
  | some {r : List Nat} {n d : Int} (h : 0 < d) : Tied (some (r, n, d)) ⟨r, lowU n d, lowL n d⟩
theorem tied_step {gs : List Gm} {m : Option (List Nat × Int × Int)} {c : Chosen} {r : List Nat} (hok : ∀ g ∈ rowN gs r, g.Ok) (hne : rowN gs r ≠ []) (h : Tied m c) : Tied (better gs m r) (pick gs c r) := by
  have hp := gainLo_pos hok hne
  cases h with
  | none =>
    have q := gain_gt hok hne
    unfold pick
    rw [if_pos]
    · exact .some hp
    · obtain ⟨G, k, e, _, hG, h1, h2, h3, h4, h5⟩ := div_gcd (n := gainUp (rowN gs r)) hp
      simp only [lowU, lowL]
      rw [h3, h4]
      rw [h1, h2] at q
      have : 0 < G * (k + e) := by rw [Int.mul_add]; omega
      have := Int.pos_of_mul_pos_right this hG
      omega
  | @some r0 n d hd =>
    unfold better pick
    dsimp only
    by_cases c : n * gainLo (rowN gs r) < gainUp (rowN gs r) * d
    · have c2 : lowU n d * lowL (gainUp (rowN gs r)) (gainLo (rowN gs r)) < lowU (gainUp (rowN gs r)) (gainLo (rowN gs r)) * lowL n d := (low_lt hp hd).mpr c
      rw [if_pos c, if_pos c2]
      exact .some hp
    · have c2 : ¬ lowU n d * lowL (gainUp (rowN gs r)) (gainLo (rowN gs r)) < lowU (gainUp (rowN gs r)) (gainLo (rowN gs r)) * lowL n d := fun z => c ((low_lt hp hd).mp z)
      rw [if_neg c, if_neg c2]
      exact .some hd
def pickAll (gs : List Gm) (rows : List (List Nat)) : Chosen := rows.foldl (pick gs) ⟨[], -1, 1⟩
theorem tied_all {gs : List Gm} (hok : ∀ g ∈ gs, g.Ok) : ∀ (rows : List (List Nat)) {m : Option (List Nat × Int × Int)} {c : Chosen}, (∀ r ∈ rows, rowN gs r ≠ []) → Tied m c → Tied (rows.foldl (better gs) m) (rows.foldl (pick gs) c)
  | [], _, _, _, h => h
  | r :: rows, m, c, hne, h => tied_all hok rows (fun q hq => hne q (List.mem_cons_of_mem _ hq)) (tied_step (fun g hg => by rw [rowN_is] at hg; exact hok g (rowOf_mem hg)) (hne r (List.mem_cons_self ..)) h)
theorem fold_better_some {gs : List Gm} : ∀ (rows : List (List Nat)) (x : List Nat × Int × Int), ∃ y, rows.foldl (better gs) (some x) = some y
  | [], x => ⟨x, rfl⟩
  | r :: rows, x => by
    rw [List.foldl_cons]
    have : ∃ z, better gs (some x) r = some z := by
      unfold better
      simp only
      split
      · exact ⟨_, rfl⟩
      · exact ⟨_, rfl⟩
    obtain ⟨z, e⟩ := this
    rw [e]
    exact fold_better_some rows z
theorem best_ans {gs : List Gm} (hok : ∀ g ∈ gs, g.Ok) (hg : gs ≠ []) {n : Nat} (hn : 1 ≤ n) :
    (match bestI gs n with | none => [] | some x => Uw92.ints x.1 ++ two (fr x.2.1 x.2.2)) = Uw92.ints (pickAll gs (rowsOf gs.length n)).r ++ [(pickAll gs (rowsOf gs.length n)).up, (pickAll gs (rowsOf gs.length n)).lo] := by
  have t := tied_all hok (rowsOf gs.length n) (m := none) (fun r hr => rowN_ne hn hr) .none
  have hlen := rowsOf_length gs.length n
  have hpos : 0 < gs.length := List.length_pos_iff.mpr hg
  have hpp : 0 < gs.length ^ n := Nat.pow_pos hpos
  obtain ⟨y, hy⟩ : ∃ y, bestI gs n = some y := by
    unfold bestI
    cases hr : rowsOf gs.length n with
    | nil => rw [hr] at hlen; simp at hlen; omega
    | cons r rows => exact fold_better_some rows _
  rw [hy]
  have t2 : Tied (bestI gs n) (pickAll gs (rowsOf gs.length n)) := t
  rw [hy] at t2
  generalize pickAll gs (rowsOf gs.length n) = c at *
  cases t2 with
  | some h =>
    simp only [two_fr h]
    rfl
end Lg
end

section
namespace Lg
open Uw92
/-! ### a mix, place by place -/
theorem mixUp_take {r : Nat} : ∀ {l : List (Gm × Int)} {i : Nat} {g : Gm} {w : Int} (_ : l[i]? = some (g, w)) (n d : Int), mixUp r (l.take (i + 1)) n d = mixUp r (l.take i) n d * g.v + g.u r * w * mixLo (l.take i) d
  | [], i, g, w, h, _, _ => by simp at h
  | (g0, w0) :: l, 0, g, w, h, n, d => by
    simp at h
    obtain ⟨rfl, rfl⟩ := h
    rfl
  | (g0, w0) :: l, i + 1, g, w, h, n, d => mixUp_take (l := l) (i := i) (g := g) (w := w) (by simpa using h) (n * g0.v + g0.u r * w0 * d) (d * g0.v)
theorem mixLo_take : ∀ {l : List (Gm × Int)} {i : Nat} {g : Gm} {w : Int} (_ : l[i]? = some (g, w)) (d : Int), mixLo (l.take (i + 1)) d = mixLo (l.take i) d * g.v
  | [], i, g, w, h, _ => by simp at h
  | (g0, w0) :: l, 0, g, w, h, d => by
    simp at h
    obtain ⟨rfl, rfl⟩ := h
    rfl
  | (g0, w0) :: l, i + 1, g, w, h, d => mixLo_take (l := l) (i := i) (g := g) (w := w) (by simpa using h) (d * g0.v)
theorem mixLo_le : ∀ (l : List (Gm × Int)) {d B : Int}, 0 < d → d ≤ B → (∀ x ∈ l, 0 < x.1.v ∧ x.1.v ≤ 100) → mixLo l d ≤ B * 100 ^ l.length
  | [], d, B, _, h, _ => by simpa [mixLo] using h
  | (g, w) :: l, d, B, hd, h, hv => by
    obtain ⟨v0, v1⟩ := hv (g, w) (by simp)
    have q := mixLo_le l (d := d * g.v) (B := B * 100) (mulpos hd v0) (Int.mul_le_mul h v1 (Int.le_of_lt v0) (by omega)) fun x hx => hv x (List.mem_cons_of_mem _ hx)
    show mixLo l (d * g.v) ≤ B * 100 ^ (l.length + 1)
    rw [Int.pow_succ, Int.mul_comm (100 ^ l.length) 100, ← Int.mul_assoc]
    exact q
theorem sum_le9 : ∀ {ws : List Int}, (∀ z ∈ ws, z ≤ 9) → ws.sum ≤ 9 * (ws.length : Int)
  | [], _ => by simp
  | w :: ws, h => by
    have := h w (by simp)
    have := sum_le9 (ws := ws) fun z hz => h z (List.mem_cons_of_mem _ hz)
    rw [List.sum_cons, List.length_cons]
    omega
theorem pow100_le {n : Nat} (h : n ≤ 4) : (100 : Int) ^ n ≤ 100000000 := by
  match n, h with
  | 0, _ => decide
  | 1, _ => decide
  | 2, _ => decide
  | 3, _ => decide
  | 4, _ => decide
theorem mixLo_le4 {gs : List Gm} {ws : List Int} (hg : ∀ g ∈ gs, g.Ok ∧ g.v ≤ 100) (h4 : gs.length ≤ 4) (i : Nat) : mixLo ((gs.zip ws).take i) 1 ≤ 100000000 := by
  have q := mixLo_le ((gs.zip ws).take i) (d := 1) (B := 1) (by decide) (by decide) (fun x hx => by
    have := hg x.1 (mem_zip (List.mem_of_mem_take hx)).1
    exact ⟨this.1.v0, this.2⟩)
  have l : ((gs.zip ws).take i).length ≤ 4 := by
    rw [List.length_take, List.length_zip]
    omega
  have := pow100_le l
  omega
theorem mixG_fit {gs : List Gm} {ws : List Int} (hg : ∀ g ∈ gs, g.Ok ∧ g.v ≤ 100) (h4 : gs.length ≤ 4) (hw : ∀ z ∈ ws, 0 ≤ z) (h9 : ∀ z ∈ ws, z ≤ 9) (hl : ws.length = gs.length) (hs : 0 < ws.sum) : (mixG gs ws).Fit := by
  refine ⟨mixG_ok (fun g h => (hg g h).1) hw hl.symm hs, ?_⟩
  have a := mixLo_le4 (ws := ws) hg h4 (gs.zip ws).length
  rw [List.take_length] at a
  have b := sum_le9 h9
  have p := mixLo_pos (l := gs.zip ws) (d := 1) (by decide) (fun x hx => (hg _ (mem_zip hx).1).1.v0)
  have q : mixLo (gs.zip ws) 1 * ws.sum ≤ 100000000 * 36 := Int.mul_le_mul a (by omega) (by omega) (by decide)
  show mixLo (gs.zip ws) 1 * ws.sum ≤ 2 ^ 60
  have e : (2 : Int) ^ 60 = 1152921504606846976 := by decide
  omega
theorem mixBad_is {gs : List Gm} {ws : List Int} (h0 : ∀ z ∈ ws, 0 ≤ z) (hl : ws.length = gs.length) : mixBad gs ws = ((ws.map fun z => decide (9 < z)).any id || decide (ws.sum = 0)) := by
  unfold mixBad
  rw [decide_eq_false (by omega), Bool.false_or, List.any_map]
  congr 1
  rw [Bool.eq_iff_iff, List.all_eq_true, decide_eq_true_eq]
  simp only [decide_eq_true_eq]
  constructor
  · intro h
    clear h0 hl
    induction ws with
    | nil => rfl
    | cons w ws ih =>
      rw [List.sum_cons, h w (by simp), ih fun z hz => h z (List.mem_cons_of_mem _ hz)]
      rfl
  · intro h
    refine Classical.byContradiction fun q => ?_
    have := sum_pos_of h0 q
    omega
theorem mixBad_len {gs : List Gm} {ws : List Int} (hl : ws.length ≠ gs.length) : mixBad gs ws = true := by
  unfold mixBad
  rw [decide_eq_true hl, Bool.true_or, Bool.true_or]
/-! ### how likely each number of rounds won is -/
/-- its part behind k rounds -/
def partW (x : Int) (row : List Gm) (k w : Nat) : Int := distAll x (row.take k) dist0 (2 * (w : Int) - (k : Int))
def partsW (x : Int) (row : List Gm) (k : Nat) : List Int := (List.range (k + 1)).map (partW x row k)
theorem distAll_take {x : Int} {row : List Gm} {k : Nat} {m : Gm} (h : row[k]? = some m) (D : Int → Int) : distAll x (row.take (k + 1)) D = distStep x (distAll x (row.take k) D) m := by
  unfold distAll
  rw [List.take_succ, h]
  simp
theorem distAll_within {x : Int} : ∀ (row : List Gm) {D : Int → Int} {k : Nat}, Within k D → Within ((k + row.length : Nat) : Int) (distAll x row D)
  | [], _, k, h => by simpa [distAll] using h
  | g :: r, D, k, h => by
    have q := distAll_within (x := x) r (D := distStep x D g) (k := k + 1) (by have := h.step (x := x) (g := g); simpa using this)
    have e : k + (g :: r).length = k + 1 + r.length := by rw [List.length_cons]; omega
    rw [e]
    exact q
theorem dist0_within : Within ((0 : Nat) : Int) dist0 := by
  intro j hj
  unfold dist0
  rw [if_neg (by omega)]
/-- nothing at amounts of the other kind, even or odd -/
theorem distAll_par {x : Int} : ∀ (row : List Gm) {D : Int → Int} {k : Int}, (∀ j, (j + k) % 2 = 1 → D j = 0) → ∀ j, (j + k + (row.length : Int)) % 2 = 1 → distAll x row D j = 0
  | [], D, k, h, j, hj => h j (by simpa using hj)
  | g :: r, D, k, h, j, hj => by
    refine distAll_par (x := x) r (D := distStep x D g) (k := k + 1) (fun i hi => ?_) j ?_
    · unfold distStep
      rw [h (i - 1) (by omega), h (i + 1) (by omega)]
      simp
    · rw [List.length_cons] at hj
      have : j + (k + 1) + (r.length : Int) = j + k + ((r.length + 1 : Nat) : Int) := by omega
      rw [this]
      exact hj
theorem chance_odd {x : Int} {row : List Gm} {y : Int} (h : ((row.length : Int) + y) % 2 = 1) : distAll x row dist0 y = 0 := by
  refine distAll_par row (k := 0) (fun j hj => ?_) y (by rw [Int.add_zero, Int.add_comm]; exact h)
  unfold dist0
  rw [if_neg (by omega)]
/-- the wins' chance at a number of wins -/
def upW (x : Int) (m : Gm) (k w : Nat) : Int := m.u (restOf (x + 2 * (w : Int) - (k : Int)))
theorem part_step {x : Int} {row : List Gm} {k : Nat} {m : Gm} (h : row[k]? = some m) (w : Nat) (hw : w ≤ k + 1) :
    partW x row (k + 1) w = (if 1 ≤ w then partW x row k (w - 1) * upW x m k (w - 1) else 0) + (if w ≤ k then partW x row k w * (m.v - upW x m k w) else 0) := by
  have hk : k < row.length := (List.getElem?_eq_some_iff.mp h).1
  have wi : Within ((k : Nat) : Int) (distAll x (row.take k) dist0) := by
    have := distAll_within (x := x) (row.take k) dist0_within
    rw [List.length_take, Nat.min_eq_left (by omega), Nat.zero_add] at this
    exact this
  unfold partW upW
  rw [distAll_take h]
  unfold distStep
  congr 1
  · by_cases c : 1 ≤ w
    · rw [if_pos c]
      have e1 : 2 * (w : Int) - ((k + 1 : Nat) : Int) - 1 = 2 * ((w - 1 : Nat) : Int) - (k : Int) := by omega
      have e2 : x + (2 * ((w - 1 : Nat) : Int) - (k : Int)) = x + 2 * ((w - 1 : Nat) : Int) - (k : Int) := by omega
      rw [e1, e2]
    · rw [if_neg c, wi _ (by omega), Int.zero_mul]
  · by_cases c : w ≤ k
    · rw [if_pos c]
      have e1 : 2 * (w : Int) - ((k + 1 : Nat) : Int) + 1 = 2 * (w : Int) - (k : Int) := by omega
      have e2 : x + (2 * (w : Int) - (k : Int)) = x + 2 * (w : Int) - (k : Int) := by omega
      rw [e1, e2]
    · rw [if_neg c, wi _ (by omega), Int.zero_mul]
/-- the next parts behind some turns of the inner loop -/
def midW (x : Int) (row : List Gm) (m : Gm) (k i w : Nat) : Int := (if 1 ≤ w ∧ w ≤ i then partW x row k (w - 1) * upW x m k (w - 1) else 0) + (if w < i then partW x row k w * (m.v - upW x m k w) else 0)
def midsW (x : Int) (row : List Gm) (m : Gm) (k i : Nat) : List Int := (List.range (k + 2)).map (midW x row m k i)
theorem mid_zero (x : Int) (row : List Gm) (m : Gm) (k : Nat) : midsW x row m k 0 = List.replicate (k + 2) 0 := by
  unfold midsW
  refine List.eq_replicate_iff.mpr ⟨by simp, fun b hb => ?_⟩
  obtain ⟨w, _, rfl⟩ := List.mem_map.mp hb
  unfold midW
  rw [if_neg (by omega), if_neg (by omega)]
  rfl
theorem mid_full {x : Int} {row : List Gm} {k : Nat} {m : Gm} (h : row[k]? = some m) : midsW x row m k (k + 1) = partsW x row (k + 1) := by
  unfold midsW partsW
  refine List.map_congr_left fun w hw => ?_
  have hw' := List.mem_range.mp hw
  rw [part_step h w (by omega)]
  unfold midW
  congr 1
  · by_cases c : 1 ≤ w
    · rw [if_pos c, if_pos ⟨c, by omega⟩]
    · rw [if_neg c, if_neg (fun z => c z.1)]
  · by_cases c : w ≤ k
    · rw [if_pos c, if_pos (by omega)]
    · rw [if_neg c, if_neg (by omega)]
theorem mids_len (x : Int) (row : List Gm) (m : Gm) (k i : Nat) : (midsW x row m k i).length = k + 2 := by simp [midsW]
theorem mids_get {x : Int} {row : List Gm} {m : Gm} {k i w : Nat} (h : w < k + 2) : (midsW x row m k i)[w]? = some (midW x row m k i w) := by
  unfold midsW
  rw [List.getElem?_map, List.getElem?_range h]
  rfl
theorem parts_get {x : Int} {row : List Gm} {k w : Nat} (h : w < k + 1) : (partsW x row k)[w]? = some (partW x row k w) := by
  unfold partsW
  rw [List.getElem?_map, List.getElem?_range h]
  rfl
theorem mid_step {x : Int} {row : List Gm} {m : Gm} {k i : Nat} (hi : i < k + 1) :
    ((midsW x row m k i).set (i + 1) (midW x row m k i (i + 1) + partW x row k i * upW x m k i)).set i (midW x row m k i i + partW x row k i * (m.v - upW x m k i)) = midsW x row m k (i + 1) := by
  refine List.ext_getElem? fun w => ?_
  rw [List.getElem?_set, List.getElem?_set, List.length_set, mids_len]
  by_cases hw : w < k + 2
  · rw [mids_get (i := i + 1) hw]
    by_cases c1 : i = w
    · subst c1
      rw [if_pos rfl, if_pos (by omega)]
      congr 1
      unfold midW
      by_cases c : 1 ≤ i
      · rw [if_pos (show 1 ≤ i ∧ i ≤ i from ⟨c, Nat.le_refl _⟩), if_neg (show ¬ i < i by omega), if_pos (show 1 ≤ i ∧ i ≤ i + 1 from ⟨c, by omega⟩), if_pos (show i < i + 1 by omega)]
        omega
      · rw [if_neg (show ¬ (1 ≤ i ∧ i ≤ i) from fun z => c z.1), if_neg (show ¬ i < i by omega), if_neg (show ¬ (1 ≤ i ∧ i ≤ i + 1) from fun z => c z.1), if_pos (show i < i + 1 by omega)]
        omega
    · rw [if_neg c1]
      by_cases c2 : i + 1 = w
      · subst c2
        rw [if_pos rfl, if_pos (by omega)]
        congr 1
        unfold midW
        rw [if_neg (show ¬ (1 ≤ i + 1 ∧ i + 1 ≤ i) by omega), if_neg (show ¬ i + 1 < i by omega), if_pos (show 1 ≤ i + 1 ∧ i + 1 ≤ i + 1 by omega), if_neg (show ¬ i + 1 < i + 1 by omega)]
        show 0 + 0 + partW x row k i * upW x m k i = partW x row k i * upW x m k i + 0
        omega
      · rw [if_neg c2, mids_get hw]
        congr 1
        unfold midW
        have e1 : (1 ≤ w ∧ w ≤ i) ↔ (1 ≤ w ∧ w ≤ i + 1) := by omega
        have e2 : w < i ↔ w < i + 1 := by omega
        simp only [e1, e2]
  · rw [if_neg (show ¬ i = w by omega), if_neg (show ¬ i + 1 = w by omega)]
    have l : ∀ j, (midsW x row m k j)[w]? = none := fun j => List.getElem?_eq_none (by rw [mids_len]; omega)
    rw [l, l]
/-! their sum -/
def sumTo (f : Nat → Int) : Nat → Int
  | 0 => 0
  | n + 1 => sumTo f n + f n
theorem sum_range (f : Nat → Int) : ∀ n, ((List.range n).map f).sum = sumTo f n
  | 0 => rfl
  | n + 1 => by
    rw [List.range_succ, List.map_append, List.sum_append, sum_range f n]
    simp [sumTo]
theorem sumTo_shift (A B : Nat → Int) : ∀ n, sumTo (fun w => (if 1 ≤ w then A (w - 1) else 0) + B w) (n + 1) = sumTo A n + sumTo B (n + 1)
  | 0 => by simp [sumTo]
  | n + 1 => by
    show sumTo _ (n + 1) + ((if 1 ≤ n + 1 then A (n + 1 - 1) else 0) + B (n + 1)) = (sumTo A n + A n) + (sumTo B (n + 1) + B (n + 1))
    rw [sumTo_shift A B n, if_pos (by omega), Nat.add_sub_cancel]
    omega
theorem sumTo_congr {f g : Nat → Int} : ∀ {n}, (∀ w, w < n → f w = g w) → sumTo f n = sumTo g n
  | 0, _ => rfl
  | n + 1, h => by
    show sumTo f n + f n = sumTo g n + g n
    rw [sumTo_congr (n := n) fun w hw => h w (by omega), h n (by omega)]
theorem sumTo_mul (f : Nat → Int) (u : Nat → Int) (v : Int) : ∀ n, sumTo (fun w => f w * u w) n + sumTo (fun w => f w * (v - u w)) n = sumTo f n * v
  | 0 => by simp [sumTo]
  | n + 1 => by
    have ih := sumTo_mul f u v n
    show (sumTo _ n + f n * u n) + (sumTo _ n + f n * (v - u n)) = (sumTo f n + f n) * v
    generalize sumTo (fun w => f w * u w) n = a at *
    generalize sumTo (fun w => f w * (v - u w)) n = b at *
    generalize sumTo f n = c at *
    grind
theorem parts_sum {x : Int} {row : List Gm} : ∀ {k : Nat}, k ≤ row.length → (partsW x row k).sum = vprod (row.take k)
  | 0, _ => rfl
  | k + 1, h => by
    have ih := parts_sum (x := x) (row := row) (k := k) (by omega)
    unfold partsW at *
    rw [sum_range] at ih ⊢
    have hm : row[k]? = some row[k] := List.getElem?_eq_getElem (by omega)
    have e : sumTo (partW x row (k + 1)) (k + 1 + 1) = sumTo (fun w => (if 1 ≤ w then partW x row k (w - 1) * upW x row[k] k (w - 1) else 0) + (if w ≤ k then partW x row k w * (row[k].v - upW x row[k] k w) else 0)) (k + 1 + 1) :=
      sumTo_congr fun w hw => part_step hm w (by omega)
    rw [e, sumTo_shift (fun w => partW x row k w * upW x row[k] k w) (fun w => if w ≤ k then partW x row k w * (row[k].v - upW x row[k] k w) else 0) (k + 1)]
    have e2 : sumTo (fun w => if w ≤ k then partW x row k w * (row[k].v - upW x row[k] k w) else 0) (k + 1 + 1) = sumTo (fun w => partW x row k w * (row[k].v - upW x row[k] k w)) (k + 1) := by
      show sumTo _ (k + 1) + (if k + 1 ≤ k then _ else 0) = _
      rw [if_neg (by omega), Int.add_zero]
      exact sumTo_congr fun w hw => if_pos (by omega)
    rw [e2, sumTo_mul (partW x row k) (upW x row[k] k) row[k].v (k + 1), ih]
    have e3 : ∀ (r : List Gm) (j : Nat) (m : Gm), r[j]? = some m → vprod (r.take (j + 1)) = vprod (r.take j) * m.v := by
      intro r
      induction r with
      | nil => intro j m h; simp at h
      | cons g r ih2 =>
        intro j m h
        cases j with
        | zero =>
          simp at h
          subst h
          show g.v * 1 = 1 * g.v
          omega
        | succ j =>
          show g.v * vprod (r.take (j + 1)) = g.v * vprod (r.take j) * m.v
          rw [ih2 j m (by simpa using h), Int.mul_assoc]
    rw [e3 row k _ hm]
/-- the chance of y more, where it is of the same kind as the rounds -/
theorem part_at {x : Int} {row : List Gm} {y : Nat} (hy : y ≤ row.length) (h : ((row.length : Int) + (y : Int)) % 2 = 0) : (partsW x row row.length)[((row.length + y) / 2 : Nat)]? = some (distAll x row dist0 (y : Int)) := by
  rw [parts_get (by omega)]
  unfold partW
  rw [List.take_length]
  congr 2
  omega
theorem vprod_long {row : List Gm} (h : ∀ g ∈ row, g.Fit) (hl : row.length ≤ 30) : vprod row ≤ 2 ^ 1800 := by
  refine Int.le_trans (vprod_leB (B := 2 ^ 60) (by decide) fun g hg => ⟨(h g hg).ok.v0, (h g hg).v⟩) ?_
  rw [← Int.pow_mul]
  have : (2 : Nat) ^ (60 * row.length) ≤ 2 ^ 1800 := Nat.pow_le_pow_right (by decide) (by omega)
  exact_mod_cast this
/-! ### how much one may have -/
theorem has_step {s : Uw92.St} {gs : List Gm} {had : Int} (ok : StOk s gs had) {p : Int} {ns r : List Int} (h : OkC p ns r) {k : Nat} (hb : had.natAbs ≤ 1000000 + k) : ((stepOf s (callP p ns r)).1.has).natAbs ≤ 1000000 + (k + 1) := by
  have hs := ok.has
  cases h with
  | @game v a b c h =>
    show ((stepOf s [[0, v, a, b, c]]).1.has).natAbs ≤ _
    rw [mi_game ok h]
    split
    · show s.has.natAbs ≤ _; omega
    · split
      · show s.has.natAbs ≤ _; omega
      · show s.has.natAbs ≤ _; omega
  | drop =>
    show ((stepOf s [[1]]).1.has).natAbs ≤ _
    rw [mi_drop ok]
    split
    · show s.has.natAbs ≤ _; omega
    · show s.has.natAbs ≤ _; omega
  | @have_ x h =>
    show ((stepOf s [[2, x]]).1.has).natAbs ≤ _
    rw [mi_have h]
    have := h x (by simp)
    split
    · show s.has.natAbs ≤ _; omega
    · show x.natAbs ≤ _; omega
  | @play i x h =>
    show ((stepOf s [[3, i, x]]).1.has).natAbs ≤ _
    rw [mi_play ok h]
    split
    · show s.has.natAbs ≤ _; omega
    · split
      · show s.has.natAbs ≤ _; omega
      · split
        · show (had + 1).natAbs ≤ _; omega
        · show (had - 1).natAbs ≤ _; omega
  | shows =>
    show ((stepOf s [[4]]).1.has).natAbs ≤ _
    rw [mi_shows ok]
    show s.has.natAbs ≤ _; omega
  | @gain r h h9 =>
    show ((stepOf s [[5], r]).1.has).natAbs ≤ _
    rw [mi_gain ok h]
    show s.has.natAbs ≤ _; omega
  | @rests r h h9 =>
    show ((stepOf s [[6], r]).1.has).natAbs ≤ _
    rw [mi_rests ok h]
    show s.has.natAbs ≤ _; omega
  | @mix r h h9 =>
    show ((stepOf s [[7], r]).1.has).natAbs ≤ _
    rw [mi_mix ok h]
    show s.has.natAbs ≤ _; omega
  | @best n h =>
    show ((stepOf s [[8, n]]).1.has).natAbs ≤ _
    rw [mi_best ok h]
    show s.has.natAbs ≤ _; omega
  | @after d r h h9 =>
    show ((stepOf s [[9, d], r]).1.has).natAbs ≤ _
    rw [mi_after ok h]
    show s.has.natAbs ≤ _; omega
  | @chance d x r h h9 =>
    show ((stepOf s [[10, d, x], r]).1.has).natAbs ≤ _
    rw [mi_chance ok h]
    show s.has.natAbs ≤ _; omega
  | @loses r h h9 =>
    show ((stepOf s [[11], r]).1.has).natAbs ≤ _
    rw [mi_loses ok h]
    show s.has.natAbs ≤ _; omega
end Lg
end

section
namespace Lg
open Uw92
/-! ### no row gains as much as 1 -/
theorem wonIn_lt {s : S3} {g : Gm} (h : s.Non) (hg : g.Ok) : wonIn s g < s.sum * g.v := by
  obtain ⟨a0, a1, b0, b1, c0, c1⟩ := hg
  obtain ⟨x, y, z, sm⟩ := h
  have e : s.sum * g.v - wonIn s g = 2 * (s.x * (g.v - g.a) + s.y * (g.v - g.b) + s.z * (g.v - g.c)) := by
    unfold wonIn S3.sum
    grind
  have p1 : s.x ≤ s.x * (g.v - g.a) := by
    have := Int.mul_le_mul_of_nonneg_left (show 1 ≤ g.v - g.a by omega) x
    omega
  have p2 : s.y ≤ s.y * (g.v - g.b) := by
    have := Int.mul_le_mul_of_nonneg_left (show 1 ≤ g.v - g.b by omega) y
    omega
  have p3 : s.z ≤ s.z * (g.v - g.c) := by
    have := Int.mul_le_mul_of_nonneg_left (show 1 ≤ g.v - g.c by omega) z
    omega
  have : s.sum = s.x + s.y + s.z := rfl
  omega
theorem winAll_le : ∀ (row : List Gm) {won k : Int} {s : S3}, (∀ g ∈ row, g.Ok) → s.Non → won ≤ k * s.sum → winAll row won s ≤ (k + (row.length : Int)) * (behindAll row s).sum
  | [], won, k, s, _, _, hw => by
    show won ≤ (k + 0) * s.sum
    rw [Int.add_zero]
    exact hw
  | g :: r, won, k, s, hg, hs, hw => by
    have ok := hg g (by simp)
    have q := wonIn_lt hs ok
    have v0 := ok.v0
    have q2 := Int.mul_le_mul_of_nonneg_right hw (Int.le_of_lt v0)
    have e : (k + 1) * (s.sum * g.v) = k * s.sum * g.v + s.sum * g.v := by grind
    have ih := winAll_le r (won := won * g.v + wonIn s g) (k := k + 1) (s := behind s g) (fun x hx => hg x (List.mem_cons_of_mem _ hx)) (Non.behind hs ok) (by rw [sum_behind]; omega)
    show winAll r (won * g.v + wonIn s g) (behind s g) ≤ (k + ((r.length + 1 : Nat) : Int)) * (behindAll r (behind s g)).sum
    have e3 : k + ((r.length + 1 : Nat) : Int) = k + 1 + (r.length : Int) := by omega
    rw [e3]
    exact ih
theorem gain_le {row : List Gm} (h : ∀ g ∈ row, g.Ok) (hne : row ≠ []) : gainUp row ≤ gainLo row := by
  have ⟨x, y, z⟩ := lasting_pos h hne
  have q := winAll_le row (won := 0) (k := 0) (s := lasting row) h ⟨Int.le_of_lt x, Int.le_of_lt y, Int.le_of_lt z, lasting_sum h hne⟩ (by simp)
  rw [Int.zero_add, Int.mul_comm] at q
  exact q
theorem low_abs {n d : Int} (h : 0 < d) : (lowU n d).natAbs ≤ n.natAbs ∧ (lowL n d).natAbs ≤ d.natAbs ∧ 0 < lowL n d := by
  obtain ⟨G, k, e, _, hG, h1, h2, h3, h4, h5⟩ := div_gcd (n := n) h
  unfold lowU lowL
  rw [h3, h4]
  refine ⟨?_, ?_, h5⟩
  · rw [h1, Int.natAbs_mul]
    exact Nat.le_mul_of_pos_left _ (by omega)
  · rw [h2, Int.natAbs_mul]
    exact Nat.le_mul_of_pos_left _ (by omega)
theorem gain_abs {row : List Gm} (h : ∀ g ∈ row, g.Fit) (hne : row ≠ []) (hl : row.length ≤ 6) : (lowU (gainUp row) (gainLo row)).natAbs < 2 ^ 1200 ∧ (lowL (gainUp row) (gainLo row)).natAbs < 2 ^ 1200 ∧ 0 < lowL (gainUp row) (gainLo row) := by
  have hok : ∀ g ∈ row, g.Ok := fun g hg => (h g hg).ok
  have p := gainLo_pos hok hne
  have a := gain_gt hok hne
  have b := gain_le hok hne
  have c : gainLo row < ((2 ^ 1200 : Nat) : Int) := gainLo_lt h hne hl
  obtain ⟨q1, q2, q3⟩ := low_abs (n := gainUp row) p
  refine ⟨?_, ?_, q3⟩ <;> omega
/-! ### rounds of a row, one more -/
theorem playedG_succ {row : List Gm} {i : Nat} {g : Gm} (h : row[i % row.length]? = some g) : playedG row (i + 1) = playedG row i ++ [g] := by
  unfold playedG
  rw [List.range_succ, List.filterMap_append]
  congr 1
  rw [List.filterMap_cons, h]
  rfl
theorem lasting_bits {row : List Gm} (h : ∀ g ∈ row, g.Fit) (hne : row ≠ []) (hv : vprod row ≤ 2 ^ 360) : (lasting row).sum < 2 ^ 800 := by
  have hok : ∀ g ∈ row, g.Ok := fun g hg => (h g hg).ok
  have q := lasting_sum_le hok hne
  have p := vprod_pos (row := row) fun g hg => (hok g hg).v0
  have e : vprod row * vprod row ≤ 2 ^ 360 * 2 ^ 360 := Int.mul_le_mul hv hv (by omega) (by decide +kernel)
  have f : (9 : Int) * (2 ^ 360 * 2 ^ 360) < 2 ^ 800 := by decide +kernel
  refine Int.lt_of_le_of_lt (Int.le_trans q ?_) f
  generalize vprod row * vprod row = a at *
  generalize (2 : Int) ^ 360 * 2 ^ 360 = b at *
  omega
end Lg
end

section
set_option Elab.async false
set_option linter.all false
set_option maxRecDepth 100000
set_option maxHeartbeats 2000000
namespace Lg
open PySem PySem.Spec PyProof.Rows L2
open Builtin.Int (intBits)
theorem bt_len : bootBuiltins "len" = some (.builtin "len") := by decide +kernel
theorem bt_abs : bootBuiltins "abs" = some (.builtin "abs") := by decide +kernel
theorem bt_sum : bootBuiltins "sum" = some (.builtin "sum") := by decide +kernel
theorem bt_all : bootBuiltins "all" = some (.builtin "all") := by decide +kernel
theorem bt_any : bootBuiltins "any" = some (.builtin "any") := by decide +kernel
theorem bt_max : bootBuiltins "max" = some (.builtin "max") := by decide +kernel
theorem bt_min : bootBuiltins "min" = some (.builtin "min") := by decide +kernel
theorem bt_sorted : bootBuiltins "sorted" = some (.builtin "sorted") := by decide +kernel
theorem bt_tuple : bootBuiltins "tuple" = some (.type "tuple") := by decide +kernel
theorem bt_list : bootBuiltins "list" = some (.type "list") := by decide +kernel
theorem bt_int : bootBuiltins "int" = some (.type "int") := by decide +kernel
theorem bt_bool : bootBuiltins "bool" = some (.type "bool") := by decide +kernel
section
variable {X : Cx}
/-- a written whole number of the module -/
theorem pe_gint {x : Str} {i : Int} {pos : Pos} (hg : Gl X x) (h : ∃ t, X.mg x = some (.int i t)) (hd : (x == ("__debug__" : Str)) = false := by decide) : PE X (.Name x pos) (tC (.int i)) := by
  obtain ⟨t, e⟩ := h
  exact pe_glob hg e ⟨t, rfl⟩ hd
theorem pe_gref {x : Str} {a : Addr} {pos : Pos} (hg : Gl X x) (h : X.mg x = some (.ref a)) (hd : (x == ("__debug__" : Str)) = false := by decide) : PE X (.Name x pos) (tC (.ref a)) := pe_glob hg h rfl hd
/-- a product of numbers of known size -/
def CMulB (i j : Int) : Prop := CMul i j ∨ (intBits i ≤ 100000 ∧ intBits j ≤ 100000)
theorem op_mulB : OpR X (binaryOp .Mult) (rI CMulB fun i j => .int (i * j)) := opI fun _ _ _ _ _ _ _ hc q => mul_int q (by
  rcases hc with hc | ⟨h1, h2⟩
  · exact hc.ok
  · exact IntMulOk.of_le h1 h2 (by decide))
/-- // by a positive divisor of known size -/
def CDivB (_ j : Int) : Prop := 0 < j ∧ intBits j ≤ 8000
theorem op_fdivB : OpR X (binaryOp .FloorDiv) (rI CDivB fun i j => .int (i / j)) := opI fun i j _ _ _ _ _ hc q => by
  obtain ⟨h1, h2⟩ := hc
  refine floordiv_int (by omega) (by rw [Int.fdiv_eq_ediv_of_nonneg i (by omega)]; exact q) (.inl (PyProof.noPylong_of_log2 ?_))
  unfold Builtin.Int.intBits at h2
  have hb : (j == 0) = false := by
    have : j ≠ 0 := by omega
    simpa using this
  rw [hb] at h2
  simp only [Bool.false_eq_true, if_false] at h2
  omega
/-- an item of a list or a tuple -/
def rSq (K : PySem.W.Frag) : R2 := fun x y H Q => ∃ p xs i v, x = .ref p ∧ y = .int i ∧ (SqL K H p xs ∨ SqT K H p xs) ∧ atI xs i = some v ∧ Q v H
theorem ix_sq : IxR X (rSq X.K) := by
  intro value slice pins s σ H x y v u Q I rx ry q hs
  obtain ⟨p, xs, i, z, e1, e2, h | h, e3, q⟩ := q
  · exact ix_list value slice pins s σ H x y v u Q I rx ry ⟨p, xs, i, z, e1, e2, h, e3, q⟩ hs
  · exact ix_tup value slice pins s σ H x y v u Q I rx ry ⟨p, xs, i, z, e1, e2, h, e3, q⟩ hs
/-- the same, where the context is a comprehension's -/
theorem ix_sqK {K : PySem.W.Frag} (e : X.K = K) : IxR X (rSq K) := by
  subst e
  exact ix_sq
def rLen (K : PySem.W.Frag) : List V → Hp → VK → Prop := fun vs H Q => ∃ p ys, vs = [V.ref p] ∧ (SqL K H p ys ∨ SqT K H p ys) ∧ Q (.int (ys.length : Int)) H
theorem call_lenK {K : PySem.W.Frag} (e : X.K = K) : CallR X (.builtin "len") (rLen K) := by
  subst e
  exact call_len_seq
theorem pe_fldK {K : PySem.W.Frag} {e : Expr} {f : Str} {pos : Pos} {ta : TE} (h : X.K = K) (he : PE X e ta) (hb : attributeBase e f X.env (eval e X.env) = eval e X.env) : PE X (.Attribute e f pos) (tFld K ta f) := by
  subst h
  exact pe_fld he hb
/-- sum, where the context is a comprehension's -/
theorem cr_sumK {K : PySem.W.Frag} (e : X.K = K) (hc : X.calm = true) : CallR X (.builtin "sum") (rSum K) := by
  subst e
  exact cr_sum hc
/-- the item that an augmented store reads -/
def rGet (K : PySem.W.Frag) : V → V → Hp → VK → Prop := fun x y H Q => ∃ p xs i v, x = .ref p ∧ y = .int i ∧ SqL K H p xs ∧ 0 ≤ i ∧ xs[i.toNat]? = some v ∧ Q v H
theorem get_list : PGet X (rGet X.K) := by
  intro pins s σ H o i ov iv Q I ro ri h
  obtain ⟨p, xs, k, v, rfl, rfl, hq, h0, hv, q⟩ := h
  cases ro
  obtain ⟨t, rfl⟩ := ri
  obtain ⟨its, r, pl, hz⟩ := I.list hq
  obtain ⟨u, hu, ru⟩ := r.get hv
  have hl := r.length
  have hn := line63
  have hk : k.toNat < xs.length := (List.getElem?_eq_some_iff.mp hv).1
  exact wpAny_getItem_list pl.isList h0 (by omega) (by simpa using hu) ⟨v, H, I, ru, q⟩
/-- a tuple at the end of a list, whatever else its object bears -/
theorem extend_tuple (l b : Addr) (xs ys : Array Value) (n m : Nat) (dc : Option Addr) (sl : Array (Option Value)) (h0 : ¬(!xs.isEmpty && Builtin.List.listTooLong (xs.size + ys.size)) = true) (h1 : xs.size ≤ sizeLine) (h2 : xs.size + ys.size ≤ sizeLine + 1) :
    Meets (Builtin.«list.extend» ⟨[.ref l, .ref b], []⟩) (fun _ R s => s.heap.get? l = some { cls := .type "list", data := .seq xs n } ∧ s.heap.get? b = some { cls := .type "tuple", dict := dc, data := .seq ys m, slots := sl } ∧
      R (.ok (.ret Value.none)) { s with heap := s.heap.update l (Obj.mapSeq fun z => z ++ ys), toks := s.toks }) :=
  .of_wp fun prog w A R s h => by
    obtain ⟨hp, g, d, tk, os⟩ := s
    obtain ⟨hl, hb, h⟩ := h
    have f1 := AutoSeq1.idx_int
    have f2 := AutoSeq1.sub_tuple_tuple
    have f3 := AutoSeq1.sub_list_list
    have f4 := AutoSeq1.sub_tuple_list
    have f5 := AutoSeq1.sub_list_tuple
    have both : (xs ++ ys).size ≤ sizeLine + 1 := by
      rw [Array.size_append]
      exact h2
    wp_walk using (wpAny_updateSeq hl rfl (hz := h1) (_hz' := both)), AutoSeq1.wpAny_loadPart' hl, AutoSeq1.wpAny_loadPart' hb
    exact ⟨_, rfl, h⟩
/-- xs.extend(list or tuple) -/
def rExtendB (K : PySem.W.Frag) : V → List V → Hp → VK → Prop := fun x vs H Q => ∃ l b xs zs, x = .ref l ∧ vs = [.ref b] ∧ H l = some (.lst xs) ∧ (H b = some (.lst zs) ∨ SqT K H b zs) ∧ xs.length + zs.length ≤ sizeLine ∧ Q .non (upd H l (.lst (xs ++ zs)))
theorem mt_extendB : MtM X "list.extend" (rExtendB X.K) := by
  intro pins s σ H x vs v us Q I rx rv h
  obtain ⟨l, b, xs, zs, rfl, rfl, hH, hB | hB, hz, q⟩ := h
  · exact mt_extend pins s σ H _ _ v us Q I rx rv ⟨l, b, xs, zs, rfl, rfl, hH, hB, hz, q⟩
  · cases rx
    obtain ⟨u, rfl, ru⟩ := rv.one
    cases ru
    obtain ⟨z, its, n, r, hl, e⟩ := I.lstM hH
    obtain ⟨its2, r2, pl, hz2⟩ := I.tuple hB
    have hl2 := r2.length
    obtain ⟨⟨oc, od, ob, os⟩, e2, hc, n2, hd⟩ := pl
    cases hc
    cases hd
    have hsz : its.toArray.size + its2.toArray.size ≤ sizeLine := by rw [List.size_toArray, List.size_toArray]; omega
    have hlong : ¬ (!its.toArray.isEmpty && Builtin.List.listTooLong (its.toArray.size + its2.toArray.size)) = true := by
      rw [notLongL hsz, Bool.and_false]
      exact Bool.false_ne_true
    refine call_meets F.slot_list_extend ⟨_, e, rfl⟩ F.entry_list_extend (F.args_list_extend_2 _ _) (extend_tuple l b its.toArray its2.toArray n n2 od os hlong (by rw [List.size_toArray]; omega) (by omega)) ⟨e, e2, ?_⟩
    refine ⟨.non, _, I.lset (its' := its ++ its2) hH e (by simp) (r.append r2) ?_, rfl, q⟩
    rw [List.length_append]
    omega
/-- a local name, whatever its kind -/
theorem vl_local {sc : Scope} {x : Str} (h : sc.names.lookup x = some .local) : Loc sc x := .inl h
/-- a def of the text that stands behind the top and keeps its promise -/
structure Has (P : Program) (w : World) (K : PySem.W.Frag) (mg : Str → Option Value) (base : Heap) (x : Str) (k : Nat) (ps : List Str) (sp : Sp) : Prop where
  ex : ∃ f fd, FnOk P w K mg base CX0 k f fd ps sp ∧ mg x = some (.ref f) ∧ PySem.W.keepIn K (.ref f) = true ∧ Binds K fd ps []
theorem pe_callH {x : Str} {j k : Nat} {ps : List Str} {sp : Sp} {p pos : Pos} {e : Expr} {es : List Expr} {t : TA} (h : Has X.prog X.w X.K X.mg X.base x j ps sp) (hr : Room k X.A) (hg : Gl X x) (ha : PA X (e :: es) t)
    (hj : j ≤ k := by decide) (hdb : (x == ("__debug__" : Str)) = false := by decide) (he : starEach (e :: es) X.env = (false, eval e X.env) :: starEach es X.env := by rfl) (hpl : (backTo pos (starEach es X.env)).any (·.1) = false := by rfl) :
    PE X (.Call (.Name x p) (e :: es) [] pos) (tCall sp [] E0 t) := by
  obtain ⟨f, fd, F, hm, hk, hb⟩ := h.ex
  exact pe_call F (hr.mono hj) hg hm hk hb .nil pass0 ha hdb he hpl
theorem pe_callH0 {x : Str} {j k : Nat} {ps : List Str} {sp : Sp} {p pos : Pos} (h : Has X.prog X.w X.K X.mg X.base x j ps sp) (hr : Room k X.A) (hg : Gl X x) (hj : j ≤ k := by decide) (hdb : (x == ("__debug__" : Str)) = false := by decide) :
    PE X (.Call (.Name x p) [] [] pos) (tCall sp [] E0 tNil) := by
  obtain ⟨f, fd, F, hm, hk, hb⟩ := h.ex
  exact pe_call0 F (hr.mono hj) hg hm hk hb .nil pass0 hdb
/-- a class of the text whose __init__ keeps its promise -/
structure HasC (P : Program) (w : World) (K : PySem.W.Frag) (mg : Str → Option Value) (base : Heap) (x : Str) (C : Addr) (k : Nat) (ps : List Str) (sp : Sp) : Prop where
  ex : ∃ f fd, Mk K C f ∧ FnOk P w K mg base CX0 k f fd ps sp ∧ mg x = some (.ref C) ∧ Binds K fd ps []
theorem pe_makeH0 {x : Str} {C : Addr} {j k : Nat} {ps : List Str} {sp : Sp} {p pos : Pos} (h : HasC X.prog X.w X.K X.mg X.base x C j ps sp) (hr : Room k X.A) (hg : Gl X x) (hj : j + 1 ≤ k := by decide) (hdb : (x == ("__debug__" : Str)) = false := by decide) :
    PE X (.Call (.Name x p) [] [] pos) (tMake C sp [] E0 tNil) := by
  obtain ⟨f, fd, M, F, hm, hb⟩ := h.ex
  exact pe_make0 M F (hr.mono hj) hg hm hb .nil pass0 hdb
end
/-- a def as the head lays it -/
structure Def (K : PySem.W.Frag) (mg : Str → Option Value) (x : Str) (st : Stmt) (ps : List Str) : Prop where
  ex : ∃ f fd, Fun K x x st f fd ∧ mg x = some (.ref f) ∧ Binds K fd ps []
theorem Def.has {P : Program} {w : World} {K : PySem.W.Frag} {mg : Str → Option Value} {base : Heap} {x : Str} {st : Stmt} {N ps : List Str} {k : Nat} {sp : Sp} (D : Def K mg x st ps) (S : FnScope N ps (defScope st)) (len : ∀ vs H Q E, sp vs H Q E → vs.length = ps.length)
    (hbody : ∀ (f : Addr) (cdv : Value) (A : Around) (outer : List Env) (s : Shared) (H : Hp) (vs : List V) (Q : VK) (E : XK), Room k (A.deeper (envOfC x (defScope st) s.heap.objs.size f cdv)) → sp vs H Q E →
      ∃ t, PSs (cxOf CX0 P w K mg base N x (defScope st) f cdv A outer s H E).nox (defBody st) t ∧ t { nx := fun _ H' => Q .non H', rt := Q } (start N vs) H) : Has P w K mg base x (k + 1) ps sp := by
  obtain ⟨f, fd, F, hm, hb⟩ := D.ex
  exact ⟨f, fd, F.ok S len (fun cdv A outer s H vs Q E hr h => hbody f cdv A outer s H vs Q E hr h), hm, F.kp, hb⟩
end Lg
end

section
set_option Elab.async false
set_option linter.all false
set_option maxRecDepth 100000
set_option maxHeartbeats 2000000
namespace Lg
open PySem PySem.Spec PyProof.Rows L2
open Builtin.Int (intBits)
def gV (g : Gm) : List V := [.int g.v, .int g.a, .int g.b, .int g.c]
def sV (s : S3) : List V := [.int s.x, .int s.y, .int s.z]
/-- small enough for plain products -/
structure Gm.Small (g : Gm) : Prop where
  v : -(2 ^ 62) < g.v ∧ g.v < 2 ^ 62
  a : -(2 ^ 62) < g.a ∧ g.a < 2 ^ 62
  b : -(2 ^ 62) < g.b ∧ g.b < 2 ^ 62
  c : -(2 ^ 62) < g.c ∧ g.c < 2 ^ 62
theorem same_refl {H : Hp} : Same H H := fun _ _ e => e
theorem same_T {K : PySem.W.Frag} {H H' : Hp} {a : Addr} {xs : List V} (e : Same H H') (h : SqT K H a xs) : SqT K H' a xs := by
  rcases h with (h | ⟨o, h⟩) | h
  · exact .inl (.inl (e _ _ h))
  · exact .inl (.inr ⟨o, e _ _ h⟩)
  · exact .inr h
theorem same_new {H : Hp} {p : Addr} {o : HO} (h : H p = none) : Same H (upd H p o) := fun b u e => by
  rw [upd_ne (ne_of_none e h)]
  exact e
theorem same_then {H H1 : Hp} {p : Addr} {o : HO} (e : Same H H1) (h : H1 p = none) : Same H (upd H1 p o) := Same.trans e (same_new h)
theorem same_turn {H H1 : Hp} {p : Addr} {o : HO} (e : Same H H1) (h : H p = none) : Same H (upd H1 p o) := fun b u z => by
  rw [upd_ne (ne_of_none z h)]
  exact e b u z
/-- games at addresses -/
abbrev GamesAt (K : PySem.W.Frag) (H : Hp) : List Addr → List Gm → Prop := Paired fun a g => SqT K H a (gV g)
theorem games_same {K : PySem.W.Frag} {H H' : Hp} (e : Same H H') {as : List Addr} {gs : List Gm} (h : GamesAt K H as gs) : GamesAt K H' as gs := by
  induction h with
  | nil => exact .nil
  | cons h _ ih => exact .cons (same_T e h) ih
theorem games_len {K : PySem.W.Frag} {H : Hp} {as : List Addr} {gs : List Gm} (h : GamesAt K H as gs) : as.length = gs.length := by
  induction h with
  | nil => rfl
  | cons _ _ ih => rw [List.length_cons, List.length_cons, ih]
theorem games_get {K : PySem.W.Frag} {H : Hp} {as : List Addr} {gs : List Gm} (h : GamesAt K H as gs) : ∀ {i : Nat} {a : Addr}, as[i]? = some a → ∃ g, gs[i]? = some g ∧ SqT K H a (gV g) := by
  induction h with
  | nil => intro i a e; simp at e
  | @cons x y xs ys h _ ih =>
    intro i a e
    cases i with
    | zero =>
      simp at e
      subst e
      exact ⟨y, rfl, h⟩
    | succ i =>
      obtain ⟨g, h1, h2⟩ := ih (i := i) (a := a) (by simpa using e)
      exact ⟨g, by simpa using h1, h2⟩
theorem games_snoc {K : PySem.W.Frag} {H : Hp} {a : Addr} {g : Gm} (hn : SqT K H a (gV g)) {as : List Addr} {gs : List Gm} (h : GamesAt K H as gs) : GamesAt K H (as ++ [a]) (gs ++ [g]) := by
  induction h with
  | nil => exact .cons hn .nil
  | cons h _ ih => exact .cons h ih
theorem games_drop {K : PySem.W.Frag} {H : Hp} {as : List Addr} {gs : List Gm} (h : GamesAt K H as gs) : GamesAt K H as.dropLast gs.dropLast := by
  induction h with
  | nil => exact .nil
  | cons h t ih =>
    cases t with
    | nil => exact .nil
    | cons h2 t2 => exact .cons h ih
/-- a list of games -/
def RowAt (K : PySem.W.Frag) (H : Hp) (r : Addr) (row : List Gm) : Prop := ∃ as : List Addr, SqL K H r (as.map V.ref) ∧ GamesAt K H as row
theorem row_same {K : PySem.W.Frag} {H H' : Hp} {r : Addr} {row : List Gm} (e : Same H H') (h : RowAt K H r row) : RowAt K H' r row := by
  obtain ⟨as, h1, h2⟩ := h
  exact ⟨as, Same.seq e h1, games_same e h2⟩
/-! promises -/
def spLT : Sp := fun vs H Q _ => ∃ n d : Int, vs = [.int n, .int d] ∧ 0 < d ∧ intBits d ≤ 8000 ∧ ∀ p, H p = none → Q (.ref p) (upd H p (.lst [.int (n / gcdI n d), .int (d / gcdI n d)]))
def spSB (K : PySem.W.Frag) : Sp := fun vs H Q _ => ∃ (a g : Addr) (s : S3) (m : Gm), vs = [.ref a, .ref g] ∧ SqL K H a (sV s) ∧ SqT K H g (gV m) ∧ m.Small ∧ ∀ p, H p = none → Q (.ref p) (upd H p (.lst (sV (behind s m))))
def spWR (K : PySem.W.Frag) : Sp := fun vs H Q _ => ∃ (a g : Addr) (s : S3) (m : Gm), vs = [.ref a, .ref g] ∧ SqL K H a (sV s) ∧ SqT K H g (gV m) ∧ m.Small ∧ ∀ H', Same H H' → Q (.int (wonIn s m)) H'
end Lg
end

section
set_option Elab.async false
set_option linter.all false
set_option maxRecDepth 100000
set_option maxHeartbeats 2000000
namespace Lg
open PySem PySem.Spec PyProof.Rows L2
open Builtin.Int (intBits)
section
variable {σ : L2.St} {H : Hp} {Q : VK} {D : Ends} {K : PySem.W.Frag} {ta tb te to ti : TE} {i j : Int} {x y v : V} {xs ys : List V} {p a : Addr}
theorem rd_sl {r : V → Option Int → Option Int → Hp → VK → Prop} {tl th : TO} (q : te σ H fun x H1 => tl σ H1 fun l H2 => th σ H2 fun u H3 => r x l u H3 Q) : tSl r te tl th σ H Q := q
theorem rd_part {R : Option Int → Hp → Prop} (q : te σ H fun x H1 => ∃ i, x = .int i ∧ R (some i) H1) : tPart te σ H R := q
theorem rd_nopart {R : Option Int → Hp → Prop} (q : R none H) : tNoPart σ H R := q
theorem rd_ei {R : Int → Prop} (q : R i) : ∃ k, V.int i = .int k ∧ R k := ⟨i, rfl, q⟩
theorem rd_slL {lo hi : Option Int} (h : SqL K H p xs) (q : ∀ p', H p' = none → Q (.ref p') (upd H p' (.lst (cutV xs lo hi)))) : rSlL K (.ref p) lo hi H Q := ⟨p, xs, rfl, h, q⟩
theorem rd_fld {f : Str} (q : ta σ H fun x H1 => ∃ a C dx fs v, x = .ref a ∧ H1 a = some (.ins C dx fs) ∧ Cls K C ∧ NoAttr K C f ∧ fs.lookup f = some v ∧ Q v H1) : tFld K ta f σ H Q := q
theorem rd_sfld {f : Str} {tv : TE} (q : tv σ H fun y H1 => ta σ H1 fun x H2 => ∃ a C dx fs, x = .ref a ∧ H2 a = some (.ins C dx fs) ∧ Cls K C ∧ NoAttr K C f ∧ fs.length < 1000 ∧ D.nx σ (upd H2 a (.ins C dx (putF f y fs)))) : sFld K ta tv f D σ H := q
theorem rd_sfa {f : Str} {tv : TE} {rd : V → V → Hp → VK → Prop} (q : ta σ H fun x H1 => ∃ a C dx fs v, x = .ref a ∧ H1 a = some (.ins C dx fs) ∧ Cls K C ∧ NoAttr K C f ∧ fs.lookup f = some v ∧
  tv σ H1 fun y H2 => rd v y H2 fun z H3 => ∃ dx' fs', H3 a = some (.ins C dx' fs') ∧ fs'.length < 1000 ∧ D.nx σ (upd H3 a (.ins C dx' (putF f z fs')))) : sFldAug K ta tv rd f D σ H := q
theorem rd_rAdd (q : Q (.int (i + j)) H) : rAdd (.int i) (.int j) H Q := ⟨i, j, rfl, rfl, q⟩
theorem rd_rSub (q : Q (.int (i - j)) H) : rSub (.int i) (.int j) H Q := ⟨i, j, rfl, rfl, q⟩
theorem rd_all {bs : List Bool} (h : SqL K H p (bs.map V.bl)) (q : Q (.bl (bs.all id)) H) : rAll K [.ref p] H Q := ⟨p, bs, rfl, h, q⟩
theorem rd_any {bs : List Bool} (h : SqL K H p (bs.map V.bl)) (q : Q (.bl (bs.any id)) H) : rAny K [.ref p] H Q := ⟨p, bs, rfl, h, q⟩
theorem rd_sum {ns : List Int} (h : SqL K H p (ns.map V.int)) (q : Q (.int ns.sum) H) : rSum K [.ref p] H Q := ⟨p, ns, rfl, h, q⟩
theorem rd_cat {b : Addr} (h : H p = some (.lst xs)) (h2 : H b = some (.lst ys)) (hz : xs.length + ys.length ≤ sizeLine) (q : ∀ p', H p' = none → Q (.ref p') (upd H p' (.lst (xs ++ ys)))) : rCat (.ref p) (.ref b) H Q := ⟨p, b, xs, ys, rfl, rfl, h, h2, hz, q⟩
theorem rd_rep (h : H p = some (.lst xs)) (h1 : 0 ≤ i) (h2 : i < 2 ^ 62) (hz : xs.length * i.toNat ≤ sizeLine) (q : ∀ p', H p' = none → Q (.ref p') (upd H p' (.lst (List.replicate i.toNat xs).flatten))) : rRep (.ref p) (.int i) H Q := ⟨p, i, xs, rfl, rfl, h, by omega, by omega, hz, q⟩
theorem rd_yes {R : Bool → Hp → Prop} (q : R true H) : tYes σ H R := q
theorem rd_seq {t u : TS} (q : t { D with nx := u D } σ H) : tSeq t u D σ H := q
theorem rd_next (q : D.nx σ H) : tNext D σ H := q
theorem rd_asg {g : TG} (q : te σ H fun x H1 => g x σ H1 D.nx) : tAsg te g D σ H := q
theorem rd_gname {n : Nat} {R : L2.St → Hp → Prop} (q : R (σ.set n (some v)) H) : gName n v σ H R := q
theorem rd_ret (q : te σ H D.rt) : tRet te D σ H := q
theorem rd_drop (q : te σ H fun _ H1 => D.nx σ H1) : tDrop te D σ H := q
theorem rd_if {c : TT} {t u : TS} (q : c σ H fun b H1 => if b = true then t D σ H1 else u D σ H1) : tIfS c t u D σ H := q
theorem rd_var {n : Nat} (e : σ[n]? = some (some v)) (q : Q v H) : tVar n σ H Q := ⟨v, e, q⟩
theorem rd_c (q : Q v H) : tC v σ H Q := q
theorem rd_op {r : R2} (q : ta σ H fun x H1 => tb σ H1 fun y H2 => r x y H2 Q) : tOp r ta tb σ H Q := q
theorem rd_un {r : V → Hp → VK → Prop} (q : ta σ H fun x H1 => r x H1 Q) : tUn r ta σ H Q := q
theorem rd_rU {g : Int → V} (q : Q (g i) H) : rU g (.int i) H Q := ⟨i, rfl, q⟩
theorem rd_rI0 {g : Int → Int → V} (q : Q (g i j) H) : rI0 g (.int i) (.int j) H Q := ⟨i, j, rfl, rfl, q⟩
theorem rd_rI {C : Int → Int → Prop} {g : Int → Int → V} (h : C i j) (q : Q (g i j) H) : rI C g (.int i) (.int j) H Q := ⟨i, j, rfl, rfl, h, q⟩
theorem rd_eqI (q : Q (.bl (decide (i = j))) H) : rEq (.int i) (.int j) H Q := ⟨rfl, by
  have e : decide (V.int i = V.int j) = decide (i = j) := by
    by_cases h : i = j
    · subst h; simp
    · have h2 : ¬ V.int i = V.int j := fun z => h (V.int.inj z)
      rw [decide_eq_false h, decide_eq_false h2]
  rw [e]; exact q⟩
theorem rd_neI (q : Q (.bl (!decide (i = j))) H) : rNe (.int i) (.int j) H Q := ⟨rfl, by
  have e : decide (V.int i = V.int j) = decide (i = j) := by
    by_cases h : i = j
    · subst h; simp
    · have h2 : ¬ V.int i = V.int j := fun z => h (V.int.inj z)
      rw [decide_eq_false h, decide_eq_false h2]
  rw [e]; exact q⟩
theorem rd_test {R : Bool → Hp → Prop} (q : te σ H fun x H' => ∃ k, x = .bl k ∧ R k H') : tTest te σ H R := q
theorem rd_tB {R : Bool → Hp → Prop} (q : te σ H fun x H' => ∃ k, x = .bl k ∧ R k H') : tB te σ H R := q
theorem rd_bl {b : Bool} {R : Bool → Prop} (q : R b) : ∃ k, V.bl b = .bl k ∧ R k := ⟨b, rfl, q⟩
theorem rd_not {c : TT} {R : Bool → Hp → Prop} (q : c σ H fun b H1 => R (!b) H1) : tNot c σ H R := q
theorem rd_and {c d : TT} {R : Bool → Hp → Prop} (q : c σ H fun b H1 => if b = true then d σ H1 R else R false H1) : tAnd c d σ H R := q
theorem rd_or {c d : TT} {R : Bool → Hp → Prop} (q : c σ H fun b H1 => if b = true then R true H1 else d σ H1 R) : tOr c d σ H R := q
theorem rd_andV (q : ta σ H fun x H1 => ∃ c, x = .bl c ∧ if c = true then tb σ H1 Q else Q (.bl false) H1) : tAndV ta tb σ H Q := q
theorem rd_orV (q : ta σ H fun x H1 => ∃ c, x = .bl c ∧ if c = true then Q (.bl true) H1 else tb σ H1 Q) : tOrV ta tb σ H Q := q
theorem rd_cons {t : TA} {R : List V → Hp → Prop} (q : ta σ H fun x H1 => t σ H1 fun xs H2 => R (x :: xs) H2) : tCons ta t σ H R := q
theorem rd_nil {R : List V → Hp → Prop} (q : R [] H) : tNil σ H R := q
theorem rd_lst {t : TA} (q : t σ H fun xs H1 => xs.length ≤ sizeLine ∧ ∀ p, H1 p = none → Q (.ref p) (upd H1 p (.lst xs))) : tLst t σ H Q := q
theorem rd_tup {t : TA} (q : t σ H fun xs H1 => xs.length ≤ sizeLine ∧ ∀ p, H1 p = none → Q (.ref p) (upd H1 p (.tup xs))) : tTup t σ H Q := q
theorem rd_cb {r : List V → Hp → VK → Prop} {t : TA} (q : t σ H fun vs H1 => r vs H1 Q) : tCB r t σ H Q := q
theorem rd_call {sp : Sp} {E : XK} {t : TA} (q : t σ H fun vs H1 => sp vs H1 Q E) : tCall sp [] E t σ H Q := by
  unfold tCall
  simpa using q
theorem rd_sqT (h : SqT K H p xs) (e : atI xs i = some v) (q : Q v H) : rSq K (.ref p) (.int i) H Q := ⟨p, xs, i, v, rfl, rfl, .inr h, e, q⟩
theorem rd_sqL (h : SqL K H p xs) (e : atI xs i = some v) (q : Q v H) : rSq K (.ref p) (.int i) H Q := ⟨p, xs, i, v, rfl, rfl, .inl h, e, q⟩
theorem rd_augS {tget : V → V → Hp → VK → Prop} {tip : TIp} {tset : TSet}
    (q : to σ H fun o H1 => ti σ H1 fun i H2 => tget o i H2 fun x H3 => te σ H3 fun y H4 => tip x y H4 fun z H5 => tset o i z H5 fun H6 => D.nx σ H6) : tAugS to ti te tget tip tset D σ H := q
theorem rd_get (h : SqL K H p xs) (h0 : 0 ≤ i) (e : xs[i.toNat]? = some v) (q : Q v H) : rGet K (.ref p) (.int i) H Q := ⟨p, xs, i, v, rfl, rfl, h, h0, e, q⟩
theorem rd_ip {f : Int → Int → Int} (q : Q (.int (f i j)) H) : ipI f (.int i) (.int j) H Q := ⟨i, j, rfl, rfl, q⟩
theorem rd_gsub {t : TSet} {R : L2.St → Hp → Prop} (q : to σ H fun o H1 => ti σ H1 fun i H2 => t o i v H2 fun H3 => R σ H3) : gSub to ti t v σ H R := q
theorem rd_setL {n : Nat} {R : Hp → Prop} (h : H p = some (.lst xs)) (e : ixN xs.length i = some n) (q : R (upd H p (.lst (xs.set n v)))) : rSetL (.ref p) (.int i) v H R := ⟨p, xs, i, n, rfl, rfl, h, e, q⟩
theorem rd_bm {T : String} {r : V → List V → Hp → VK → Prop} {t : TA} (q : to σ H fun x H1 => tyV K T x H1 ∧ t σ H1 fun xs H2 => r x xs H2 Q) : tBM K T r to t σ H Q := q
theorem rd_bm0 {T : String} {r : V → List V → Hp → VK → Prop} (q : to σ H fun x H1 => tyV K T x H1 ∧ r x [] H1 Q) : tBM0 K T r to σ H Q := q
theorem rd_app (h : H p = some (.lst xs)) (hz : xs.length < sizeLine) (q : Q .non (upd H p (.lst (xs ++ [y])))) : rAppend (.ref p) [y] H Q := ⟨p, xs, y, rfl, rfl, h, hz, q⟩
theorem rd_lenL (h : SqL K H p xs) (q : Q (.int xs.length) H) : rLen K [.ref p] H Q := ⟨p, xs, rfl, .inl h, q⟩
end
/-- the steps that want nothing -/
local macro_rules | `(tactic| walk_at "rd") => `(tactic| repeat (first
  | with_reducible refine rd_seq ?_ | with_reducible refine rd_next ?_ | with_reducible refine rd_yes ?_ | with_reducible refine rd_sl ?_ | with_reducible refine rd_part ?_ | with_reducible refine rd_nopart ?_ | with_reducible refine rd_ei ?_ | with_reducible refine rd_fld ?_ | with_reducible refine rd_sfld ?_ | with_reducible refine rd_sfa ?_ | with_reducible refine rd_rAdd ?_ | with_reducible refine rd_rSub ?_ | with_reducible refine rd_asg ?_ | with_reducible refine rd_gname ?_ | with_reducible refine rd_ret ?_ | with_reducible refine rd_drop ?_ | with_reducible refine rd_if ?_
  | with_reducible refine rd_c ?_ | with_reducible refine rd_op ?_ | with_reducible refine rd_un ?_ | with_reducible refine rd_rU ?_ | with_reducible refine rd_rI0 ?_ | with_reducible refine rd_eqI ?_ | with_reducible refine rd_neI ?_
  | with_reducible refine rd_test ?_ | with_reducible refine rd_tB ?_ | with_reducible refine rd_bl ?_ | with_reducible refine rd_not ?_ | with_reducible refine rd_and ?_ | with_reducible refine rd_or ?_ | with_reducible refine rd_andV ?_ | with_reducible refine rd_orV ?_
  | with_reducible refine rd_cons ?_ | with_reducible refine rd_nil ?_ | with_reducible refine rd_lst ?_ | with_reducible refine rd_tup ?_ | with_reducible refine rd_cb ?_ | with_reducible refine rd_call ?_
  | with_reducible refine rd_augS ?_ | with_reducible refine rd_ip ?_ | with_reducible refine rd_gsub ?_ | with_reducible refine rd_bm ?_ | with_reducible refine rd_bm0 ?_
  | refine rd_var (by rfl) ?_))
end Lg
end

section
set_option Elab.async false
set_option linter.all false
set_option maxRecDepth 100000
set_option maxHeartbeats 2000000
namespace Lg
open PySem PySem.Spec PyProof.Rows L2
open Builtin.Int (intBits)
local macro_rules | `(tactic| walk_at "rd") => `(tactic| repeat (first
  | with_reducible refine rd_seq ?_ | with_reducible refine rd_next ?_ | with_reducible refine rd_yes ?_ | with_reducible refine rd_sl ?_ | with_reducible refine rd_part ?_ | with_reducible refine rd_nopart ?_ | with_reducible refine rd_ei ?_ | with_reducible refine rd_fld ?_ | with_reducible refine rd_sfld ?_ | with_reducible refine rd_sfa ?_ | with_reducible refine rd_rAdd ?_ | with_reducible refine rd_rSub ?_ | with_reducible refine rd_asg ?_ | with_reducible refine rd_gname ?_ | with_reducible refine rd_ret ?_ | with_reducible refine rd_drop ?_ | with_reducible refine rd_if ?_
  | with_reducible refine rd_c ?_ | with_reducible refine rd_op ?_ | with_reducible refine rd_un ?_ | with_reducible refine rd_rU ?_ | with_reducible refine rd_rI0 ?_ | with_reducible refine rd_eqI ?_ | with_reducible refine rd_neI ?_
  | with_reducible refine rd_test ?_ | with_reducible refine rd_tB ?_ | with_reducible refine rd_bl ?_ | with_reducible refine rd_not ?_ | with_reducible refine rd_and ?_ | with_reducible refine rd_or ?_ | with_reducible refine rd_andV ?_ | with_reducible refine rd_orV ?_
  | with_reducible refine rd_cons ?_ | with_reducible refine rd_nil ?_ | with_reducible refine rd_lst ?_ | with_reducible refine rd_tup ?_ | with_reducible refine rd_cb ?_ | with_reducible refine rd_call ?_
  | with_reducible refine rd_augS ?_ | with_reducible refine rd_ip ?_ | with_reducible refine rd_gsub ?_ | with_reducible refine rd_bm ?_ | with_reducible refine rd_bm0 ?_
  | refine rd_var (by rfl) ?_))

def top (i : Nat) : Stmt := PySem.Challenge.pw_losinggames_s01_answers.main.body.getD i (.Pass ⟨0, 0, 0, 0⟩)
/-- the names of Python's own that the text leaves as they are; its written numbers -/
structure Txt (K : PySem.W.Frag) (mg : Str → Option Value) (ad : String → Addr) : Prop where
  n_abs : mg "abs" = none
  n_range : mg "range" = none
  n_sum : mg "sum" = none
  n_len : mg "len" = none
  n_all : mg "all" = none
  n_any : mg "any" = none
  n_tuple : mg "tuple" = none
  n_list : mg "list" = none
  n_max : mg "max" = none
  n_min : mg "min" = none
  n_sorted : mg "sorted" = none
  g_GAME : ∃ t, mg "GAME" = some (.int 0 t)
  g_DROP : ∃ t, mg "DROP" = some (.int 1 t)
  g_HAVE : ∃ t, mg "HAVE" = some (.int 2 t)
  g_PLAY : ∃ t, mg "PLAY" = some (.int 3 t)
  g_SHOWS : ∃ t, mg "SHOWS" = some (.int 4 t)
  g_GAIN : ∃ t, mg "GAIN" = some (.int 5 t)
  g_RESTS : ∃ t, mg "RESTS" = some (.int 6 t)
  g_MIX : ∃ t, mg "MIX" = some (.int 7 t)
  g_BEST : ∃ t, mg "BEST" = some (.int 8 t)
  g_AFTER : ∃ t, mg "AFTER" = some (.int 9 t)
  g_LOSES : ∃ t, mg "LOSES" = some (.int 11 t)
  g_MOST_GAMES : ∃ t, mg "MOST_GAMES" = some (.int 4 t)
  g_MOST_IN_ROW : ∃ t, mg "MOST_IN_ROW" = some (.int 6 t)
  g_LEAST_V : ∃ t, mg "LEAST_V" = some (.int 2 t)
  g_MOST_V : ∃ t, mg "MOST_V" = some (.int 100 t)
  g_MOST_HAD : ∃ t, mg "MOST_HAD" = some (.int 1000000 t)
  g_MOST_WEIGHT : ∃ t, mg "MOST_WEIGHT" = some (.int 9 t)
  g_MOST_IN_BEST : ∃ t, mg "MOST_IN_BEST" = some (.int 4 t)
  g_MOST_ROUNDS : ∃ t, mg "MOST_ROUNDS" = some (.int 30 t)
  g_NUMBERS : mg "NUMBERS" = some (.ref (ad "NUMBERS"))
  t_NUMBERS : ∀ H, SqT K H (ad "NUMBERS") [.int 4, .int 0, .int 1, .int 2, .int 0, .int 0, .int 0, .int 0, .int 1, .int 1, .int 2, .int 0]
  g_WITH_ROW : mg "WITH_ROW" = some (.ref (ad "WITH_ROW"))
  t_WITH_ROW : ∀ H, SqT K H (ad "WITH_ROW") [.bl false, .bl false, .bl false, .bl false, .bl false, .bl true, .bl true, .bl true, .bl false, .bl true, .bl true, .bl true]
section
variable {P : Program} {w : World} {K : PySem.W.Frag} {mg : Str → Option Value} {base : Heap} {ad : String → Addr}
abbrev st_lowest_terms : Stmt := top 1
abbrev nm_lowest_terms : List Str := ["above", "below", "divisor", "rest", "remainder"]
abbrev ps_of_lowest_terms : List Str := ["above", "below"]
theorem sc_lowest_terms : FnScope nm_lowest_terms ps_of_lowest_terms (defScope st_lowest_terms) := ⟨rfl, rfl, rfl, by decide +kernel, rfl, by decide +kernel, by decide +kernel⟩
theorem gcd_step {a b : Int} {G : Nat} (ha : 0 ≤ a) (hb : 0 < b) (h : Nat.gcd a.toNat b.toNat = G) : Nat.gcd b.toNat (a % b).toNat = G := by
  rw [← h, Nat.gcd_comm a.toNat, Nat.gcd_rec b.toNat a.toNat, Nat.gcd_comm]
  congr 1
  rw [← Int.toNat_emod (by omega) (by omega)]
theorem ok_lowest_terms (T : Txt K mg ad) (D : Def K mg "lowest_terms" st_lowest_terms ps_of_lowest_terms) : Has P w K mg base "lowest_terms" 1 ps_of_lowest_terms spLT := by
  refine D.has sc_lowest_terms (fun vs H Q E h => ?_) (fun f cdv A outer s H vs Q E hr h => ?_)
  · obtain ⟨n, d, rfl, _⟩ := h
    rfl
  · obtain ⟨n, d, rfl, hd, hb, k⟩ := h
    refine ⟨_, (pss_cons (ps_set (i := 2) sc_lowest_terms.nd rfl (by first | exact Or.inl rfl | exact Or.inr rfl) (pe_callB call_abs (by rfl) T.n_abs bt_abs (pa_cons (pv 0) pa_nil)))
    (pss_cons (ps_set (i := 3) sc_lowest_terms.nd rfl (by first | exact Or.inl rfl | exact Or.inr rfl) (pv 1))
    (pss_cons (ps_while PassesOwn.never (pt_cmpR op_ne (pv 3) pe_int (nomark _)) (pss_cons (ps_set (i := 4) sc_lowest_terms.nd rfl (by first | exact Or.inl rfl | exact Or.inr rfl) (pe_op op_mod (pv 2) (pv 3)))
      (pss_cons (ps_set (i := 2) sc_lowest_terms.nd rfl (by first | exact Or.inl rfl | exact Or.inr rfl) (pv 3))
      (pss_one (ps_set (i := 3) sc_lowest_terms.nd rfl (by first | exact Or.inl rfl | exact Or.inr rfl) (pv 4))))))
    (pss_one (ps_ret (pe_lst (pa_cons (pe_op op_fdivB (pv 0) (pv 2)) (pa_cons (pe_op op_fdivB (pv 1) (pv 2)) pa_nil)))))))), ?_⟩
    walk_at "rd"
    refine ⟨n, rfl, ?_⟩
    walk_at "rd"
    refine while_by (fun σ H' => ∃ (a b : Int) (r : Option V), σ = [some (.int n), some (.int d), some (.int a), some (.int b), r] ∧ H' = H ∧ 0 ≤ a ∧ 0 ≤ b ∧ Nat.gcd a.toNat b.toNat = Nat.gcd n.natAbs d.toNat)
      (fun σ _ => match σ with | [_, _, _, some (.int b), _] => b.toNat | _ => 0) ?_ ?_ ?_
    · refine ⟨_, _, _, rfl, rfl, ?_, by omega, ?_⟩
      · split <;> omega
      · congr 1
        split <;> omega
    · rintro σ H' ⟨a, b, r, rfl, rfl, ha, hb0, hg⟩
      walk_at "rd"
      refine ite2 (fun hc => ?_) (fun hc => ?_)
      · have hb1 : 0 < b := by
          have : ¬ b = 0 := by simpa using hc
          omega
        walk_at "rd"
        refine rd_rI hb1 ?_
        walk_at "rd"
        refine ⟨⟨b, a % b, _, rfl, rfl, hb0, Int.emod_nonneg _ (by omega), gcd_step ha hb1 hg⟩, ?_⟩
        show (a % b).toNat < b.toNat
        have := Int.emod_lt_of_pos a hb1
        omega
      · have hb1 : b = 0 := by simpa using hc
        subst hb1
        have ea : a = gcdI n d := by
          unfold gcdI
          rw [← hg]
          show a = ((Nat.gcd a.toNat 0 : Nat) : Int)
          rw [Nat.gcd_zero_right, Int.toNat_of_nonneg ha]
        have hbits : intBits a ≤ 8000 := by
          have h1 := gcdI_pos (n := n) hd
          have h2 := gcdI_le (n := n) hd
          exact intBits_le_of_natAbs (by omega) hb
        have h0 : 0 < a := by rw [ea]; exact gcdI_pos hd
        walk_at "rd"
        refine rd_rI ⟨h0, hbits⟩ ?_
        walk_at "rd"
        refine rd_rI ⟨h0, hbits⟩ ?_
        walk_at "rd"
        refine ⟨by show 2 ≤ sizeLine; decide, fun p hp => ?_⟩
        rw [ea]
        exact k p hp
    · rintro σ H' R R' hi ⟨v, h1, h2, z, h3, q⟩
      exact ⟨v, h1, h2, z, h3, hi _ _ q⟩
abbrev st_shares_behind : Stmt := top 2
abbrev nm_shares_behind : List Str := ["shares", "game", "v", "behind", "rest", "won"]
abbrev ps_of_shares_behind : List Str := ["shares", "game"]
theorem sc_shares_behind : FnScope nm_shares_behind ps_of_shares_behind (defScope st_shares_behind) := ⟨rfl, rfl, rfl, by decide +kernel, rfl, by decide +kernel, by decide +kernel⟩
/-- the three shares behind some turns -/
def part (s : S3) (m : Gm) (i : Nat) : List V :=
  if i = 0 then [.int 0, .int 0, .int 0]
  else if i = 1 then [.int 0, .int (0 + s.x * m.a), .int (0 + s.x * (m.v - m.a))]
  else if i = 2 then [.int (0 + s.y * (m.v - m.b)), .int (0 + s.x * m.a), .int (0 + s.x * (m.v - m.a) + s.y * m.b)]
  else [.int (0 + s.y * (m.v - m.b) + s.z * m.c), .int (0 + s.x * m.a + s.z * (m.v - m.c)), .int (0 + s.x * (m.v - m.a) + s.y * m.b)]
theorem part_end (s : S3) (m : Gm) : part s m 3 = sV (behind s m) := by
  unfold part sV behind
  simp
theorem mul_r {i j : Int} (h : -(2 ^ 62) < j ∧ j < 2 ^ 62) : CMulB i j := .inl (.inr ⟨by omega, by omega⟩)
theorem mul_d {i j k : Int} (h : -(2 ^ 62) < j ∧ j < 2 ^ 62) (h2 : -(2 ^ 62) < k ∧ k < 2 ^ 62) : CMulB i (j - k) := .inl (.inr ⟨by omega, by omega⟩)
theorem ok_shares_behind (T : Txt K mg ad) (D : Def K mg "shares_behind" st_shares_behind ps_of_shares_behind) : Has P w K mg base "shares_behind" 1 ps_of_shares_behind (spSB K) := by
  refine D.has sc_shares_behind (fun vs H Q E h => ?_) (fun f cdv A outer s H vs Q E hr h => ?_)
  · obtain ⟨a, g, s, m, rfl, _⟩ := h
    rfl
  · obtain ⟨a, g, S, m, rfl, hS, hG, hm, k⟩ := h
    refine ⟨_, (pss_cons (ps_set (i := 2) sc_shares_behind.nd rfl (by first | exact Or.inl rfl | exact Or.inr rfl) (pe_ix (ix_sqK (K := K) rfl) (pv 1) pe_int (fun _ _ => rfl)))
    (pss_cons (ps_set (i := 3) sc_shares_behind.nd rfl (by first | exact Or.inl rfl | exact Or.inr rfl) (pe_lst (pa_cons pe_int (pa_cons pe_int (pa_cons pe_int pa_nil)))))
    (pss_cons (ps_for PassesOwn.never rfl (pi_range1 rfl T.n_range (pa_cons pe_int pa_nil)) (pg_name (i := 4) sc_shares_behind.nd rfl (by first | exact Or.inl rfl | exact Or.inr rfl)) (pss_cons (ps_set (i := 5) sc_shares_behind.nd rfl (by first | exact Or.inl rfl | exact Or.inr rfl) (pe_ix (ix_sqK (K := K) rfl) (pv 1) (pe_op op_add pe_int (pv 4)) (fun _ _ => rfl)))
      (pss_cons (ps_augS (pv 3) (pe_op op_mod (pe_op op_add (pv 4) pe_int) pe_int) get_list (pe_op op_mulB (pe_ix (ix_sqK (K := K) rfl) (pv 0) (pv 4) (fun _ _ => rfl)) (pv 5)) ip_add set_list)
      (pss_one (ps_augS (pv 3) (pe_op op_mod (pe_op op_add (pv 4) pe_int) pe_int) get_list (pe_op op_mulB (pe_ix (ix_sqK (K := K) rfl) (pv 0) (pv 4) (fun _ _ => rfl)) (pe_op op_sub (pv 2) (pv 5))) ip_add set_list)))))
    (pss_one (ps_ret (pv 3)))))), ?_⟩
    walk_at "rd"
    refine rd_sqT hG rfl ?_
    walk_at "rd"
    refine ⟨by show 3 ≤ sizeLine; decide, fun p hp => ?_⟩
    walk_at "rd"
    have hS' : ∀ l, SqL K (upd H p l) a (sV S) := fun l => Same.seq (same_new hp) hS
    have hG' : ∀ l, SqT K (upd H p l) g (gV m) := fun l => same_T (same_new hp) hG
    refine ⟨3, rfl, by decide, by decide, for_range (lo := 0) (n := 3) (fun i σ H' => ∃ r w' : Option V, σ = [some (.ref a), some (.ref g), some (.int m.v), some (.ref p), r, w'] ∧ H' = upd H p (.lst (part S m i)))
      ⟨none, none, rfl, rfl⟩ ?_ ?_⟩
    · rintro i σ H' hi ⟨r, w', rfl, rfl⟩
      walk_at "rd"
      match i, hi with
      | 0, _ =>
        refine rd_sqT (hG' _) rfl ?_
        walk_at "rd"
        refine rd_rI (by decide) ?_
        refine rd_get (SqL.of upd_same) (by decide) rfl ?_
        walk_at "rd"
        refine rd_sqL (hS' _) rfl ?_
        walk_at "rd"
        refine rd_rI (mul_r hm.a) ?_
        walk_at "rd"
        refine rd_setL upd_same rfl ?_
        walk_at "rd"
        refine rd_rI (by decide) ?_
        rw [upd_upd]
        refine rd_get (SqL.of upd_same) (by decide) rfl ?_
        walk_at "rd"
        refine rd_sqL (hS' _) rfl ?_
        walk_at "rd"
        refine rd_rI (mul_d hm.v hm.a) ?_
        walk_at "rd"
        refine rd_setL upd_same rfl ?_
        refine ⟨_, _, rfl, ?_⟩
        rw [upd_upd]
        rfl
      | 1, _ =>
        refine rd_sqT (hG' _) rfl ?_
        walk_at "rd"
        refine rd_rI (by decide) ?_
        refine rd_get (SqL.of upd_same) (by decide) rfl ?_
        walk_at "rd"
        refine rd_sqL (hS' _) rfl ?_
        walk_at "rd"
        refine rd_rI (mul_r hm.b) ?_
        walk_at "rd"
        refine rd_setL upd_same rfl ?_
        walk_at "rd"
        refine rd_rI (by decide) ?_
        rw [upd_upd]
        refine rd_get (SqL.of upd_same) (by decide) rfl ?_
        walk_at "rd"
        refine rd_sqL (hS' _) rfl ?_
        walk_at "rd"
        refine rd_rI (mul_d hm.v hm.b) ?_
        walk_at "rd"
        refine rd_setL upd_same rfl ?_
        refine ⟨_, _, rfl, ?_⟩
        rw [upd_upd]
        rfl
      | 2, _ =>
        refine rd_sqT (hG' _) rfl ?_
        walk_at "rd"
        refine rd_rI (by decide) ?_
        refine rd_get (SqL.of upd_same) (by decide) rfl ?_
        walk_at "rd"
        refine rd_sqL (hS' _) rfl ?_
        walk_at "rd"
        refine rd_rI (mul_r hm.c) ?_
        walk_at "rd"
        refine rd_setL upd_same rfl ?_
        walk_at "rd"
        refine rd_rI (by decide) ?_
        rw [upd_upd]
        refine rd_get (SqL.of upd_same) (by decide) rfl ?_
        walk_at "rd"
        refine rd_sqL (hS' _) rfl ?_
        walk_at "rd"
        refine rd_rI (mul_d hm.v hm.c) ?_
        walk_at "rd"
        refine rd_setL upd_same rfl ?_
        refine ⟨_, _, rfl, ?_⟩
        rw [upd_upd]
        rfl
    · rintro σ H' ⟨r, w', rfl, rfl⟩
      walk_at "rd"
      rw [part_end]
      exact k p hp
abbrev st_won_in_round : Stmt := top 3
abbrev nm_won_in_round : List Str := ["shares", "game", "v", "rest"]
abbrev ps_of_won_in_round : List Str := ["shares", "game"]
theorem sc_won_in_round : FnScope nm_won_in_round ps_of_won_in_round (defScope st_won_in_round) := ⟨rfl, rfl, rfl, by decide +kernel, rfl, by decide +kernel, by decide +kernel⟩
/-- the three terms of a round's winnings -/
def wons (s : S3) (m : Gm) : List Int := [s.x * (2 * m.a - m.v), s.y * (2 * m.b - m.v), s.z * (2 * m.c - m.v)]
theorem wons_sum (s : S3) (m : Gm) : (wons s m).sum = wonIn s m := by
  unfold wons wonIn
  simp [List.sum_cons, Int.add_assoc]
theorem mul_2 {j k : Int} (h : -(2 ^ 62) < j ∧ j < 2 ^ 62) (h2 : -(2 ^ 62) < k ∧ k < 2 ^ 62) {i : Int} : CMulB i (2 * j - k) := .inl (.inr ⟨by omega, by omega⟩)
theorem ok_won_in_round (T : Txt K mg ad) (D : Def K mg "won_in_round" st_won_in_round ps_of_won_in_round) : Has P w K mg base "won_in_round" 1 ps_of_won_in_round (spWR K) := by
  refine D.has sc_won_in_round (fun vs H Q E h => ?_) (fun f cdv A outer s H vs Q E hr h => ?_)
  · obtain ⟨a, g, s, m, rfl, _⟩ := h
    rfl
  · obtain ⟨a, g, S, m, rfl, hS, hG, hm, k⟩ := h
    refine ⟨_, (pss_cons (ps_set (i := 2) sc_won_in_round.nd rfl (by first | exact Or.inl rfl | exact Or.inr rfl) (pe_ix (ix_sqK (K := K) rfl) (pv 1) pe_int (fun _ _ => rfl)))
    (pss_one (ps_ret (pe_callB (cr_sumK (K := K) rfl rfl) (by rfl) T.n_sum bt_sum (pa_cons (pe_lc rfl sc_won_in_round.nd (pi_range1 rfl T.n_range (pa_cons pe_int pa_nil)) (blkOk_by (own := [("rest", 3)]) (by show blkC nm_won_in_round (defScope st_won_in_round) _ _ = true; decide +kernel)) (fun _ _ _ _ _ => pg_name (i := 3) sc_won_in_round.nd rfl (by first | exact Or.inl rfl | exact Or.inr rfl)) (fun _ _ _ _ _ => pts_nil) (fun _ _ _ _ _ => (pe_op op_mulB (pe_ix (ix_sqK (K := K) rfl) (pv 0) (pv 3) (fun _ _ => rfl)) (pe_op op_sub (pe_op op_mulB pe_int (pe_ix (ix_sqK (K := K) rfl) (pv 1) (pe_op op_add pe_int (pv 3)) (fun _ _ => rfl))) (pv 2))))) pa_nil))))), ?_⟩
    walk_at "rd"
    refine rd_sqT hG rfl ?_
    walk_at "rd"
    refine ⟨3, rfl, by decide, by decide, fun p hp => lc_range (lo := 0) (n := 3) (fun i H' => H' = upd H p (.lst (((wons S m).take i).map V.int))) rfl ?_ ?_⟩
    · rintro i H' hi rfl
      have hS' : ∀ l, SqL K (upd H p l) a (sV S) := fun l => Same.seq (same_new hp) hS
      have hG' : ∀ l, SqT K (upd H p l) g (gV m) := fun l => same_T (same_new hp) hG
      walk_at "rd"
      refine ⟨rfl, ?_⟩
      walk_at "rd"
      refine iteT ?_
      walk_at "rd"
      match i, hi with
      | 0, _ =>
        refine rd_sqL (hS' _) rfl ?_
        walk_at "rd"
        refine rd_sqT (hG' _) rfl ?_
        refine rd_rI (mul_r hm.a) ?_
        walk_at "rd"
        refine rd_rI (mul_2 hm.a hm.v) ?_
        refine ⟨_, upd_same, by show 0 < sizeLine; decide, ?_⟩
        rw [upd_upd]
        rfl
      | 1, _ =>
        refine rd_sqL (hS' _) rfl ?_
        walk_at "rd"
        refine rd_sqT (hG' _) rfl ?_
        refine rd_rI (mul_r hm.b) ?_
        walk_at "rd"
        refine rd_rI (mul_2 hm.b hm.v) ?_
        refine ⟨_, upd_same, by show 1 < sizeLine; decide, ?_⟩
        rw [upd_upd]
        rfl
      | 2, _ =>
        refine rd_sqL (hS' _) rfl ?_
        walk_at "rd"
        refine rd_sqT (hG' _) rfl ?_
        refine rd_rI (mul_r hm.c) ?_
        walk_at "rd"
        refine rd_rI (mul_2 hm.c hm.v) ?_
        refine ⟨_, upd_same, by show 2 < sizeLine; decide, ?_⟩
        rw [upd_upd]
        rfl
    · rintro H' rfl
      walk_at "rd"
      refine ⟨p, wons S m, rfl, SqL.of upd_same, ?_⟩
      rw [wons_sum]
      exact k _ (same_new hp)
abbrev st_moves_of_row : Stmt := top 4
abbrev nm_moves_of_row : List Str := ["row", "moves", "first", "shares", "game"]
abbrev ps_of_moves_of_row : List Str := ["row"]
theorem sc_moves_of_row : FnScope nm_moves_of_row ps_of_moves_of_row (defScope st_moves_of_row) := ⟨rfl, rfl, rfl, by decide +kernel, rfl, by decide +kernel, by decide +kernel⟩
theorem behindAll_take {row : List Gm} {j : Nat} {m : Gm} (h : row[j]? = some m) (s : S3) : behindAll (row.take (j + 1)) s = behind (behindAll (row.take j) s) m := by
  unfold behindAll
  rw [List.take_succ, h]
  simp
def spMR (K : PySem.W.Frag) : Sp := fun vs H Q _ => ∃ (r : Addr) (row : List Gm), vs = [.ref r] ∧ RowAt K H r row ∧ (∀ g ∈ row, g.Small) ∧
  ∀ (H' : Hp) (p p0 p1 p2 : Addr), Same H H' → H' p = some (.lst [.ref p0, .ref p1, .ref p2]) → H' p0 = some (.lst (sV (mv row 0))) → H' p1 = some (.lst (sV (mv row 1))) → H' p2 = some (.lst (sV (mv row 2))) → Q (.ref p) H'
theorem unit_set {i : Nat} (h : i < 3) : ([V.int 0, V.int 0, V.int 0] : List V).set i (.int 1) = sV (unit i) := by
  match i, h with
  | 0, _ => rfl
  | 1, _ => rfl
  | 2, _ => rfl
theorem ixN_lt {n i : Nat} (h : i < n) : ixN n (0 + (i : Int)) = some i := by
  unfold ixN
  rw [if_pos (by omega), if_pos (by omega)]
  congr 1
  omega
theorem ok_moves_of_row (T : Txt K mg ad) (D : Def K mg "moves_of_row" st_moves_of_row ps_of_moves_of_row) (C_shares_behind : Has P w K mg base "shares_behind" 1 ps_of_shares_behind (spSB K)) :
    Has P w K mg base "moves_of_row" 2 ps_of_moves_of_row (spMR K) := by
  refine D.has sc_moves_of_row (fun vs H Q E h => ?_) (fun f cdv A outer s H vs Q E hr h => ?_)
  · obtain ⟨r, row, rfl, _⟩ := h
    rfl
  · obtain ⟨r, row, rfl, ⟨as, hL, hA⟩, hm, k⟩ := h
    refine ⟨_, (pss_cons (ps_set (i := 1) sc_moves_of_row.nd rfl (by first | exact Or.inl rfl | exact Or.inr rfl) (pe_lst pa_nil))
    (pss_cons (ps_for PassesOwn.never rfl (pi_range1 rfl T.n_range (pa_cons pe_int pa_nil)) (pg_name (i := 2) sc_moves_of_row.nd rfl (by first | exact Or.inl rfl | exact Or.inr rfl)) (pss_cons (ps_set (i := 3) sc_moves_of_row.nd rfl (by first | exact Or.inl rfl | exact Or.inr rfl) (pe_lst (pa_cons pe_int (pa_cons pe_int (pa_cons pe_int pa_nil)))))
      (pss_cons (ps_asg pe_int (pg_sub (pv 3) (pv 2) set_list))
      (pss_cons (ps_for PassesOwn.never rfl (pi_list (pv 0)) (pg_name (i := 4) sc_moves_of_row.nd rfl (by first | exact Or.inl rfl | exact Or.inr rfl)) (pss_one (ps_set (i := 3) sc_moves_of_row.nd rfl (by first | exact Or.inl rfl | exact Or.inr rfl) (pe_callH C_shares_behind hr rfl (pa_cons (pv 3) (pa_cons (pv 4) pa_nil))))))
      (pss_one (ps_expr (pe_bm PySem.F.plainAttrs_list PySem.F.slot_list_append PySem.F.type_list_append mt_append (pv 1) (pa_cons (pv 3) pa_nil))))))))
    (pss_one (ps_ret (pv 1))))), ?_⟩
    walk_at "rd"
    refine ⟨Nat.zero_le _, fun p hp => ?_⟩
    walk_at "rd"
    refine ⟨3, rfl, by decide, by decide, for_range (lo := 0) (n := 3) (fun i σ H' => ∃ (o1 o2 o3 : Option V) (ps : List Addr), σ = [some (.ref r), some (.ref p), o1, o2, o3] ∧ ps.length = i ∧ H' p = some (.lst (ps.map V.ref)) ∧ Same H H' ∧ ∀ (j : Nat) (q : Addr), ps[j]? = some q → H' q = some (.lst (sV (mv row j))))
      ⟨none, none, none, [], rfl, rfl, upd_same, same_new hp, by intro j q h; simp at h⟩ ?_ ?_⟩
    · rintro i σ H1 hi ⟨o1, o2, o3, ps, rfl, hl, hP, sm, hq⟩
      walk_at "rd"
      refine ⟨by show 3 ≤ sizeLine; decide, fun q hq0 => ?_⟩
      walk_at "rd"
      refine rd_setL upd_same (ixN_lt hi) ?_
      rw [upd_upd, unit_set hi]
      walk_at "rd"
      have sm1 : Same H1 (upd H1 q (.lst (sV (unit i)))) := same_new hq0
      refine ⟨_, rfl, r, rfl, ⟨_, Same.seq sm1 (Same.seq sm hL)⟩, for_list (K := K) (a := r) (xs := as.map V.ref) (fun j σ H2 => ∃ (o : Option V) (q : Addr), σ = [some (.ref r), some (.ref p), some (.int (0 + (i : Int))), some (.ref q), o] ∧ Same H1 H2 ∧ H2 q = some (.lst (sV (behindAll (row.take j) (unit i)))))
        ⟨_, q, rfl, sm1, by rw [upd_same]; rfl⟩ (fun j σ H2 _ ⟨_, _, _, s2, _⟩ => Same.seq s2 (Same.seq sm hL)) ?_ ?_⟩
      · rintro j x σ H2 hj ⟨o, q2, rfl, s2, hq2⟩
        obtain ⟨a, ha, rfl⟩ : ∃ a, as[j]? = some a ∧ x = V.ref a := by
          rw [List.getElem?_map] at hj
          cases e : as[j]? with
          | none => rw [e] at hj; cases hj
          | some a => rw [e] at hj; exact ⟨a, rfl, (Option.some.inj hj).symm⟩
        obtain ⟨m, hm1, hm2⟩ := games_get hA ha
        walk_at "rd"
        refine ⟨q2, a, _, m, rfl, SqL.of hq2, same_T s2 (same_T sm hm2), hm m (List.mem_of_getElem? hm1), fun q3 hq3 => ?_⟩
        walk_at "rd"
        refine ⟨_, q3, rfl, same_then s2 hq3, ?_⟩
        rw [upd_same, behindAll_take hm1]
      · rintro σ H2 ⟨o, q2, rfl, s2, hq2⟩
        rw [List.length_map, games_len hA, List.take_length] at hq2
        walk_at "rd"
        have hp2 := s2 _ _ hP
        refine ⟨.inl ⟨rfl, _, SqL.of hp2⟩, ?_⟩
        walk_at "rd"
        have hne : ∀ (b : Addr) (z : S3), H2 b = some (.lst (sV z)) → b ≠ p := fun b z hb e => by
          subst e
          rw [hb] at hp2
          have := HO.lst.inj (Option.some.inj hp2)
          cases ps <;> simp [sV] at this
        refine rd_app hp2 (by rw [List.length_map, hl]; exact Nat.lt_of_lt_of_le hi (by show 3 ≤ sizeLine; decide)) ?_
        refine ⟨_, _, _, ps ++ [q2], rfl, by simp [hl], ?_, ?_, ?_⟩
        · rw [upd_same, List.map_append]
          rfl
        · exact same_turn (Same.trans sm s2) hp
        · intro j b hb
          by_cases hj : j < ps.length
          · rw [List.getElem?_append_left hj] at hb
            have h1 := s2 _ _ (hq j b hb)
            rw [upd_ne (hne b _ h1)]
            exact h1
          · rw [List.getElem?_append_right (by omega)] at hb
            have ej : j = ps.length := by
              have := (List.getElem?_eq_some_iff.mp hb).1
              simp at this
              omega
            subst ej
            simp at hb
            subst hb
            rw [upd_ne (hne q2 _ hq2), hq2, hl]
            rfl
    · rintro σ H1 ⟨o1, o2, o3, ps, rfl, hl, hP, sm, hq⟩
      walk_at "rd"
      match ps, hl with
      | [p0, p1, p2], _ => exact k H1 p p0 p1 p2 sm hP (hq 0 p0 rfl) (hq 1 p1 rfl) (hq 2 p2 rfl)
end
end Lg
end

section
set_option Elab.async false
set_option linter.all false
set_option maxRecDepth 100000
set_option maxHeartbeats 200000
namespace Lg
open PySem PySem.Spec PyProof.Rows L2
open Builtin.Int (intBits)
local macro_rules | `(tactic| walk_at "rd") => `(tactic| repeat (first
  | with_reducible refine rd_seq ?_ | with_reducible refine rd_next ?_ | with_reducible refine rd_yes ?_ | with_reducible refine rd_sl ?_ | with_reducible refine rd_part ?_ | with_reducible refine rd_nopart ?_ | with_reducible refine rd_ei ?_ | with_reducible refine rd_fld ?_ | with_reducible refine rd_sfld ?_ | with_reducible refine rd_sfa ?_ | with_reducible refine rd_rAdd ?_ | with_reducible refine rd_rSub ?_ | with_reducible refine rd_asg ?_ | with_reducible refine rd_gname ?_ | with_reducible refine rd_ret ?_ | with_reducible refine rd_drop ?_ | with_reducible refine rd_if ?_
  | with_reducible refine rd_c ?_ | with_reducible refine rd_op ?_ | with_reducible refine rd_un ?_ | with_reducible refine rd_rU ?_ | with_reducible refine rd_rI0 ?_ | with_reducible refine rd_eqI ?_ | with_reducible refine rd_neI ?_
  | with_reducible refine rd_test ?_ | with_reducible refine rd_tB ?_ | with_reducible refine rd_bl ?_ | with_reducible refine rd_not ?_ | with_reducible refine rd_and ?_ | with_reducible refine rd_or ?_ | with_reducible refine rd_andV ?_ | with_reducible refine rd_orV ?_
  | with_reducible refine rd_cons ?_ | with_reducible refine rd_nil ?_ | with_reducible refine rd_lst ?_ | with_reducible refine rd_tup ?_ | with_reducible refine rd_cb ?_ | with_reducible refine rd_call ?_
  | with_reducible refine rd_augS ?_ | with_reducible refine rd_ip ?_ | with_reducible refine rd_gsub ?_ | with_reducible refine rd_bm ?_ | with_reducible refine rd_bm0 ?_
  | refine rd_var (by rfl) ?_))

section
variable {P : Program} {w : World} {K : PySem.W.Frag} {mg : Str → Option Value} {base : Heap} {ad : String → Addr}
abbrev st_lasting_shares : Stmt := top 5
abbrev nm_lasting_shares : List Str := ["row", "moves", "shares", "rest", "one", "other", "both_straight", "one_by_other", "other_by_one"]
abbrev ps_of_lasting_shares : List Str := ["row"]
theorem sc_lasting_shares : FnScope nm_lasting_shares ps_of_lasting_shares (defScope st_lasting_shares) := ⟨rfl, rfl, rfl, by decide +kernel, rfl, by decide +kernel, by decide +kernel⟩
def spLS (K : PySem.W.Frag) : Sp := fun vs H Q _ => ∃ (r : Addr) (row : List Gm), vs = [.ref r] ∧ RowAt K H r row ∧ (∀ g ∈ row, g.Fit) ∧ row ≠ [] ∧ row.length ≤ 6 ∧
  ∀ (H' : Hp) (p : Addr), Same H H' → H' p = some (.lst (sV (lasting row))) → Q (.ref p) H'
theorem Gm.Fit.small {g : Gm} (h : g.Fit) : g.Small := by
  obtain ⟨⟨a0, a1, b0, b1, c0, c1⟩, v⟩ := h
  constructor <;> omega
structure S3.Bits (s : S3) : Prop where
  x : intBits s.x ≤ 100000
  y : intBits s.y ≤ 100000
  z : intBits s.z ≤ 100000
theorem bits_of {e : Int} (h0 : 0 ≤ e) (h : e ≤ 2 ^ 360) : intBits e ≤ 100000 := by
  refine Nat.le_trans (intBits_le_iff (m := 400).mpr ?_) (by decide)
  have h2 : (2 : Int) ^ 360 < 2 ^ 400 := by decide +kernel
  have h3 : e < ((2 ^ 400 : Nat) : Int) := Int.lt_of_le_of_lt h h2
  omega
theorem vprod_fit {row : List Gm} (h : ∀ g ∈ row, g.Fit) (hl : row.length ≤ 6) : vprod row ≤ 2 ^ 360 := by
  refine Int.le_trans (vprod_leB (B := 2 ^ 60) (by decide) fun g hg => ⟨(h g hg).ok.v0, (h g hg).v⟩) ?_
  rw [← Int.pow_mul]
  have : (2 : Nat) ^ (60 * row.length) ≤ 2 ^ 360 := Nat.pow_le_pow_right (by decide) (by omega)
  exact_mod_cast this
theorem mv_bits {row : List Gm} (h : ∀ g ∈ row, g.Fit) (hne : row ≠ []) (hl : row.length ≤ 6) {i : Nat} (hi : i < 3) : (mv row i).Bits := by
  have q := mv_in (fun g hg => (h g hg).ok) hne hi
  have v := vprod_fit h hl
  exact ⟨bits_of q.x.1 (Int.le_trans q.x.2 v), bits_of q.y.1 (Int.le_trans q.y.2 v), bits_of q.z.1 (Int.le_trans q.z.2 v)⟩
theorem ok_lasting_shares (T : Txt K mg ad) (D : Def K mg "lasting_shares" st_lasting_shares ps_of_lasting_shares) (C_moves_of_row : Has P w K mg base "moves_of_row" 2 ps_of_moves_of_row (spMR K)) :
    Has P w K mg base "lasting_shares" 3 ps_of_lasting_shares (spLS K) := by
  refine D.has sc_lasting_shares (fun vs H Q E h => ?_) (fun f cdv A outer s H vs Q E hr h => ?_)
  · obtain ⟨r, row, rfl, _⟩ := h
    rfl
  · obtain ⟨r, row, rfl, hR, hf, hne, hl, k⟩ := h
    have b0 := mv_bits hf hne hl (show 0 < 3 by decide)
    have b1 := mv_bits hf hne hl (show 1 < 3 by decide)
    have b2 := mv_bits hf hne hl (show 2 < 3 by decide)
    refine ⟨_, (pss_cons (ps_set (i := 1) sc_lasting_shares.nd rfl (by first | exact Or.inl rfl | exact Or.inr rfl) (pe_callH C_moves_of_row hr rfl (pa_cons (pv 0) pa_nil)))
    (pss_cons (ps_set (i := 2) sc_lasting_shares.nd rfl (by first | exact Or.inl rfl | exact Or.inr rfl) (pe_lst pa_nil))
    (pss_cons (ps_for PassesOwn.never rfl (pi_range1 rfl T.n_range (pa_cons pe_int pa_nil)) (pg_name (i := 3) sc_lasting_shares.nd rfl (by first | exact Or.inl rfl | exact Or.inr rfl)) (pss_cons (ps_set (i := 4) sc_lasting_shares.nd rfl (by first | exact Or.inl rfl | exact Or.inr rfl) (pe_op op_mod (pe_op op_add (pv 3) pe_int) pe_int))
      (pss_cons (ps_set (i := 5) sc_lasting_shares.nd rfl (by first | exact Or.inl rfl | exact Or.inr rfl) (pe_op op_mod (pe_op op_add (pv 3) pe_int) pe_int))
      (pss_cons (ps_set (i := 6) sc_lasting_shares.nd rfl (by first | exact Or.inl rfl | exact Or.inr rfl) (pe_op op_mulB (pe_ix (ix_sqK (K := K) rfl) (pe_ix (ix_sqK (K := K) rfl) (pv 1) (pv 4) (fun _ _ => rfl)) (pv 3) (fun _ _ => rfl)) (pe_ix (ix_sqK (K := K) rfl) (pe_ix (ix_sqK (K := K) rfl) (pv 1) (pv 5) (fun _ _ => rfl)) (pv 3) (fun _ _ => rfl))))
      (pss_cons (ps_set (i := 7) sc_lasting_shares.nd rfl (by first | exact Or.inl rfl | exact Or.inr rfl) (pe_op op_mulB (pe_ix (ix_sqK (K := K) rfl) (pe_ix (ix_sqK (K := K) rfl) (pv 1) (pv 4) (fun _ _ => rfl)) (pv 5) (fun _ _ => rfl)) (pe_ix (ix_sqK (K := K) rfl) (pe_ix (ix_sqK (K := K) rfl) (pv 1) (pv 5) (fun _ _ => rfl)) (pv 3) (fun _ _ => rfl))))
      (pss_cons (ps_set (i := 8) sc_lasting_shares.nd rfl (by first | exact Or.inl rfl | exact Or.inr rfl) (pe_op op_mulB (pe_ix (ix_sqK (K := K) rfl) (pe_ix (ix_sqK (K := K) rfl) (pv 1) (pv 5) (fun _ _ => rfl)) (pv 4) (fun _ _ => rfl)) (pe_ix (ix_sqK (K := K) rfl) (pe_ix (ix_sqK (K := K) rfl) (pv 1) (pv 4) (fun _ _ => rfl)) (pv 3) (fun _ _ => rfl))))
      (pss_one (ps_expr (pe_bm PySem.F.plainAttrs_list PySem.F.slot_list_append PySem.F.type_list_append mt_append (pv 2) (pa_cons (pe_op op_add (pe_op op_add (pv 6) (pv 7)) (pv 8)) pa_nil))))))))))
    (pss_one (ps_ret (pv 2)))))), ?_⟩
    walk_at "rd"
    refine ⟨r, row, rfl, hR, fun g hg => (hf g hg).small, fun H1 pm p0 p1 p2 sm hM h0 h1 h2 => ?_⟩
    walk_at "rd"
    refine ⟨Nat.zero_le _, fun p hp => ?_⟩
    walk_at "rd"
    refine ⟨3, rfl, by decide, by decide, for_range (lo := 0) (n := 3) (fun i σ H' => ∃ (o1 o2 o3 o4 o5 o6 : Option V), σ = [some (.ref r), some (.ref pm), some (.ref p), o1, o2, o3, o4, o5, o6] ∧ H' = upd H1 p (.lst ((sV (lasting row)).take i)))
      ⟨_, _, _, _, _, _, rfl, rfl⟩ ?_ ?_⟩
    · rintro i σ H' hi ⟨o1, o2, o3, o4, o5, o6, rfl, rfl⟩
      have hM' : ∀ l, SqL K (upd H1 p l) pm [.ref p0, .ref p1, .ref p2] := fun l => Same.seq (same_new hp) (SqL.of hM)
      have g0 : ∀ l, SqL K (upd H1 p l) p0 (sV (mv row 0)) := fun l => Same.seq (same_new hp) (SqL.of h0)
      have g1 : ∀ l, SqL K (upd H1 p l) p1 (sV (mv row 1)) := fun l => Same.seq (same_new hp) (SqL.of h1)
      have g2 : ∀ l, SqL K (upd H1 p l) p2 (sV (mv row 2)) := fun l => Same.seq (same_new hp) (SqL.of h2)
      obtain rfl | rfl | rfl : i = 0 ∨ i = 1 ∨ i = 2 := by omega
      · walk_at "rd"
        refine rd_rI (by decide) ?_
        walk_at "rd"
        refine rd_rI (by decide) ?_
        walk_at "rd"
        refine rd_sqL (hM' _) rfl ?_
        walk_at "rd"
        refine rd_sqL (g1 _) rfl ?_
        walk_at "rd"
        refine rd_sqL (hM' _) rfl ?_
        walk_at "rd"
        refine rd_sqL (g2 _) rfl ?_
        refine rd_rI (.inr ⟨b1.x, b2.x⟩) ?_
        walk_at "rd"
        refine rd_sqL (hM' _) rfl ?_
        walk_at "rd"
        refine rd_sqL (g1 _) rfl ?_
        walk_at "rd"
        refine rd_sqL (hM' _) rfl ?_
        walk_at "rd"
        refine rd_sqL (g2 _) rfl ?_
        refine rd_rI (.inr ⟨b1.z, b2.x⟩) ?_
        walk_at "rd"
        refine rd_sqL (hM' _) rfl ?_
        walk_at "rd"
        refine rd_sqL (g2 _) rfl ?_
        walk_at "rd"
        refine rd_sqL (hM' _) rfl ?_
        walk_at "rd"
        refine rd_sqL (g1 _) rfl ?_
        refine rd_rI (.inr ⟨b2.y, b1.x⟩) ?_
        walk_at "rd"
        refine ⟨.inl ⟨rfl, _, SqL.of upd_same⟩, ?_⟩
        walk_at "rd"
        refine rd_app upd_same (by show 0 < sizeLine; decide) ?_
        refine ⟨_, _, _, _, _, _, rfl, ?_⟩
        rw [upd_upd]
        rfl
      · walk_at "rd"
        refine rd_rI (by decide) ?_
        walk_at "rd"
        refine rd_rI (by decide) ?_
        walk_at "rd"
        refine rd_sqL (hM' _) rfl ?_
        walk_at "rd"
        refine rd_sqL (g2 _) rfl ?_
        walk_at "rd"
        refine rd_sqL (hM' _) rfl ?_
        walk_at "rd"
        refine rd_sqL (g0 _) rfl ?_
        refine rd_rI (.inr ⟨b2.y, b0.y⟩) ?_
        walk_at "rd"
        refine rd_sqL (hM' _) rfl ?_
        walk_at "rd"
        refine rd_sqL (g2 _) rfl ?_
        walk_at "rd"
        refine rd_sqL (hM' _) rfl ?_
        walk_at "rd"
        refine rd_sqL (g0 _) rfl ?_
        refine rd_rI (.inr ⟨b2.x, b0.y⟩) ?_
        walk_at "rd"
        refine rd_sqL (hM' _) rfl ?_
        walk_at "rd"
        refine rd_sqL (g0 _) rfl ?_
        walk_at "rd"
        refine rd_sqL (hM' _) rfl ?_
        walk_at "rd"
        refine rd_sqL (g2 _) rfl ?_
        refine rd_rI (.inr ⟨b0.z, b2.y⟩) ?_
        walk_at "rd"
        refine ⟨.inl ⟨rfl, _, SqL.of upd_same⟩, ?_⟩
        walk_at "rd"
        refine rd_app upd_same (by show 1 < sizeLine; decide) ?_
        refine ⟨_, _, _, _, _, _, rfl, ?_⟩
        rw [upd_upd]
        rfl
      · walk_at "rd"
        refine rd_rI (by decide) ?_
        walk_at "rd"
        refine rd_rI (by decide) ?_
        walk_at "rd"
        refine rd_sqL (hM' _) rfl ?_
        walk_at "rd"
        refine rd_sqL (g0 _) rfl ?_
        walk_at "rd"
        refine rd_sqL (hM' _) rfl ?_
        walk_at "rd"
        refine rd_sqL (g1 _) rfl ?_
        refine rd_rI (.inr ⟨b0.z, b1.z⟩) ?_
        walk_at "rd"
        refine rd_sqL (hM' _) rfl ?_
        walk_at "rd"
        refine rd_sqL (g0 _) rfl ?_
        walk_at "rd"
        refine rd_sqL (hM' _) rfl ?_
        walk_at "rd"
        refine rd_sqL (g1 _) rfl ?_
        refine rd_rI (.inr ⟨b0.y, b1.z⟩) ?_
        walk_at "rd"
        refine rd_sqL (hM' _) rfl ?_
        walk_at "rd"
        refine rd_sqL (g1 _) rfl ?_
        walk_at "rd"
        refine rd_sqL (hM' _) rfl ?_
        walk_at "rd"
        refine rd_sqL (g0 _) rfl ?_
        refine rd_rI (.inr ⟨b1.x, b0.z⟩) ?_
        walk_at "rd"
        refine ⟨.inl ⟨rfl, _, SqL.of upd_same⟩, ?_⟩
        walk_at "rd"
        refine rd_app upd_same (by show 2 < sizeLine; decide) ?_
        refine ⟨_, _, _, _, _, _, rfl, ?_⟩
        rw [upd_upd]
        rfl
    · rintro σ H' ⟨o1, o2, o3, o4, o5, o6, rfl, rfl⟩
      walk_at "rd"
      exact k _ p (same_then sm hp) upd_same
end
end Lg
end

section
set_option Elab.async false
set_option linter.all false
set_option maxRecDepth 100000
set_option maxHeartbeats 200000
namespace Lg
open PySem PySem.Spec PyProof.Rows L2
open Builtin.Int (intBits)
local macro_rules | `(tactic| walk_at "rd") => `(tactic| repeat (first
  | with_reducible refine rd_seq ?_ | with_reducible refine rd_next ?_ | with_reducible refine rd_yes ?_ | with_reducible refine rd_sl ?_ | with_reducible refine rd_part ?_ | with_reducible refine rd_nopart ?_ | with_reducible refine rd_ei ?_ | with_reducible refine rd_fld ?_ | with_reducible refine rd_sfld ?_ | with_reducible refine rd_sfa ?_ | with_reducible refine rd_rAdd ?_ | with_reducible refine rd_rSub ?_ | with_reducible refine rd_asg ?_ | with_reducible refine rd_gname ?_ | with_reducible refine rd_ret ?_ | with_reducible refine rd_drop ?_ | with_reducible refine rd_if ?_
  | with_reducible refine rd_c ?_ | with_reducible refine rd_op ?_ | with_reducible refine rd_un ?_ | with_reducible refine rd_rU ?_ | with_reducible refine rd_rI0 ?_ | with_reducible refine rd_eqI ?_ | with_reducible refine rd_neI ?_
  | with_reducible refine rd_test ?_ | with_reducible refine rd_tB ?_ | with_reducible refine rd_bl ?_ | with_reducible refine rd_not ?_ | with_reducible refine rd_and ?_ | with_reducible refine rd_or ?_ | with_reducible refine rd_andV ?_ | with_reducible refine rd_orV ?_
  | with_reducible refine rd_cons ?_ | with_reducible refine rd_nil ?_ | with_reducible refine rd_lst ?_ | with_reducible refine rd_tup ?_ | with_reducible refine rd_cb ?_ | with_reducible refine rd_call ?_
  | with_reducible refine rd_augS ?_ | with_reducible refine rd_ip ?_ | with_reducible refine rd_gsub ?_ | with_reducible refine rd_bm ?_ | with_reducible refine rd_bm0 ?_
  | refine rd_var (by rfl) ?_))

section
variable {P : Program} {w : World} {K : PySem.W.Frag} {mg : Str → Option Value} {base : Heap} {ad : String → Addr}
abbrev st_won_in_rounds : Stmt := top 6
abbrev nm_won_in_rounds : List Str := ["shares", "games", "won", "game"]
abbrev ps_of_won_in_rounds : List Str := ["shares", "games"]
theorem sc_won_in_rounds : FnScope nm_won_in_rounds ps_of_won_in_rounds (defScope st_won_in_rounds) := ⟨rfl, rfl, rfl, by decide +kernel, rfl, by decide +kernel, by decide +kernel⟩
def spWRs (K : PySem.W.Frag) : Sp := fun vs H Q _ => ∃ (a r : Addr) (s : S3) (row : List Gm), vs = [.ref a, .ref r] ∧ SqL K H a (sV s) ∧ RowAt K H r row ∧ (∀ g ∈ row, g.Small) ∧
  ∀ (H' : Hp) (p : Addr), Same H H' → H' p = some (.lst [.int (winAll row 0 s), .int (behindAll row s).sum]) → Q (.ref p) H'
theorem winAll_take : ∀ {row : List Gm} {j : Nat} {m : Gm} (_ : row[j]? = some m) (won : Int) (s : S3), winAll (row.take (j + 1)) won s = winAll (row.take j) won s * m.v + wonIn (behindAll (row.take j) s) m
  | [], j, m, h, _, _ => by simp at h
  | g :: r, 0, m, h, won, s => by
    simp at h
    subst h
    rfl
  | g :: r, j + 1, m, h, won, s => winAll_take (row := r) (j := j) (m := m) (by simpa using h) (won * g.v + wonIn s g) (behind s g)
theorem sV_sum (s : S3) : ([s.x, s.y, s.z] : List Int).sum = s.sum := by
  unfold S3.sum
  simp [List.sum_cons, Int.add_assoc]
/-- an item of a list of references, of ints -/
theorem ref_at {as : List Addr} {j : Nat} {x : V} (h : (as.map V.ref)[j]? = some x) : ∃ a, as[j]? = some a ∧ x = V.ref a := by
  rw [List.getElem?_map] at h
  cases e : as[j]? with
  | none => rw [e] at h; cases h
  | some a => rw [e] at h; exact ⟨a, rfl, (Option.some.inj h).symm⟩
theorem int_at {ns : List Int} {j : Nat} {x : V} (h : (ns.map V.int)[j]? = some x) : ∃ z, ns[j]? = some z ∧ x = V.int z := by
  rw [List.getElem?_map] at h
  cases e : ns[j]? with
  | none => rw [e] at h; cases h
  | some a => rw [e] at h; exact ⟨a, rfl, (Option.some.inj h).symm⟩
theorem ok_won_in_rounds (T : Txt K mg ad) (D : Def K mg "won_in_rounds" st_won_in_rounds ps_of_won_in_rounds) (C_shares_behind : Has P w K mg base "shares_behind" 1 ps_of_shares_behind (spSB K)) (C_won_in_round : Has P w K mg base "won_in_round" 1 ps_of_won_in_round (spWR K)) :
    Has P w K mg base "won_in_rounds" 2 ps_of_won_in_rounds (spWRs K) := by
  refine D.has sc_won_in_rounds (fun vs H Q E h => ?_) (fun f cdv A outer s H vs Q E hr h => ?_)
  · obtain ⟨a, r, S, row, rfl, _⟩ := h
    rfl
  · obtain ⟨a0, r, S, row, rfl, hS, ⟨as, hL, hA⟩, hm, k⟩ := h
    refine ⟨_, (pss_cons (ps_set (i := 2) sc_won_in_rounds.nd rfl (by first | exact Or.inl rfl | exact Or.inr rfl) pe_int)
    (pss_cons (ps_for PassesOwn.never rfl (pi_list (pv 1)) (pg_name (i := 3) sc_won_in_rounds.nd rfl (by first | exact Or.inl rfl | exact Or.inr rfl)) (pss_cons (ps_set (i := 2) sc_won_in_rounds.nd rfl (by first | exact Or.inl rfl | exact Or.inr rfl) (pe_op op_add (pe_op op_mulB (pv 2) (pe_ix (ix_sqK (K := K) rfl) (pv 3) pe_int (fun _ _ => rfl))) (pe_callH C_won_in_round hr rfl (pa_cons (pv 0) (pa_cons (pv 3) pa_nil)))))
      (pss_one (ps_set (i := 0) sc_won_in_rounds.nd rfl (by first | exact Or.inl rfl | exact Or.inr rfl) (pe_callH C_shares_behind hr rfl (pa_cons (pv 0) (pa_cons (pv 3) pa_nil)))))))
    (pss_one (ps_ret (pe_lst (pa_cons (pv 2) (pa_cons (pe_callB (cr_sumK (K := K) rfl rfl) (by rfl) T.n_sum bt_sum (pa_cons (pv 0) pa_nil)) pa_nil))))))), ?_⟩
    walk_at "rd"
    refine ⟨_, rfl, r, rfl, ⟨_, hL⟩, for_list (K := K) (a := r) (xs := as.map V.ref) (fun j σ H2 => ∃ (o : Option V) (q : Addr), σ = [some (.ref q), some (.ref r), some (.int (winAll (row.take j) 0 S)), o] ∧ Same H H2 ∧ SqL K H2 q (sV (behindAll (row.take j) S)))
      ⟨_, a0, rfl, same_refl, hS⟩ (fun j σ H2 _ ⟨_, _, _, s2, _⟩ => Same.seq s2 hL) ?_ ?_⟩
    · rintro j x σ H2 hj ⟨o, q2, rfl, s2, hq2⟩
      obtain ⟨a, ha, rfl⟩ := ref_at hj
      obtain ⟨m, hm1, hm2⟩ := games_get hA ha
      have hs := hm m (List.mem_of_getElem? hm1)
      walk_at "rd"
      refine rd_sqT (same_T s2 hm2) rfl ?_
      refine rd_rI (mul_r hs.v) ?_
      walk_at "rd"
      refine ⟨q2, a, _, m, rfl, hq2, same_T s2 hm2, hs, fun H3 s3 => ?_⟩
      walk_at "rd"
      refine ⟨q2, a, _, m, rfl, Same.seq s3 hq2, same_T s3 (same_T s2 hm2), hs, fun q3 hq3 => ?_⟩
      walk_at "rd"
      refine ⟨some (.ref a), q3, ?_, same_then (Same.trans s2 s3) hq3, SqL.of ?_⟩
      · rw [winAll_take hm1]
        rfl
      · rw [upd_same, behindAll_take hm1]
    · rintro σ H2 ⟨o, q2, rfl, s2, hq2⟩
      rw [List.length_map, games_len hA, List.take_length] at hq2 ⊢
      walk_at "rd"
      refine rd_sum (ns := [_, _, _]) hq2 ?_
      rw [sV_sum]
      walk_at "rd"
      exact ⟨by show 2 ≤ sizeLine; decide, fun p hp => k _ p (same_then s2 hp) upd_same⟩
abbrev st_gain_of_row : Stmt := top 7
abbrev nm_gain_of_row : List Str := ["row", "won"]
abbrev ps_of_gain_of_row : List Str := ["row"]
theorem sc_gain_of_row : FnScope nm_gain_of_row ps_of_gain_of_row (defScope st_gain_of_row) := ⟨rfl, rfl, rfl, by decide +kernel, rfl, by decide +kernel, by decide +kernel⟩
def spGR (K : PySem.W.Frag) : Sp := fun vs H Q _ => ∃ (r : Addr) (row : List Gm), vs = [.ref r] ∧ RowAt K H r row ∧ (∀ g ∈ row, g.Fit) ∧ row ≠ [] ∧ row.length ≤ 6 ∧
  ∀ (H' : Hp) (p : Addr), Same H H' → H p = none → H' p = some (.lst [.int (lowU (gainUp row) (gainLo row)), .int (lowL (gainUp row) (gainLo row))]) → Q (.ref p) H'
theorem ok_gain_of_row (T : Txt K mg ad) (D : Def K mg "gain_of_row" st_gain_of_row ps_of_gain_of_row) (C_lasting_shares : Has P w K mg base "lasting_shares" 3 ps_of_lasting_shares (spLS K))
    (C_won_in_rounds : Has P w K mg base "won_in_rounds" 2 ps_of_won_in_rounds (spWRs K)) (C_lowest_terms : Has P w K mg base "lowest_terms" 1 ps_of_lowest_terms spLT) :
    Has P w K mg base "gain_of_row" 4 ps_of_gain_of_row (spGR K) := by
  refine D.has sc_gain_of_row (fun vs H Q E h => ?_) (fun f cdv A outer s H vs Q E hr h => ?_)
  · obtain ⟨r, row, rfl, _⟩ := h
    rfl
  · obtain ⟨r, row, rfl, hR, hf, hne, hl, k⟩ := h
    refine ⟨_, (pss_cons (ps_set (i := 1) sc_gain_of_row.nd rfl (by first | exact Or.inl rfl | exact Or.inr rfl) (pe_callH C_won_in_rounds hr rfl (pa_cons (pe_callH C_lasting_shares hr rfl (pa_cons (pv 0) pa_nil)) (pa_cons (pv 0) pa_nil))))
    (pss_one (ps_ret (pe_callH C_lowest_terms hr rfl (pa_cons (pe_ix (ix_sqK (K := K) rfl) (pv 1) pe_int (fun _ _ => rfl)) (pa_cons (pe_op op_mulB (pe_ix (ix_sqK (K := K) rfl) (pv 1) pe_int (fun _ _ => rfl)) (pe_callB (call_lenK (K := K) rfl) (by rfl) T.n_len bt_len (pa_cons (pv 0) pa_nil))) pa_nil)))))), ?_⟩
    walk_at "rd"
    refine ⟨r, row, rfl, hR, hf, hne, hl, fun H1 q sm hq => ?_⟩
    walk_at "rd"
    refine ⟨q, r, _, row, rfl, SqL.of hq, row_same sm hR, fun g hg => (hf g hg).small, fun H2 p2 s2 hp2 => ?_⟩
    walk_at "rd"
    refine rd_sqL (SqL.of hp2) rfl ?_
    walk_at "rd"
    refine rd_sqL (SqL.of hp2) rfl ?_
    walk_at "rd"
    obtain ⟨as, hL, hA⟩ := hR
    refine rd_lenL (Same.seq s2 (Same.seq sm hL)) ?_
    rw [List.length_map, games_len hA]
    refine rd_rI (mul_r ⟨by omega, by omega⟩) ?_
    walk_at "rd"
    have hok : ∀ g ∈ row, g.Ok := fun g hg => (hf g hg).ok
    have hpos := gainLo_pos hok hne
    refine ⟨gainUp row, gainLo row, rfl, hpos, ?_, fun p hp => ?_⟩
    · refine Nat.le_trans (intBits_le_iff (m := 1200).mpr ?_) (by decide)
      have h3 : gainLo row < ((2 ^ 1200 : Nat) : Int) := gainLo_lt hf hne hl
      omega
    · have s3 := Same.trans sm s2
      exact k _ p (same_then s3 hp) (Same.free s3 hp) upd_same
end
end Lg
end

section
set_option Elab.async false
set_option linter.all false
set_option maxRecDepth 100000
set_option maxHeartbeats 200000
namespace Lg
open PySem PySem.Spec PyProof.Rows L2
open Builtin.Int (intBits)
local macro_rules | `(tactic| walk_at "rd") => `(tactic| repeat (first
  | with_reducible refine rd_seq ?_ | with_reducible refine rd_next ?_ | with_reducible refine rd_yes ?_ | with_reducible refine rd_sl ?_ | with_reducible refine rd_part ?_ | with_reducible refine rd_nopart ?_ | with_reducible refine rd_ei ?_ | with_reducible refine rd_fld ?_ | with_reducible refine rd_sfld ?_ | with_reducible refine rd_sfa ?_ | with_reducible refine rd_rAdd ?_ | with_reducible refine rd_rSub ?_ | with_reducible refine rd_asg ?_ | with_reducible refine rd_gname ?_ | with_reducible refine rd_ret ?_ | with_reducible refine rd_drop ?_ | with_reducible refine rd_if ?_
  | with_reducible refine rd_c ?_ | with_reducible refine rd_op ?_ | with_reducible refine rd_un ?_ | with_reducible refine rd_rU ?_ | with_reducible refine rd_rI0 ?_ | with_reducible refine rd_eqI ?_ | with_reducible refine rd_neI ?_
  | with_reducible refine rd_test ?_ | with_reducible refine rd_tB ?_ | with_reducible refine rd_bl ?_ | with_reducible refine rd_not ?_ | with_reducible refine rd_and ?_ | with_reducible refine rd_or ?_ | with_reducible refine rd_andV ?_ | with_reducible refine rd_orV ?_
  | with_reducible refine rd_cons ?_ | with_reducible refine rd_nil ?_ | with_reducible refine rd_lst ?_ | with_reducible refine rd_tup ?_ | with_reducible refine rd_cb ?_ | with_reducible refine rd_call ?_
  | with_reducible refine rd_augS ?_ | with_reducible refine rd_ip ?_ | with_reducible refine rd_gsub ?_ | with_reducible refine rd_bm ?_ | with_reducible refine rd_bm0 ?_
  | refine rd_var (by rfl) ?_))

section
variable {P : Program} {w : World} {K : PySem.W.Frag} {mg : Str → Option Value} {base : Heap} {ad : String → Addr}
abbrev st_rests_of_row : Stmt := top 8
abbrev nm_rests_of_row : List Str := ["row", "shares", "share"]
abbrev ps_of_rests_of_row : List Str := ["row"]
theorem sc_rests_of_row : FnScope nm_rests_of_row ps_of_rests_of_row (defScope st_rests_of_row) := ⟨rfl, rfl, rfl, by decide +kernel, rfl, by decide +kernel, by decide +kernel⟩
def l3 (s : S3) : List Int := [s.x, s.y, s.z]
/-- a list of fractions at addresses -/
structure Fracs (H : Hp) (ps : List Addr) (ns : List Int) (d : Int) (i : Nat) : Prop where
  len : ps.length = i
  at_ : ∀ (j : Nat) (p : Addr) (n : Int), ps[j]? = some p → ns[j]? = some n → H p = some (.lst ((twoI n d).map V.int))
def spRR (K : PySem.W.Frag) : Sp := fun vs H Q _ => ∃ (r : Addr) (row : List Gm), vs = [.ref r] ∧ RowAt K H r row ∧ (∀ g ∈ row, g.Fit) ∧ row ≠ [] ∧ row.length ≤ 6 ∧
  ∀ (H' : Hp) (p : Addr) (ps : List Addr), Same H H' → H' p = some (.lst (ps.map V.ref)) → Fracs H' ps (l3 (lasting row)) (lasting row).sum 3 → Q (.ref p) H'
theorem fracs_more {H : Hp} {ps : List Addr} {ns : List Int} {d n : Int} {i : Nat} {p q : Addr} {acc : List V} (h : Fracs H ps ns d i) (hn : ns[i]? = some n) (hp : H p = none) (hq : H q = some (.lst acc)) (hne : ∀ p' ∈ ps, p' ≠ q) :
    Fracs (upd (upd H p (.lst ((twoI n d).map V.int))) q (.lst (acc ++ [.ref p]))) (ps ++ [p]) ns d (i + 1) ∧ ∀ p' ∈ ps ++ [p], p' ≠ q := by
  have npq : p ≠ q := Ne.symm (ne_of_none hq hp)
  refine ⟨⟨by rw [List.length_append, h.len]; rfl, fun j p' m hj hm => ?_⟩, fun p' hp' => ?_⟩
  · by_cases c : j < ps.length
    · rw [List.getElem?_append_left c] at hj
      have e := h.at_ j p' m hj hm
      rw [upd_ne (hne p' (List.mem_of_getElem? hj)), upd_ne (ne_of_none e hp)]
      exact e
    · rw [List.getElem?_append_right (by omega)] at hj
      have ej : j = ps.length := by
        have := (List.getElem?_eq_some_iff.mp hj).1
        simp at this
        omega
      subst ej
      rw [h.len] at hm
      rw [hn] at hm
      cases hm
      simp at hj
      subst hj
      rw [upd_ne npq, upd_same]
  · rcases List.mem_append.mp hp' with z | z
    · exact hne p' z
    · simp at z
      subst z
      exact npq
theorem ok_rests_of_row (T : Txt K mg ad) (D : Def K mg "rests_of_row" st_rests_of_row ps_of_rests_of_row) (C_lasting_shares : Has P w K mg base "lasting_shares" 3 ps_of_lasting_shares (spLS K)) (C_lowest_terms : Has P w K mg base "lowest_terms" 1 ps_of_lowest_terms spLT) :
    Has P w K mg base "rests_of_row" 4 ps_of_rests_of_row (spRR K) := by
  refine D.has sc_rests_of_row (fun vs H Q E h => ?_) (fun f cdv A outer s H vs Q E hr h => ?_)
  · obtain ⟨r, row, rfl, _⟩ := h
    rfl
  · obtain ⟨r, row, rfl, hR, hf, hne, hl, k⟩ := h
    have hok : ∀ g ∈ row, g.Ok := fun g hg => (hf g hg).ok
    have hpos := lasting_sum hok hne
    have hbits : intBits (lasting row).sum ≤ 8000 := by
      refine Nat.le_trans (intBits_le_iff (m := 800).mpr ?_) (by decide)
      have h3 : (lasting row).sum < ((2 ^ 800 : Nat) : Int) := lasting_bits hf hne (vprod_fit hf hl)
      omega
    refine ⟨_, (pss_cons (ps_set (i := 1) sc_rests_of_row.nd rfl (by first | exact Or.inl rfl | exact Or.inr rfl) (pe_callH C_lasting_shares hr rfl (pa_cons (pv 0) pa_nil)))
    (pss_one (ps_ret (pe_lc rfl sc_rests_of_row.nd (pi_list (pv 1)) (blkOk_by (own := [("share", 2)]) (by show blkC nm_rests_of_row (defScope st_rests_of_row) _ _ = true; decide +kernel)) (fun _ _ _ _ _ => pg_name (i := 2) sc_rests_of_row.nd rfl (by first | exact Or.inl rfl | exact Or.inr rfl)) (fun _ _ _ _ _ => pts_nil) (fun _ _ _ _ _ => (pe_callH C_lowest_terms hr rfl (pa_cons (pv 2) (pa_cons (pe_callB (cr_sumK (K := K) rfl rfl) (by rfl) T.n_sum bt_sum (pa_cons (pv 1) pa_nil)) pa_nil)))))))), ?_⟩
    walk_at "rd"
    refine ⟨r, row, rfl, hR, hf, hne, hl, fun H1 q sm hq => ?_⟩
    walk_at "rd"
    refine ⟨_, rfl, q, rfl, ⟨_, SqL.of hq⟩, fun d hd => ?_⟩
    have nqd : q ≠ d := ne_of_none hq hd
    refine lc_list (K := K) (a := q) (xs := (l3 (lasting row)).map V.int) (fun i H' => ∃ ps : List Addr, Same H1 H' ∧ H' d = some (.lst (ps.map V.ref)) ∧ Fracs H' ps (l3 (lasting row)) (lasting row).sum i ∧ ∀ p' ∈ ps, p' ≠ d)
      ⟨[], same_new hd, upd_same, ⟨rfl, by intro j p n h; simp at h⟩, by simp⟩ ?_ ?_ ?_
    · rintro i H' _ ⟨ps, s2, _, _, _⟩
      exact SqL.of (s2 _ _ hq)
    · rintro i x H' hi ⟨ps, s2, hD, hF, hN⟩
      obtain ⟨n, hn, rfl⟩ := int_at hi
      walk_at "rd"
      refine ⟨rfl, ?_⟩
      walk_at "rd"
      refine iteT ?_
      walk_at "rd"
      refine rd_sum (ns := l3 (lasting row)) (SqL.of (s2 _ _ hq)) ?_
      rw [l3, sV_sum]
      walk_at "rd"
      refine ⟨n, (lasting row).sum, rfl, hpos, hbits, fun p hp => ?_⟩
      have npd : p ≠ d := Ne.symm (ne_of_none hD hp)
      obtain ⟨f1, f2⟩ := fracs_more hF hn hp hD hN
      refine ⟨_, same_new hp _ _ hD, ?_, ps ++ [p], ?_, ?_, f1, f2⟩
      · have := hF.len
        have hi3 : i < 3 := by
          have := (List.getElem?_eq_some_iff.mp hn).1
          exact this
        have : 10 < sizeLine := by decide
        rw [List.length_map]
        omega
      · exact same_turn (same_then s2 hp) hd
      · rw [upd_same, List.map_append]
        rfl
    · rintro H' ⟨ps, s2, hD, hF, hN⟩
      exact k H' d ps (Same.trans sm s2) hD hF
abbrev st_is_greater : Stmt := top 11
abbrev nm_is_greater : List Str := ["fraction", "other"]
abbrev ps_of_is_greater : List Str := ["fraction", "other"]
theorem sc_is_greater : FnScope nm_is_greater ps_of_is_greater (defScope st_is_greater) := ⟨rfl, rfl, rfl, by decide +kernel, rfl, by decide +kernel, by decide +kernel⟩
def spGt (K : PySem.W.Frag) : Sp := fun vs H Q _ => ∃ (a b : Addr) (n d m e : Int), vs = [.ref a, .ref b] ∧ SqL K H a [.int n, .int d] ∧ SqL K H b [.int m, .int e] ∧ (intBits n ≤ 100000 ∧ intBits d ≤ 100000) ∧ (intBits m ≤ 100000 ∧ intBits e ≤ 100000) ∧ Q (.bl (decide (m * d < n * e))) H
theorem ok_is_greater (T : Txt K mg ad) (D : Def K mg "is_greater" st_is_greater ps_of_is_greater) : Has P w K mg base "is_greater" 1 ps_of_is_greater (spGt K) := by
  refine D.has sc_is_greater (fun vs H Q E h => ?_) (fun f cdv A outer s H vs Q E hr h => ?_)
  · obtain ⟨a, b, n, d, m, e, rfl, _⟩ := h
    rfl
  · obtain ⟨a, b, n, d, m, e, rfl, h1, h2, ⟨b1, b2⟩, ⟨b3, b4⟩, k⟩ := h
    refine ⟨_, (pss_one (ps_ret (pe_cmpR op_gt (pe_op op_mulB (pe_ix (ix_sqK (K := K) rfl) (pv 0) pe_int (fun _ _ => rfl)) (pe_ix (ix_sqK (K := K) rfl) (pv 1) pe_int (fun _ _ => rfl))) (pe_op op_mulB (pe_ix (ix_sqK (K := K) rfl) (pv 1) pe_int (fun _ _ => rfl)) (pe_ix (ix_sqK (K := K) rfl) (pv 0) pe_int (fun _ _ => rfl))) (nomark _)))), ?_⟩
    walk_at "rd"
    refine rd_sqL h1 rfl ?_
    walk_at "rd"
    refine rd_sqL h2 rfl ?_
    refine rd_rI (.inr ⟨b1, b4⟩) ?_
    walk_at "rd"
    refine rd_sqL h2 rfl ?_
    walk_at "rd"
    refine rd_sqL h1 rfl ?_
    refine rd_rI (.inr ⟨b3, b2⟩) ?_
    walk_at "rd"
    exact k
abbrev st_rounds_of_row : Stmt := top 12
abbrev nm_rounds_of_row : List Str := ["row", "count", "place"]
abbrev ps_of_rounds_of_row : List Str := ["row", "count"]
theorem sc_rounds_of_row : FnScope nm_rounds_of_row ps_of_rounds_of_row (defScope st_rounds_of_row) := ⟨rfl, rfl, rfl, by decide +kernel, rfl, by decide +kernel, by decide +kernel⟩
def spRo (K : PySem.W.Frag) : Sp := fun vs H Q _ => ∃ (r : Addr) (row : List Gm) (d : Nat), vs = [.ref r, .int (d : Int)] ∧ RowAt K H r row ∧ row ≠ [] ∧ d ≤ 30 ∧ ∀ (H' : Hp) (q : Addr), Same H H' → RowAt K H' q (playedG row d) → Q (.ref q) H'
theorem ok_rounds_of_row (T : Txt K mg ad) (D : Def K mg "rounds_of_row" st_rounds_of_row ps_of_rounds_of_row) : Has P w K mg base "rounds_of_row" 1 ps_of_rounds_of_row (spRo K) := by
  refine D.has sc_rounds_of_row (fun vs H Q E h => ?_) (fun f cdv A outer s H vs Q E hr h => ?_)
  · obtain ⟨r, row, d, rfl, _⟩ := h
    rfl
  · obtain ⟨r, row, d, rfl, ⟨as, hL, hA⟩, hne, hd, k⟩ := h
    have hlp := List.length_pos_iff.mpr hne
    have hal := games_len hA
    refine ⟨_, (pss_one (ps_ret (pe_lc rfl sc_rounds_of_row.nd (pi_range1 rfl T.n_range (pa_cons (pv 1) pa_nil)) (blkOk_by (own := [("place", 2)]) (by show blkC nm_rounds_of_row (defScope st_rounds_of_row) _ _ = true; decide +kernel)) (fun _ _ _ _ _ => pg_name (i := 2) sc_rounds_of_row.nd rfl (by first | exact Or.inl rfl | exact Or.inr rfl)) (fun _ _ _ _ _ => pts_nil) (fun _ _ _ _ _ => (pe_ix (ix_sqK (K := K) rfl) (pv 0) (pe_op op_mod (pv 2) (pe_callB (call_lenK (K := K) rfl) (by rfl) T.n_len bt_len (pa_cons (pv 0) pa_nil))) (fun _ _ => rfl)))))), ?_⟩
    walk_at "rd"
    refine ⟨(d : Int), rfl, by omega, by omega, fun q hq => ?_⟩
    have smq : ∀ o, Same H (upd H q o) := fun o => same_new hq
    rw [Int.toNat_natCast]
    refine lc_range (lo := 0) (n := d) (fun i H' => ∃ bs : List Addr, bs.length = i ∧ H' = upd H q (.lst (bs.map V.ref)) ∧ GamesAt K H bs (playedG row i)) ⟨[], rfl, rfl, .nil⟩ ?_ ?_
    · rintro i H' hi ⟨bs, hbl, rfl, hb⟩
      obtain ⟨c, ha⟩ : ∃ c, as[i % row.length]? = some c := ⟨_, List.getElem?_eq_getElem (by rw [hal]; exact Nat.mod_lt _ hlp)⟩
      obtain ⟨g, hg1, hg2⟩ := games_get hA ha
      walk_at "rd"
      refine ⟨rfl, ?_⟩
      walk_at "rd"
      refine iteT ?_
      walk_at "rd"
      refine rd_lenL (Same.seq (smq _) hL) ?_
      rw [List.length_map, hal]
      refine rd_rI (by omega) ?_
      refine rd_sqL (v := V.ref c) (Same.seq (smq _) hL) (at_of (j := i % row.length) (by rw [Int.zero_add, Int.natCast_emod]) (by rw [List.getElem?_map, ha]; rfl)) ?_
      refine ⟨_, upd_same, ?_, bs ++ [c], ?_, ?_, ?_⟩
      · rw [List.length_map]
        have : 30 < sizeLine := by decide
        omega
      · rw [List.length_append, hbl]
        rfl
      · rw [upd_upd, List.map_append]
        rfl
      · rw [playedG_succ hg1]
        exact games_snoc hg2 hb
    · rintro H' ⟨bs, hbl, rfl, hb⟩
      exact k _ q (smq _) ⟨bs, SqL.of upd_same, games_same (smq _) hb⟩
abbrev st_average_behind : Stmt := top 13
abbrev nm_average_behind : List Str := ["had", "games", "shares", "won"]
abbrev ps_of_average_behind : List Str := ["had", "games"]
theorem sc_average_behind : FnScope nm_average_behind ps_of_average_behind (defScope st_average_behind) := ⟨rfl, rfl, rfl, by decide +kernel, rfl, by decide +kernel, by decide +kernel⟩
def spAv (K : PySem.W.Frag) : Sp := fun vs H Q _ => ∃ (r : Addr) (row : List Gm) (had : Int), vs = [.int had, .ref r] ∧ RowAt K H r row ∧ (∀ g ∈ row, g.Fit) ∧ row.length ≤ 30 ∧ had.natAbs ≤ 2000000 ∧
  ∀ (H' : Hp) (p : Addr), Same H H' → H' p = some (.lst ((twoI (winAll row had (unit (Uw92.restOf had))) (vprod row)).map V.int)) → Q (.ref p) H'
theorem ixN_rest (had : Int) : ixN 3 (had % 3) = some (Uw92.restOf had) := by
  unfold ixN Uw92.restOf
  rw [if_pos (by omega), if_pos (by omega)]
theorem vprod_bits {row : List Gm} (hf : ∀ g ∈ row, g.Fit) (hl : row.length ≤ 30) : intBits (vprod row) ≤ 8000 := by
  refine Nat.le_trans (intBits_le_iff (m := 1801).mpr ?_) (by decide)
  have h3 : vprod row < ((2 ^ 1801 : Nat) : Int) := Int.lt_of_le_of_lt (vprod_long hf hl) (by decide +kernel)
  have h4 := vprod_pos (row := row) fun g hg => (hf g hg).ok.v0
  omega
theorem ok_average_behind (T : Txt K mg ad) (D : Def K mg "average_behind" st_average_behind ps_of_average_behind) (C_won_in_rounds : Has P w K mg base "won_in_rounds" 2 ps_of_won_in_rounds (spWRs K)) (C_lowest_terms : Has P w K mg base "lowest_terms" 1 ps_of_lowest_terms spLT) :
    Has P w K mg base "average_behind" 3 ps_of_average_behind (spAv K) := by
  refine D.has sc_average_behind (fun vs H Q E h => ?_) (fun f cdv A outer s H vs Q E hr h => ?_)
  · obtain ⟨r, row, had, rfl, _⟩ := h
    rfl
  · obtain ⟨r, row, had, rfl, hR, hf, hl, hb, k⟩ := h
    refine ⟨_, (pss_cons (ps_set (i := 2) sc_average_behind.nd rfl (by first | exact Or.inl rfl | exact Or.inr rfl) (pe_lst (pa_cons pe_int (pa_cons pe_int (pa_cons pe_int pa_nil)))))
    (pss_cons (ps_asg pe_int (pg_sub (pv 2) (pe_op op_mod (pv 0) pe_int) set_list))
    (pss_cons (ps_set (i := 3) sc_average_behind.nd rfl (by first | exact Or.inl rfl | exact Or.inr rfl) (pe_callH C_won_in_rounds hr rfl (pa_cons (pv 2) (pa_cons (pv 1) pa_nil))))
    (pss_one (ps_ret (pe_callH C_lowest_terms hr rfl (pa_cons (pe_op op_add (pe_op op_mulB (pv 0) (pe_ix (ix_sqK (K := K) rfl) (pv 3) pe_int (fun _ _ => rfl))) (pe_ix (ix_sqK (K := K) rfl) (pv 3) pe_int (fun _ _ => rfl))) (pa_cons (pe_ix (ix_sqK (K := K) rfl) (pv 3) pe_int (fun _ _ => rfl)) pa_nil)))))))), ?_⟩
    walk_at "rd"
    refine ⟨by show 3 ≤ sizeLine; decide, fun q hq => ?_⟩
    walk_at "rd"
    refine rd_rI (by decide) ?_
    refine rd_setL upd_same (ixN_rest had) ?_
    rw [upd_upd, unit_set (restOf_lt had)]
    walk_at "rd"
    have s1 : Same H (upd H q (.lst (sV (unit (Uw92.restOf had))))) := same_new hq
    refine ⟨q, r, unit (Uw92.restOf had), row, rfl, SqL.of upd_same, row_same s1 hR, fun g hg => (hf g hg).small, fun H2 p2 s2 hp2 => ?_⟩
    rw [behindAll_unit] at hp2
    walk_at "rd"
    refine rd_sqL (SqL.of hp2) rfl ?_
    refine rd_rI (.inl (.inl ⟨by omega, by omega⟩)) ?_
    walk_at "rd"
    refine rd_sqL (SqL.of hp2) rfl ?_
    walk_at "rd"
    refine rd_sqL (SqL.of hp2) rfl ?_
    walk_at "rd"
    refine ⟨_, vprod row, rfl, vprod_pos fun g hg => (hf g hg).ok.v0, vprod_bits hf hl, fun p hp => ?_⟩
    rw [← winAll_add]
    exact k _ p (same_then (Same.trans s1 s2) hp) upd_same
end
end Lg
end

section
set_option Elab.async false
set_option linter.all false
set_option maxRecDepth 100000
set_option maxHeartbeats 400000
namespace Lg
open PySem PySem.Spec PyProof.Rows L2
open Builtin.Int (intBits)
local macro_rules | `(tactic| walk_at "rd") => `(tactic| repeat (first
  | with_reducible refine rd_seq ?_ | with_reducible refine rd_next ?_ | with_reducible refine rd_yes ?_ | with_reducible refine rd_sl ?_ | with_reducible refine rd_part ?_ | with_reducible refine rd_nopart ?_ | with_reducible refine rd_ei ?_ | with_reducible refine rd_fld ?_ | with_reducible refine rd_sfld ?_ | with_reducible refine rd_sfa ?_ | with_reducible refine rd_rAdd ?_ | with_reducible refine rd_rSub ?_ | with_reducible refine rd_asg ?_ | with_reducible refine rd_gname ?_ | with_reducible refine rd_ret ?_ | with_reducible refine rd_drop ?_ | with_reducible refine rd_if ?_
  | with_reducible refine rd_c ?_ | with_reducible refine rd_op ?_ | with_reducible refine rd_un ?_ | with_reducible refine rd_rU ?_ | with_reducible refine rd_rI0 ?_ | with_reducible refine rd_eqI ?_ | with_reducible refine rd_neI ?_
  | with_reducible refine rd_test ?_ | with_reducible refine rd_tB ?_ | with_reducible refine rd_bl ?_ | with_reducible refine rd_not ?_ | with_reducible refine rd_and ?_ | with_reducible refine rd_or ?_ | with_reducible refine rd_andV ?_ | with_reducible refine rd_orV ?_
  | with_reducible refine rd_cons ?_ | with_reducible refine rd_nil ?_ | with_reducible refine rd_lst ?_ | with_reducible refine rd_tup ?_ | with_reducible refine rd_cb ?_ | with_reducible refine rd_call ?_
  | with_reducible refine rd_augS ?_ | with_reducible refine rd_ip ?_ | with_reducible refine rd_gsub ?_ | with_reducible refine rd_bm ?_ | with_reducible refine rd_bm0 ?_
  | refine rd_var (by rfl) ?_))

section
variable {P : Program} {w : World} {K : PySem.W.Frag} {mg : Str → Option Value} {base : Heap} {ad : String → Addr}
abbrev st_mixed_game : Stmt := top 9
abbrev nm_mixed_game : List Str := ["games", "weights", "v", "chances", "place", "game", "weight", "rest"]
abbrev ps_of_mixed_game : List Str := ["games", "weights"]
theorem sc_mixed_game : FnScope nm_mixed_game ps_of_mixed_game (defScope st_mixed_game) := ⟨rfl, rfl, rfl, by decide +kernel, rfl, by decide +kernel, by decide +kernel⟩
def spMG (K : PySem.W.Frag) : Sp := fun vs H Q _ => ∃ (l wv : Addr) (gs : List Gm) (ws : List Int), vs = [.ref l, .ref wv] ∧ RowAt K H l gs ∧ SqL K H wv (ws.map V.int) ∧ (∀ g ∈ gs, g.Ok ∧ g.v ≤ 100) ∧ gs.length ≤ 4 ∧ ws.length = gs.length ∧ (∀ z ∈ ws, 0 ≤ z ∧ z ≤ 9) ∧
  ∀ (H' : Hp) (p : Addr), Same H H' → H' p = some (.tup (gV (mixG gs ws))) → Q (.ref p) H'
theorem small_of {g : Gm} (h : g.Ok ∧ g.v ≤ 100) : g.Small := by
  obtain ⟨⟨a0, a1, b0, b1, c0, c1⟩, v⟩ := h
  constructor <;> omega
/-- the mixed chances behind some places -/
def mixC (gs : List Gm) (ws : List Int) (i : Nat) : List Int := [mixUp 0 ((gs.zip ws).take i) 0 1, mixUp 1 ((gs.zip ws).take i) 0 1, mixUp 2 ((gs.zip ws).take i) 0 1]
theorem mixC_next {gs : List Gm} {ws : List Int} {i : Nat} {m : Gm} {z : Int} (h : (gs.zip ws)[i]? = some (m, z)) :
    [mixUp 0 ((gs.zip ws).take i) 0 1 * m.v + z * m.a * mixLo ((gs.zip ws).take i) 1, mixUp 1 ((gs.zip ws).take i) 0 1 * m.v + z * m.b * mixLo ((gs.zip ws).take i) 1, mixUp 2 ((gs.zip ws).take i) 0 1 * m.v + z * m.c * mixLo ((gs.zip ws).take i) 1] = mixC gs ws (i + 1) := by
  unfold mixC
  rw [mixUp_take h, mixUp_take h, mixUp_take h]
  have e0 : m.u 0 = m.a := rfl
  have e1 : m.u 1 = m.b := rfl
  have e2 : m.u 2 = m.c := rfl
  rw [e0, e1, e2, Int.mul_comm z m.a, Int.mul_comm z m.b, Int.mul_comm z m.c]
theorem ok_mixed_game (T : Txt K mg ad) (D : Def K mg "mixed_game" st_mixed_game ps_of_mixed_game) : Has P w K mg base "mixed_game" 1 ps_of_mixed_game (spMG K) := by
  refine D.has sc_mixed_game (fun vs H Q E h => ?_) (fun f cdv A outer s H vs Q E hr h => ?_)
  · obtain ⟨l, wv, gs, ws, rfl, _⟩ := h
    rfl
  · obtain ⟨l, wv, gs, ws, rfl, ⟨as, hL, hA⟩, hW, hg, h4, hlw, h9, k⟩ := h
    have hal := games_len hA
    have hzl : (gs.zip ws).length = gs.length := by rw [List.length_zip]; omega
    refine ⟨_, (pss_cons (ps_set (i := 2) sc_mixed_game.nd rfl (by first | exact Or.inl rfl | exact Or.inr rfl) pe_int)
    (pss_cons (ps_set (i := 3) sc_mixed_game.nd rfl (by first | exact Or.inl rfl | exact Or.inr rfl) (pe_lst (pa_cons pe_int (pa_cons pe_int (pa_cons pe_int pa_nil)))))
    (pss_cons (ps_for PassesOwn.never rfl (pi_range1 rfl T.n_range (pa_cons (pe_callB (call_lenK (K := K) rfl) (by rfl) T.n_len bt_len (pa_cons (pv 0) pa_nil)) pa_nil)) (pg_name (i := 4) sc_mixed_game.nd rfl (by first | exact Or.inl rfl | exact Or.inr rfl)) (pss_cons (ps_set (i := 5) sc_mixed_game.nd rfl (by first | exact Or.inl rfl | exact Or.inr rfl) (pe_ix (ix_sqK (K := K) rfl) (pv 0) (pv 4) (fun _ _ => rfl)))
      (pss_cons (ps_set (i := 6) sc_mixed_game.nd rfl (by first | exact Or.inl rfl | exact Or.inr rfl) (pe_ix (ix_sqK (K := K) rfl) (pv 1) (pv 4) (fun _ _ => rfl)))
      (pss_cons (ps_set (i := 3) sc_mixed_game.nd rfl (by first | exact Or.inl rfl | exact Or.inr rfl) (pe_lc rfl sc_mixed_game.nd (pi_range1 rfl T.n_range (pa_cons pe_int pa_nil)) (blkOk_by (own := [("rest", 7)]) (by show blkC nm_mixed_game (defScope st_mixed_game) _ _ = true; decide +kernel)) (fun _ _ _ _ _ => pg_name (i := 7) sc_mixed_game.nd rfl (by first | exact Or.inl rfl | exact Or.inr rfl)) (fun _ _ _ _ _ => pts_nil) (fun _ _ _ _ _ => (pe_op op_add (pe_op op_mulB (pe_ix (ix_sqK (K := K) rfl) (pv 3) (pv 7) (fun _ _ => rfl)) (pe_ix (ix_sqK (K := K) rfl) (pv 5) pe_int (fun _ _ => rfl))) (pe_op op_mulB (pe_op op_mulB (pv 6) (pe_ix (ix_sqK (K := K) rfl) (pv 5) (pe_op op_add pe_int (pv 7)) (fun _ _ => rfl))) (pv 2))))))
      (pss_one (ps_set (i := 2) sc_mixed_game.nd rfl (by first | exact Or.inl rfl | exact Or.inr rfl) (pe_op op_mulB (pv 2) (pe_ix (ix_sqK (K := K) rfl) (pv 5) pe_int (fun _ _ => rfl)))))))))
    (pss_one (ps_ret (pe_tup (pa_cons (pe_op op_mulB (pv 2) (pe_callB (cr_sumK (K := K) rfl rfl) (by rfl) T.n_sum bt_sum (pa_cons (pv 1) pa_nil))) (pa_cons (pe_ix (ix_sqK (K := K) rfl) (pv 3) pe_int (fun _ _ => rfl)) (pa_cons (pe_ix (ix_sqK (K := K) rfl) (pv 3) pe_int (fun _ _ => rfl)) (pa_cons (pe_ix (ix_sqK (K := K) rfl) (pv 3) pe_int (fun _ _ => rfl)) pa_nil)))))))))), ?_⟩
    walk_at "rd"
    refine ⟨by show 3 ≤ sizeLine; decide, fun q0 hq0 => ?_⟩
    walk_at "rd"
    refine rd_lenL (Same.seq (same_new hq0) hL) ?_
    rw [List.length_map, hal]
    refine ⟨_, rfl, by omega, by omega, ?_⟩
    rw [Int.toNat_natCast]
    refine for_range (lo := 0) (n := gs.length) (fun i σ H' => ∃ (o1 o2 o3 o4 : Option V) (q : Addr), σ = [some (.ref l), some (.ref wv), some (.int (mixLo ((gs.zip ws).take i) 1)), some (.ref q), o1, o2, o3, o4] ∧ Same H H' ∧ H' q = some (.lst ((mixC gs ws i).map V.int)))
      ⟨_, _, _, _, q0, rfl, same_new hq0, upd_same⟩ ?_ ?_
    · rintro i σ H1 hi ⟨o1, o2, o3, o4, q, rfl, sm, hq⟩
      obtain ⟨a, ha⟩ : ∃ a, as[i]? = some a := ⟨_, List.getElem?_eq_getElem (by omega)⟩
      obtain ⟨m, hm1, hm2⟩ := games_get hA ha
      obtain ⟨z, hz⟩ : ∃ z, ws[i]? = some z := ⟨_, List.getElem?_eq_getElem (by omega)⟩
      have hzip : (gs.zip ws)[i]? = some (m, z) := by
        rw [List.getElem?_zip_eq_some]
        exact ⟨hm1, hz⟩
      have hs := small_of (hg m (List.mem_of_getElem? hm1))
      have hlo := mixLo_le4 (ws := ws) hg h4 i
      have hlp := mixLo_pos (l := (gs.zip ws).take i) (d := 1) (by decide) (fun x hx => (hg _ (mem_zip (List.mem_of_mem_take hx)).1).1.v0)
      walk_at "rd"
      refine rd_sqL (v := V.ref a) (Same.seq sm hL) (at_of (j := i) (by omega) (by rw [List.getElem?_map, ha]; rfl)) ?_
      walk_at "rd"
      refine rd_sqL (v := V.int z) (Same.seq sm hW) (at_of (j := i) (by omega) (by rw [List.getElem?_map, hz]; rfl)) ?_
      walk_at "rd"
      refine ⟨3, rfl, by decide, by decide, fun d hd => ?_⟩
      have hG : ∀ o, SqT K (upd H1 d o) a (gV m) := fun o => same_T (same_new hd) (same_T sm hm2)
      have hC : ∀ o, SqL K (upd H1 d o) q ((mixC gs ws i).map V.int) := fun o => Same.seq (same_new hd) (SqL.of hq)
      refine lc_range (lo := 0) (n := 3) (fun j H' => H' = upd H1 d (.lst (((mixC gs ws (i + 1)).take j).map V.int))) rfl ?_ ?_
      · rintro j H' hj rfl
        rw [← mixC_next hzip]
        walk_at "rd"
        refine ⟨rfl, ?_⟩
        walk_at "rd"
        refine iteT ?_
        walk_at "rd"
        obtain rfl | rfl | rfl : j = 0 ∨ j = 1 ∨ j = 2 := by omega
        · refine rd_sqL (hC _) rfl ?_
          walk_at "rd"
          refine rd_sqT (hG _) rfl ?_
          refine rd_rI (mul_r hs.v) ?_
          walk_at "rd"
          refine rd_sqT (hG _) rfl ?_
          refine rd_rI (mul_r hs.a) ?_
          walk_at "rd"
          refine rd_rI (mul_r ⟨by omega, by omega⟩) ?_
          walk_at "rd"
          refine ⟨_, upd_same, by show 0 < sizeLine; decide, ?_⟩
          rw [upd_upd]
          rfl
        · refine rd_sqL (hC _) rfl ?_
          walk_at "rd"
          refine rd_sqT (hG _) rfl ?_
          refine rd_rI (mul_r hs.v) ?_
          walk_at "rd"
          refine rd_sqT (hG _) rfl ?_
          refine rd_rI (mul_r hs.b) ?_
          walk_at "rd"
          refine rd_rI (mul_r ⟨by omega, by omega⟩) ?_
          walk_at "rd"
          refine ⟨_, upd_same, by show 1 < sizeLine; decide, ?_⟩
          rw [upd_upd]
          rfl
        · refine rd_sqL (hC _) rfl ?_
          walk_at "rd"
          refine rd_sqT (hG _) rfl ?_
          refine rd_rI (mul_r hs.v) ?_
          walk_at "rd"
          refine rd_sqT (hG _) rfl ?_
          refine rd_rI (mul_r hs.c) ?_
          walk_at "rd"
          refine rd_rI (mul_r ⟨by omega, by omega⟩) ?_
          walk_at "rd"
          refine ⟨_, upd_same, by show 2 < sizeLine; decide, ?_⟩
          rw [upd_upd]
          rfl
      · rintro H' rfl
        walk_at "rd"
        refine rd_sqT (hG _) rfl ?_
        refine rd_rI (mul_r hs.v) ?_
        walk_at "rd"
        exact ⟨some (V.int (0 + (i : Int))), some (V.ref a), some (V.int z), o4, d, by rw [mixLo_take hzip]; rfl, same_then sm hd, upd_same⟩
    · rintro σ H1 ⟨o1, o2, o3, o4, q, rfl, sm, hq⟩
      rw [List.take_of_length_le (show (gs.zip ws).length ≤ gs.length by omega)]
      have hq2 : H1 q = some (.lst [.int (mixG gs ws).a, .int (mixG gs ws).b, .int (mixG gs ws).c]) := by
        rw [hq]
        unfold mixC
        rw [List.take_of_length_le (show (gs.zip ws).length ≤ gs.length by omega)]
        rfl
      have hsum := sum_le9 fun z hz => (h9 z hz).2
      have hsum0 : 0 ≤ ws.sum := by
        by_cases c : ∀ z ∈ ws, z = 0
        · have := mixBad_is (gs := gs) (fun z hz => (h9 z hz).1) hlw
          unfold mixBad at this
          have e2 : (ws.all fun x => decide (x = 0)) = true := List.all_eq_true.mpr fun z hz => by simpa using c z hz
          have e3 : ws.sum = 0 := by
            clear this e2 hsum h9 hW hlw hzl hq hq2 k
            induction ws with
            | nil => rfl
            | cons y ys ih => rw [List.sum_cons, c y (by simp), ih fun z hz => c z (List.mem_cons_of_mem _ hz)]; rfl
          omega
        · have := sum_pos_of (fun z hz => (h9 z hz).1) c
          omega
      walk_at "rd"
      refine rd_sum (Same.seq sm hW) ?_
      refine rd_rI (mul_r ⟨by omega, by omega⟩) ?_
      walk_at "rd"
      refine rd_sqL (SqL.of hq2) rfl ?_
      walk_at "rd"
      refine rd_sqL (SqL.of hq2) rfl ?_
      walk_at "rd"
      refine rd_sqL (SqL.of hq2) rfl ?_
      walk_at "rd"
      exact ⟨by show 4 ≤ sizeLine; decide, fun p hp => k _ p (same_then sm hp) upd_same⟩
abbrev st_rows_of_length : Stmt := top 10
abbrev nm_rows_of_length : List Str := ["count", "length", "rows", "place", "longer", "row", "number"]
abbrev ps_of_rows_of_length : List Str := ["count", "length"]
theorem sc_rows_of_length : FnScope nm_rows_of_length ps_of_rows_of_length (defScope st_rows_of_length) := ⟨rfl, rfl, rfl, by decide +kernel, rfl, by decide +kernel, by decide +kernel⟩
/-- lists of numbers at addresses -/
abbrev Rows (H : Hp) : List Addr → List (List Nat) → Prop := Paired fun a r => H a = some (.lst ((Uw92.ints r).map V.int))
theorem rows_same {H H' : Hp} (e : Same H H') {ps : List Addr} {rs : List (List Nat)} (h : Rows H ps rs) : Rows H' ps rs := by
  induction h with
  | nil => exact .nil
  | cons h _ ih => exact .cons (e _ _ h) ih
theorem rows_len {H : Hp} {ps : List Addr} {rs : List (List Nat)} (h : Rows H ps rs) : ps.length = rs.length := by
  induction h with
  | nil => rfl
  | cons _ _ ih => rw [List.length_cons, List.length_cons, ih]
theorem rows_get {H : Hp} {ps : List Addr} {rs : List (List Nat)} (h : Rows H ps rs) : ∀ {i : Nat} {a : Addr}, ps[i]? = some a → ∃ r, rs[i]? = some r ∧ H a = some (.lst ((Uw92.ints r).map V.int)) := by
  induction h with
  | nil => intro i a e; simp at e
  | @cons x y xs ys h _ ih =>
    intro i a e
    cases i with
    | zero =>
      simp at e
      subst e
      exact ⟨y, rfl, h⟩
    | succ i =>
      obtain ⟨g, h1, h2⟩ := ih (i := i) (a := a) (by simpa using e)
      exact ⟨g, by simpa using h1, h2⟩
theorem rows_snoc {H : Hp} {a : Addr} {r : List Nat} (hn : H a = some (.lst ((Uw92.ints r).map V.int))) {ps : List Addr} {rs : List (List Nat)} (h : Rows H ps rs) : Rows H (ps ++ [a]) (rs ++ [r]) := by
  induction h with
  | nil => exact .cons hn .nil
  | cons h _ ih => exact .cons h ih
theorem rows_upd {H : Hp} {q : Addr} {o : HO} {ps : List Addr} {rs : List (List Nat)} (h : Rows H ps rs) (hne : ∀ a ∈ ps, a ≠ q) : Rows (upd H q o) ps rs := by
  induction h with
  | nil => exact .nil
  | @cons x y xs ys h _ ih => exact .cons (by rw [upd_ne (hne x (by simp))]; exact h) (ih fun a ha => hne a (List.mem_cons_of_mem _ ha))
/-- a list of references is none of the lists of numbers that it holds -/
theorem rows_ne {H : Hp} {q : Addr} {ps : List Addr} {rs : List (List Nat)} (h : Rows H ps rs) (hq : H q = some (.lst (ps.map V.ref))) : ∀ a ∈ ps, a ≠ q := by
  intro a ha e
  subst e
  obtain ⟨i, hi⟩ := List.mem_iff_getElem?.mp ha
  obtain ⟨r, _, hr⟩ := rows_get h hi
  rw [hq] at hr
  have e := HO.lst.inj (Option.some.inj hr)
  cases ps with
  | nil => simp at ha
  | cons p ps =>
    cases r with
    | nil => simp [Uw92.ints] at e
    | cons n r => simp [Uw92.ints] at e
def spRl (K : PySem.W.Frag) : Sp := fun vs H Q _ => ∃ c n : Nat, vs = [.int (c : Int), .int (n : Int)] ∧ c ≤ 4 ∧ n ≤ 4 ∧ ∀ (H' : Hp) (p : Addr) (ps : List Addr), Same H H' → H' p = some (.lst (ps.map V.ref)) → Rows H' ps (Uw92.rowsOf c n) → Q (.ref p) H'
theorem longer_take {n j : Nat} {rs : List (List Nat)} {r : List Nat} (h : rs[j]? = some r) : longer n (rs.take (j + 1)) = longer n (rs.take j) ++ (List.range n).map fun i => r ++ [i] := by
  unfold longer
  rw [List.take_add_one, h]
  simp
theorem longer_len (n : Nat) : ∀ rs : List (List Nat), (longer n rs).length = rs.length * n
  | [] => by simp [longer]
  | r :: rs => by
    have ih := longer_len n rs
    unfold longer at *
    rw [List.flatMap_cons, List.length_append, ih, List.length_map, List.length_range, List.length_cons, Nat.succ_mul]
    omega
theorem pow4_le {c n : Nat} (hc : c ≤ 4) (hn : n ≤ 4) : c ^ n ≤ 256 := by
  refine Nat.le_trans (Nat.pow_le_pow_left hc n) (Nat.le_trans (Nat.pow_le_pow_right (by decide) hn) (by decide))
theorem ok_rows_of_length (T : Txt K mg ad) (D : Def K mg "rows_of_length" st_rows_of_length ps_of_rows_of_length) : Has P w K mg base "rows_of_length" 1 ps_of_rows_of_length (spRl K) := by
  refine D.has sc_rows_of_length (fun vs H Q E h => ?_) (fun f cdv A outer s H vs Q E hr h => ?_)
  · obtain ⟨c, n, rfl, _⟩ := h
    rfl
  · obtain ⟨c, n, rfl, hc, hn, k⟩ := h
    refine ⟨_, (pss_cons (ps_set (i := 2) sc_rows_of_length.nd rfl (by first | exact Or.inl rfl | exact Or.inr rfl) (pe_lst (pa_cons (pe_lst pa_nil) pa_nil)))
    (pss_cons (ps_for PassesOwn.never rfl (pi_range1 rfl T.n_range (pa_cons (pv 1) pa_nil)) (pg_name (i := 3) sc_rows_of_length.nd rfl (by first | exact Or.inl rfl | exact Or.inr rfl)) (pss_cons (ps_set (i := 4) sc_rows_of_length.nd rfl (by first | exact Or.inl rfl | exact Or.inr rfl) (pe_lst pa_nil))
      (pss_cons (ps_for PassesOwn.never rfl (pi_list (pv 2)) (pg_name (i := 5) sc_rows_of_length.nd rfl (by first | exact Or.inl rfl | exact Or.inr rfl)) (pss_one (ps_for PassesOwn.never rfl (pi_range1 rfl T.n_range (pa_cons (pv 0) pa_nil)) (pg_name (i := 6) sc_rows_of_length.nd rfl (by first | exact Or.inl rfl | exact Or.inr rfl)) (pss_one (ps_expr (pe_bm PySem.F.plainAttrs_list PySem.F.slot_list_append PySem.F.type_list_append mt_append (pv 4) (pa_cons (pe_op op_cat (pv 5) (pe_lst (pa_cons (pv 6) pa_nil))) pa_nil)))))))
      (pss_one (ps_set (i := 2) sc_rows_of_length.nd rfl (by first | exact Or.inl rfl | exact Or.inr rfl) (pv 4))))))
    (pss_one (ps_ret (pv 2))))), ?_⟩
    walk_at "rd"
    refine ⟨Nat.zero_le _, fun q0 hq0 => ?_⟩
    walk_at "rd"
    refine ⟨by show 1 ≤ sizeLine; decide, fun q1 hq1 => ?_⟩
    walk_at "rd"
    refine ⟨_, rfl, by omega, by omega, ?_⟩
    rw [Int.toNat_natCast]
    refine for_range (lo := 0) (n := n) (fun i σ H' => ∃ (o1 o2 o3 o4 : Option V) (p : Addr) (ps : List Addr), σ = [some (.int (c : Int)), some (.int (n : Int)), some (.ref p), o1, o2, o3, o4] ∧ Same H H' ∧ H' p = some (.lst (ps.map V.ref)) ∧ Rows H' ps (Uw92.rowsOf c i))
      ⟨_, _, _, _, q1, [q0], rfl, same_then (same_new hq0) hq1, upd_same, .cons (by rw [upd_ne (ne_of_none upd_same hq1), upd_same]; rfl) .nil⟩ ?_ ?_
    · rintro i σ H1 hi ⟨o1, o2, o3, o4, p, ps, rfl, sm, hp, hR⟩
      have hlen := rowsOf_length c i
      have h256 := pow4_le hc (show i ≤ 4 by omega)
      walk_at "rd"
      refine ⟨Nat.zero_le _, fun q hq => ?_⟩
      walk_at "rd"
      have smq : ∀ o, Same H1 (upd H1 q o) := fun o => same_new hq
      refine ⟨_, rfl, p, rfl, ⟨_, SqL.of (smq _ _ _ hp)⟩, for_list (K := K) (a := p) (xs := ps.map V.ref) (fun j σ H2 => ∃ (o1 o2 : Option V) (qs : List Addr), σ = [some (.int (c : Int)), some (.int (n : Int)), some (.ref p), some (.int (0 + (i : Int))), some (.ref q), o1, o2] ∧ Same H1 H2 ∧ H2 q = some (.lst (qs.map V.ref)) ∧ Rows H2 qs (longer c ((Uw92.rowsOf c i).take j)))
        ⟨_, _, [], rfl, smq _, upd_same, .nil⟩ (fun j σ H2 _ ⟨_, _, _, _, s2, _, _⟩ => SqL.of (s2 _ _ hp)) ?_ ?_⟩
      · rintro j x σ H2 hj ⟨o1, o2, qs, rfl, s2, hq2, hR2⟩
        obtain ⟨a, ha, rfl⟩ := ref_at hj
        obtain ⟨r, hr1, hr2⟩ := rows_get hR ha
        have hrm := rowsOf_mem (List.mem_of_getElem? hr1)
        have hjl : j < (Uw92.rowsOf c i).length := (List.getElem?_eq_some_iff.mp hr1).1
        walk_at "rd"
        refine ⟨_, rfl, by omega, by omega, ?_⟩
        rw [Int.toNat_natCast]
        refine for_range (lo := 0) (n := c) (fun i2 σ H3 => ∃ (o2 : Option V) (qs : List Addr), σ = [some (.int (c : Int)), some (.int (n : Int)), some (.ref p), some (.int (0 + (i : Int))), some (.ref q), some (.ref a), o2] ∧ Same H1 H3 ∧ H3 q = some (.lst (qs.map V.ref)) ∧ Rows H3 qs (longer c ((Uw92.rowsOf c i).take j) ++ (List.range i2).map fun z => r ++ [z]))
          ⟨_, qs, rfl, s2, hq2, by simpa using hR2⟩ ?_ ?_
        · rintro i2 σ H3 hi2 ⟨o2, qs, rfl, s3, hq3, hR3⟩
          have hqlen := rows_len hR3
          rw [List.length_append, longer_len, List.length_take, List.length_map, List.length_range] at hqlen
          walk_at "rd"
          refine ⟨.inl ⟨rfl, _, SqL.of hq3⟩, ?_⟩
          walk_at "rd"
          refine ⟨by show 1 ≤ sizeLine; decide, fun b1 hb1 => ?_⟩
          have h1 : ∀ o, Same H3 (upd H3 b1 o) := fun o => same_new hb1
          refine rd_cat (h1 _ _ _ (s3 _ _ hr2)) upd_same ?_ fun b2 hb2 => ?_
          · rw [List.length_map]
            show (Uw92.ints r).length + 1 ≤ sizeLine
            have : (Uw92.ints r).length = r.length := by simp [Uw92.ints]
            have : 10 < sizeLine := by decide
            omega
          · walk_at "rd"
            have h2 := same_then (o := .lst ((Uw92.ints r).map V.int ++ [V.int (0 + (i2 : Int))])) (h1 (.lst [V.int (0 + (i2 : Int))])) hb2
            refine rd_app (h2 _ _ hq3) ?_ ?_
            · rw [List.length_map]
              have : 2000 < sizeLine := by decide
              have hmin : min j (Uw92.rowsOf c i).length ≤ 256 := by omega
              have := Nat.mul_le_mul hmin hc
              omega
            · have hR4 := rows_same h2 hR3
              have hne := rows_ne hR3 hq3
              have nb2 : b2 ≠ q := Ne.symm (ne_of_none (h1 _ _ _ hq3) hb2)
              have hb : (upd (upd H3 b1 (.lst [V.int (0 + (i2 : Int))])) b2 (.lst ((Uw92.ints r).map V.int ++ [V.int (0 + (i2 : Int))]))) b2 = some (.lst ((Uw92.ints (r ++ [i2])).map V.int)) := by
                rw [upd_same]
                congr 2
                simp [Uw92.ints]
              refine ⟨_, qs ++ [b2], rfl, ?_, ?_, ?_⟩
              · exact same_turn (Same.trans s3 h2) hq
              · rw [upd_same, List.map_append]
                rfl
              · rw [List.range_succ, List.map_append, ← List.append_assoc]
                refine rows_upd (rows_snoc hb hR4) fun z hz => ?_
                rcases List.mem_append.mp hz with hz | hz
                · exact hne z hz
                · simp at hz
                  subst hz
                  exact nb2
        · rintro σ H3 ⟨o2, qs, rfl, s3, hq3, hR3⟩
          refine ⟨_, _, qs, rfl, s3, hq3, ?_⟩
          rw [longer_take hr1]
          exact hR3
      · rintro σ H2 ⟨o1, o2, qs, rfl, s2, hq2, hR2⟩
        rw [List.length_map, rows_len hR, List.take_length, ← rowsOf_longer] at hR2
        walk_at "rd"
        exact ⟨_, _, _, _, q, qs, rfl, Same.trans sm s2, hq2, hR2⟩
    · rintro σ H1 ⟨o1, o2, o3, o4, p, ps, rfl, sm, hp, hR⟩
      walk_at "rd"
      exact k H1 p ps sm hp hR
end
end Lg
end

section
set_option Elab.async false
set_option linter.all false
set_option maxRecDepth 100000
set_option maxHeartbeats 400000
namespace Lg
open PySem PySem.Spec PyProof.Rows L2
open Builtin.Int (intBits)
local macro_rules | `(tactic| walk_at "rd") => `(tactic| repeat (first
  | with_reducible refine rd_seq ?_ | with_reducible refine rd_next ?_ | with_reducible refine rd_yes ?_ | with_reducible refine rd_sl ?_ | with_reducible refine rd_part ?_ | with_reducible refine rd_nopart ?_ | with_reducible refine rd_ei ?_ | with_reducible refine rd_fld ?_ | with_reducible refine rd_sfld ?_ | with_reducible refine rd_sfa ?_ | with_reducible refine rd_rAdd ?_ | with_reducible refine rd_rSub ?_ | with_reducible refine rd_asg ?_ | with_reducible refine rd_gname ?_ | with_reducible refine rd_ret ?_ | with_reducible refine rd_drop ?_ | with_reducible refine rd_if ?_
  | with_reducible refine rd_c ?_ | with_reducible refine rd_op ?_ | with_reducible refine rd_un ?_ | with_reducible refine rd_rU ?_ | with_reducible refine rd_rI0 ?_ | with_reducible refine rd_eqI ?_ | with_reducible refine rd_neI ?_
  | with_reducible refine rd_test ?_ | with_reducible refine rd_tB ?_ | with_reducible refine rd_bl ?_ | with_reducible refine rd_not ?_ | with_reducible refine rd_and ?_ | with_reducible refine rd_or ?_ | with_reducible refine rd_andV ?_ | with_reducible refine rd_orV ?_
  | with_reducible refine rd_cons ?_ | with_reducible refine rd_nil ?_ | with_reducible refine rd_lst ?_ | with_reducible refine rd_tup ?_ | with_reducible refine rd_cb ?_ | with_reducible refine rd_call ?_
  | with_reducible refine rd_augS ?_ | with_reducible refine rd_ip ?_ | with_reducible refine rd_gsub ?_ | with_reducible refine rd_bm ?_ | with_reducible refine rd_bm0 ?_
  | refine rd_var (by rfl) ?_))

section
variable {P : Program} {w : World} {K : PySem.W.Frag} {mg : Str → Option Value} {base : Heap} {ad : String → Addr}
abbrev st_parts_by_wins : Stmt := top 14
abbrev nm_parts_by_wins : List Str := ["had", "games", "parts", "played", "game", "behind", "wins", "won"]
abbrev ps_of_parts_by_wins : List Str := ["had", "games"]
theorem sc_parts_by_wins : FnScope nm_parts_by_wins ps_of_parts_by_wins (defScope st_parts_by_wins) := ⟨rfl, rfl, rfl, by decide +kernel, rfl, by decide +kernel, by decide +kernel⟩
def spPW (K : PySem.W.Frag) : Sp := fun vs H Q _ => ∃ (r : Addr) (row : List Gm) (had : Int), vs = [.int had, .ref r] ∧ RowAt K H r row ∧ (∀ g ∈ row, g.Small) ∧ row.length ≤ 30 ∧
  ∀ (H' : Hp) (p : Addr), Same H H' → H' p = some (.lst ((partsW had row row.length).map V.int)) → Q (.ref p) H'
theorem gV_at (m : Gm) (z : Int) : atI (gV m) (1 + z % 3) = some (V.int (m.u (Uw92.restOf z))) := by
  have h : Uw92.restOf z = 0 ∧ z % 3 = 0 ∨ Uw92.restOf z = 1 ∧ z % 3 = 1 ∨ Uw92.restOf z = 2 ∧ z % 3 = 2 := by
    unfold Uw92.restOf
    omega
  rcases h with ⟨h1, h2⟩ | ⟨h1, h2⟩ | ⟨h1, h2⟩ <;> rw [h1, h2] <;> rfl
theorem u_small {m : Gm} (h : m.Small) (r : Nat) : -(2 ^ 62) < m.u r ∧ m.u r < 2 ^ 62 := by
  unfold Gm.u
  split
  · exact h.a
  · split
    · exact h.b
    · exact h.c
theorem rep_zero (n : Nat) : (List.replicate n ([V.int 0] : List V)).flatten = (List.replicate n (0 : Int)).map V.int := by
  induction n with
  | zero => rfl
  | succ n ih => rw [List.replicate_succ, List.flatten_cons, ih, List.replicate_succ]; rfl
theorem ixN_nat {n i : Nat} {z : Int} (e : z = (i : Int)) (h : i < n) : ixN n z = some i := by
  subst e
  unfold ixN
  rw [if_pos (by omega), if_pos (by omega), Int.toNat_natCast]
theorem ok_parts_by_wins (T : Txt K mg ad) (D : Def K mg "parts_by_wins" st_parts_by_wins ps_of_parts_by_wins) : Has P w K mg base "parts_by_wins" 1 ps_of_parts_by_wins (spPW K) := by
  refine D.has sc_parts_by_wins (fun vs H Q E h => ?_) (fun f cdv A outer s H vs Q E hr h => ?_)
  · obtain ⟨r, row, had, rfl, _⟩ := h
    rfl
  · obtain ⟨r, row, had, rfl, ⟨as, hL, hA⟩, hm, hl, k⟩ := h
    have hal := games_len hA
    have hbig : 100 < sizeLine := by decide
    refine ⟨_, (pss_cons (ps_set (i := 2) sc_parts_by_wins.nd rfl (by first | exact Or.inl rfl | exact Or.inr rfl) (pe_lst (pa_cons pe_int pa_nil)))
    (pss_cons (ps_for PassesOwn.never rfl (pi_range1 rfl T.n_range (pa_cons (pe_callB (call_lenK (K := K) rfl) (by rfl) T.n_len bt_len (pa_cons (pv 1) pa_nil)) pa_nil)) (pg_name (i := 3) sc_parts_by_wins.nd rfl (by first | exact Or.inl rfl | exact Or.inr rfl)) (pss_cons (ps_set (i := 4) sc_parts_by_wins.nd rfl (by first | exact Or.inl rfl | exact Or.inr rfl) (pe_ix (ix_sqK (K := K) rfl) (pv 1) (pv 3) (fun _ _ => rfl)))
      (pss_cons (ps_set (i := 5) sc_parts_by_wins.nd rfl (by first | exact Or.inl rfl | exact Or.inr rfl) (pe_op op_rep (pe_lst (pa_cons pe_int pa_nil)) (pe_op op_add (pv 3) pe_int)))
      (pss_cons (ps_for PassesOwn.never rfl (pi_range1 rfl T.n_range (pa_cons (pe_op op_add (pv 3) pe_int) pa_nil)) (pg_name (i := 6) sc_parts_by_wins.nd rfl (by first | exact Or.inl rfl | exact Or.inr rfl)) (pss_cons (ps_set (i := 7) sc_parts_by_wins.nd rfl (by first | exact Or.inl rfl | exact Or.inr rfl) (pe_ix (ix_sqK (K := K) rfl) (pv 4) (pe_op op_add pe_int (pe_op op_mod (pe_op op_sub (pe_op op_add (pv 0) (pe_op op_mulB pe_int (pv 6))) (pv 3)) pe_int)) (fun _ _ => rfl)))
        (pss_cons (ps_augS (pv 5) (pe_op op_add (pv 6) pe_int) get_list (pe_op op_mulB (pe_ix (ix_sqK (K := K) rfl) (pv 2) (pv 6) (fun _ _ => rfl)) (pv 7)) ip_add set_list)
        (pss_one (ps_augS (pv 5) (pv 6) get_list (pe_op op_mulB (pe_ix (ix_sqK (K := K) rfl) (pv 2) (pv 6) (fun _ _ => rfl)) (pe_op op_sub (pe_ix (ix_sqK (K := K) rfl) (pv 4) pe_int (fun _ _ => rfl)) (pv 7))) ip_add set_list)))))
      (pss_one (ps_set (i := 2) sc_parts_by_wins.nd rfl (by first | exact Or.inl rfl | exact Or.inr rfl) (pv 5)))))))
    (pss_one (ps_ret (pv 2))))), ?_⟩
    walk_at "rd"
    refine ⟨by show 1 ≤ sizeLine; decide, fun q0 hq0 => ?_⟩
    walk_at "rd"
    refine rd_lenL (Same.seq (same_new hq0) hL) ?_
    rw [List.length_map, hal]
    refine ⟨_, rfl, by omega, by omega, ?_⟩
    rw [Int.toNat_natCast]
    refine for_range (lo := 0) (n := row.length) (fun i σ H' => ∃ (o1 o2 o3 o4 o5 : Option V) (q : Addr), σ = [some (.int had), some (.ref r), some (.ref q), o1, o2, o3, o4, o5] ∧ Same H H' ∧ H' q = some (.lst ((partsW had row i).map V.int)))
      ⟨_, _, _, _, _, q0, rfl, same_new hq0, upd_same⟩ ?_ ?_
    · rintro i σ H1 hi ⟨o1, o2, o3, o4, o5, q, rfl, sm, hq⟩
      obtain ⟨a, ha⟩ : ∃ a, as[i]? = some a := ⟨_, List.getElem?_eq_getElem (by omega)⟩
      obtain ⟨m, hm1, hm2⟩ := games_get hA ha
      have hs := hm m (List.mem_of_getElem? hm1)
      walk_at "rd"
      refine rd_sqL (v := V.ref a) (Same.seq sm hL) (at_of (j := i) (by omega) (by rw [List.getElem?_map, ha]; rfl)) ?_
      walk_at "rd"
      refine ⟨by show 1 ≤ sizeLine; decide, fun b0 hb0 => ?_⟩
      walk_at "rd"
      refine rd_rep upd_same (by omega) (by omega) (by show 1 * _ ≤ sizeLine; omega) fun b hb => ?_
      have e0 : (0 + (i : Int) + 2).toNat = i + 2 := by omega
      rw [e0, rep_zero, ← mid_zero had row m i]
      generalize hH2 : upd H1 b0 (.lst [V.int 0]) = H2 at *
      have s12 : Same H1 H2 := by rw [← hH2]; exact same_new hb0
      have sb : ∀ o, Same H2 (upd H2 b o) := fun o => same_new hb
      have hG : ∀ o, SqT K (upd H2 b o) a (gV m) := fun o => same_T (sb o) (same_T s12 (same_T sm hm2))
      have hP : ∀ o, SqL K (upd H2 b o) q ((partsW had row i).map V.int) := fun o => Same.seq (sb o) (Same.seq s12 (SqL.of hq))
      walk_at "rd"
      refine ⟨_, rfl, _, _, rfl, rfl, _, rfl, by omega, by omega, ?_⟩
      have e1 : (0 + (i : Int) + 1).toNat = i + 1 := by omega
      rw [e1]
      refine for_range (lo := 0) (n := i + 1) (fun j σ H' => ∃ (o1 o2 : Option V), σ = [some (.int had), some (.ref r), some (.ref q), some (.int (0 + (i : Int))), some (.ref a), some (.ref b), o1, o2] ∧ H' = upd H2 b (.lst ((midsW had row m i j).map V.int)))
        ⟨_, _, rfl, rfl⟩ ?_ ?_
      · rintro j σ H' hj ⟨o1, o2, rfl, rfl⟩
        walk_at "rd"
        refine rd_rI (mul_r ⟨by omega, by omega⟩) ?_
        walk_at "rd"
        refine rd_rI (by decide) ?_
        walk_at "rd"
        refine rd_sqT (hG _) (gV_at m _) ?_
        have ez : had + 2 * (0 + (j : Int)) - (0 + (i : Int)) = had + 2 * (j : Int) - (i : Int) := by omega
        rw [ez]
        walk_at "rd"
        have eu : m.u (Uw92.restOf (had + 2 * (j : Int) - (i : Int))) = upW had m i j := rfl
        rw [eu]
        refine rd_get (v := V.int (midW had row m i j (j + 1))) (SqL.of upd_same) (by omega) (by
          have e : (0 + (j : Int) + 1).toNat = j + 1 := by omega
          rw [e, List.getElem?_map, mids_get (by omega)]
          rfl) ?_
        walk_at "rd"
        refine rd_sqL (v := V.int (partW had row i j)) (hP _) (at_of (j := j) (by omega) (by rw [List.getElem?_map, parts_get (by omega)]; rfl)) ?_
        walk_at "rd"
        refine rd_rI (mul_r (u_small hs _)) ?_
        walk_at "rd"
        refine rd_setL (n := j + 1) upd_same (ixN_nat (by omega) (by rw [List.length_map, mids_len]; omega)) ?_
        rw [upd_upd]
        walk_at "rd"
        refine rd_get (v := V.int (midW had row m i j j)) (SqL.of upd_same) (by omega) (by
          have e : (0 + (j : Int)).toNat = j := by omega
          rw [e, List.getElem?_set_ne (by omega), List.getElem?_map, mids_get (by omega)]
          rfl) ?_
        walk_at "rd"
        refine rd_sqL (v := V.int (partW had row i j)) (hP _) (at_of (j := j) (by omega) (by rw [List.getElem?_map, parts_get (by omega)]; rfl)) ?_
        walk_at "rd"
        refine rd_sqT (hG _) rfl ?_
        walk_at "rd"
        refine rd_rI (mul_d hs.v (u_small hs _)) ?_
        walk_at "rd"
        refine rd_setL (n := j) upd_same (ixN_nat (by omega) (by rw [List.length_set, List.length_map, mids_len]; omega)) ?_
        refine ⟨_, _, rfl, ?_⟩
        rw [upd_upd, ← mid_step hj, List.map_set, List.map_set]
      · rintro σ H' ⟨o1, o2, rfl, rfl⟩
        rw [mid_full hm1]
        walk_at "rd"
        exact ⟨_, _, _, _, _, b, rfl, same_then (Same.trans sm s12) hb, upd_same⟩
    · rintro σ H1 ⟨o1, o2, o3, o4, o5, q, rfl, sm, hq⟩
      walk_at "rd"
      exact k H1 q sm hq
abbrev st_chance_of_more : Stmt := top 15
abbrev nm_chance_of_more : List Str := ["had", "more", "games", "count", "parts"]
abbrev ps_of_chance_of_more : List Str := ["had", "more", "games"]
theorem sc_chance_of_more : FnScope nm_chance_of_more ps_of_chance_of_more (defScope st_chance_of_more) := ⟨rfl, rfl, rfl, by decide +kernel, rfl, by decide +kernel, by decide +kernel⟩
def chanceI (had more : Int) (row : List Gm) : List Int := if (row.length : Int) < more then [0, 1] else twoI (distAll had row dist0 more) (vprod row)
theorem twoI_zero {d : Int} (h : 0 < d) : twoI 0 d = [0, 1] := by
  have e : gcdI 0 d = d := by
    unfold gcdI
    rw [Int.natAbs_zero, Nat.gcd_zero_left, Int.toNat_of_nonneg (by omega)]
  unfold twoI
  rw [e, Int.zero_ediv, Int.ediv_self (by omega)]
def spCh (K : PySem.W.Frag) : Sp := fun vs H Q _ => ∃ (r : Addr) (row : List Gm) (had more : Int), vs = [.int had, .int more, .ref r] ∧ RowAt K H r row ∧ (∀ g ∈ row, g.Fit) ∧ row.length ≤ 30 ∧ 0 ≤ more ∧
  ∀ (H' : Hp) (p : Addr), Same H H' → H' p = some (.lst ((chanceI had more row).map V.int)) → Q (.ref p) H'
theorem ok_chance_of_more (T : Txt K mg ad) (D : Def K mg "chance_of_more" st_chance_of_more ps_of_chance_of_more) (C_parts_by_wins : Has P w K mg base "parts_by_wins" 1 ps_of_parts_by_wins (spPW K)) (C_lowest_terms : Has P w K mg base "lowest_terms" 1 ps_of_lowest_terms spLT) :
    Has P w K mg base "chance_of_more" 2 ps_of_chance_of_more (spCh K) := by
  refine D.has sc_chance_of_more (fun vs H Q E h => ?_) (fun f cdv A outer s H vs Q E hr h => ?_)
  · obtain ⟨r, row, had, more, rfl, _⟩ := h
    rfl
  · obtain ⟨r, row, had, more, rfl, hR, hf, hl, h0, k⟩ := h
    have hpos := vprod_pos (row := row) fun g hg => (hf g hg).ok.v0
    obtain ⟨as, hL, hA⟩ := id hR
    refine ⟨_, (pss_cons (ps_set (i := 3) sc_chance_of_more.nd rfl (by first | exact Or.inl rfl | exact Or.inr rfl) (pe_callB (call_lenK (K := K) rfl) (by rfl) T.n_len bt_len (pa_cons (pv 2) pa_nil)))
    (pss_cons (ps_if (PW.pt (pw_or (pt_cmpR op_gt (pv 1) (pv 3) (nomark _)) (pw_or1 (pt_cmpR op_eq (pe_op op_mod (pe_op op_add (pv 3) (pv 1)) pe_int) pe_int (nomark _))))) (pss_one (ps_ret (pe_lst (pa_cons pe_int (pa_cons pe_int pa_nil))))) pss_nil)
    (pss_cons (ps_set (i := 4) sc_chance_of_more.nd rfl (by first | exact Or.inl rfl | exact Or.inr rfl) (pe_callH C_parts_by_wins hr rfl (pa_cons (pv 0) (pa_cons (pv 2) pa_nil))))
    (pss_one (ps_ret (pe_callH C_lowest_terms hr rfl (pa_cons (pe_ix (ix_sqK (K := K) rfl) (pv 4) (pe_op op_fdivB (pe_op op_add (pv 3) (pv 1)) pe_int) (fun _ _ => rfl)) (pa_cons (pe_callB (cr_sumK (K := K) rfl rfl) (by rfl) T.n_sum bt_sum (pa_cons (pv 4) pa_nil)) pa_nil)))))))), ?_⟩
    walk_at "rd"
    refine rd_lenL hL ?_
    rw [List.length_map, games_len hA]
    walk_at "rd"
    refine ite2 (fun hc => ?_) (fun hc => ?_)
    · have h1 : (row.length : Int) < more := by simpa using hc
      refine iteT ?_
      walk_at "rd"
      refine ⟨by show 2 ≤ sizeLine; decide, fun p hp => k _ p (same_new hp) ?_⟩
      rw [upd_same, chanceI, if_pos h1]
      rfl
    · have h1 : ¬ (row.length : Int) < more := by simpa using hc
      walk_at "rd"
      refine rd_rI (by decide) ?_
      walk_at "rd"
      refine ite2 (fun hc => ?_) (fun hc => ?_)
      · have h2 : ((row.length : Int) + more) % 2 = 1 := by simpa using hc
        walk_at "rd"
        refine ⟨by show 2 ≤ sizeLine; decide, fun p hp => k _ p (same_new hp) ?_⟩
        rw [upd_same, chanceI, if_neg h1, chance_odd h2, twoI_zero hpos]
        rfl
      · have h2 : ((row.length : Int) + more) % 2 = 0 := by
          have : ¬ ((row.length : Int) + more) % 2 = 1 := by simpa using hc
          omega
        walk_at "rd"
        refine ⟨r, row, had, rfl, hR, fun g hg => (hf g hg).small, hl, fun H1 q sm hq => ?_⟩
        walk_at "rd"
        refine rd_rI ⟨by decide, by decide⟩ ?_
        obtain ⟨y, rfl⟩ : ∃ y : Nat, more = (y : Int) := ⟨more.toNat, by omega⟩
        have hpa := part_at (x := had) (row := row) (y := y) (by omega) h2
        refine rd_sqL (v := V.int (distAll had row dist0 (y : Int))) (SqL.of hq) (at_of (j := (row.length + y) / 2) (by omega) (by rw [List.getElem?_map, hpa]; rfl)) ?_
        walk_at "rd"
        refine rd_sum (SqL.of hq) ?_
        rw [parts_sum (Nat.le_refl _), List.take_length]
        walk_at "rd"
        refine ⟨_, vprod row, rfl, hpos, vprod_bits hf hl, fun p hp => k _ p (same_then sm hp) ?_⟩
        rw [upd_same, chanceI, if_neg h1]
        rfl
end
end Lg
end

section
set_option Elab.async false
set_option linter.all false
set_option maxRecDepth 100000
set_option maxHeartbeats 200000
namespace Lg
open PySem PySem.Spec PyProof.Rows L2
open Builtin.Int (intBits)
local macro_rules | `(tactic| walk_at "rd") => `(tactic| repeat (first
  | with_reducible refine rd_seq ?_ | with_reducible refine rd_next ?_ | with_reducible refine rd_yes ?_ | with_reducible refine rd_sl ?_ | with_reducible refine rd_part ?_ | with_reducible refine rd_nopart ?_ | with_reducible refine rd_ei ?_ | with_reducible refine rd_fld ?_ | with_reducible refine rd_sfld ?_ | with_reducible refine rd_sfa ?_ | with_reducible refine rd_rAdd ?_ | with_reducible refine rd_rSub ?_ | with_reducible refine rd_asg ?_ | with_reducible refine rd_gname ?_ | with_reducible refine rd_ret ?_ | with_reducible refine rd_drop ?_ | with_reducible refine rd_if ?_
  | with_reducible refine rd_c ?_ | with_reducible refine rd_op ?_ | with_reducible refine rd_un ?_ | with_reducible refine rd_rU ?_ | with_reducible refine rd_rI0 ?_ | with_reducible refine rd_eqI ?_ | with_reducible refine rd_neI ?_
  | with_reducible refine rd_test ?_ | with_reducible refine rd_tB ?_ | with_reducible refine rd_bl ?_ | with_reducible refine rd_not ?_ | with_reducible refine rd_and ?_ | with_reducible refine rd_or ?_ | with_reducible refine rd_andV ?_ | with_reducible refine rd_orV ?_
  | with_reducible refine rd_cons ?_ | with_reducible refine rd_nil ?_ | with_reducible refine rd_lst ?_ | with_reducible refine rd_tup ?_ | with_reducible refine rd_cb ?_ | with_reducible refine rd_call ?_
  | with_reducible refine rd_augS ?_ | with_reducible refine rd_ip ?_ | with_reducible refine rd_gsub ?_ | with_reducible refine rd_bm ?_ | with_reducible refine rd_bm0 ?_
  | refine rd_var (by rfl) ?_))

section
variable {P : Program} {w : World} {K : PySem.W.Frag} {mg : Str → Option Value} {base : Heap} {ad : String → Addr}
/-! ### the table -/
def tf (l : Addr) (had : Int) : List (Str × V) := [("games", .ref l), ("had", .int had)]
theorem tf_games (l : Addr) (had : Int) : (tf l had).lookup ("games" : Str) = some (.ref l) := rfl
theorem tf_had (l : Addr) (had : Int) : (tf l had).lookup ("had" : Str) = some (.int had) := by
  unfold tf
  rw [List.lookup_cons, show (("had" : Str) == "games") = false by decide +kernel]
  rfl
theorem tf_put (l : Addr) (had z : Int) : putF "had" (.int z) (tf l had) = tf l z := by
  show (if ("games" : Str) = "had" then _ else (("games" : Str), V.ref l) :: (if ("had" : Str) = "had" then [(("had" : Str), V.int z)] else _)) = _
  rw [if_neg (by decide +kernel), if_pos rfl]
  rfl
structure TabC (K : PySem.W.Frag) (C : Addr) : Prop where
  cl : Cls K C
  nG : NoAttr K C "games"
  nH : NoAttr K C "had"
structure TableAt (K : PySem.W.Frag) (C : Addr) (H : Hp) (t l : Addr) (as : List Addr) (gs : List Gm) (had : Int) : Prop where
  obj : ∃ dx, H t = some (.ins C dx (tf l had))
  lst : H l = some (.lst (as.map V.ref))
  games : GamesAt K H as gs
/-- what stood besides the table stands -/
def Kept (H H' : Hp) (t l : Addr) : Prop := ∀ b o, H b = some o → b ≠ t → b ≠ l → H' b = some o
theorem kept_same {H H' : Hp} {t l : Addr} (h : Same H H') : Kept H H' t l := fun b o e _ _ => h b o e
theorem table_same {C : Addr} {H H' : Hp} {t l : Addr} {as : List Addr} {gs : List Gm} {had : Int} (h : TableAt K C H t l as gs had) (e : Same H H') : TableAt K C H' t l as gs had := by
  obtain ⟨⟨dx, h1⟩, h2, h3⟩ := h
  exact ⟨⟨dx, e _ _ h1⟩, e _ _ h2, games_same e h3⟩
/-- a tuple stands whatever is written at a list or an instance -/
theorem sqT_upd {H : Hp} {a t : Addr} {xs : List V} {o u : HO} (h : SqT K H a xs) (ht : H t = some o) (n1 : ∀ ys, o ≠ .tup ys) (n2 : ∀ b v, o ≠ .frz b v) : SqT K (upd H t u) a xs := by
  rcases h with (h | ⟨b, h⟩) | h
  · exact .inl (.inl (by rw [upd_ne (ne_of h ht fun e => n1 _ e.symm)]; exact h))
  · exact .inl (.inr ⟨b, by rw [upd_ne (ne_of h ht fun e => n2 _ _ e.symm)]; exact h⟩)
  · exact .inr h
theorem games_upd {H : Hp} {t : Addr} {o u : HO} (ht : H t = some o) (n1 : ∀ ys, o ≠ .tup ys) (n2 : ∀ b v, o ≠ .frz b v) {as : List Addr} {gs : List Gm} (h : GamesAt K H as gs) : GamesAt K (upd H t u) as gs := by
  induction h with
  | nil => exact .nil
  | cons h _ ih => exact .cons (sqT_upd h ht n1 n2) ih
theorem tab_ne {C : Addr} {H : Hp} {t l : Addr} {as : List Addr} {gs : List Gm} {had : Int} (h : TableAt K C H t l as gs had) : t ≠ l := by
  obtain ⟨dx, h1⟩ := h.obj
  exact ne_of h1 h.lst (by intro e; cases e)
theorem fld_games {C : Addr} {H : Hp} {t l : Addr} {as : List Addr} {gs : List Gm} {had : Int} {R : V → Prop} (TC : TabC K C) (h : TableAt K C H t l as gs had) (q : R (.ref l)) :
    ∃ a C dx fs v, V.ref t = .ref a ∧ H a = some (.ins C dx fs) ∧ Cls K C ∧ NoAttr K C "games" ∧ fs.lookup ("games" : Str) = some v ∧ R v := by
  obtain ⟨dx, h1⟩ := h.obj
  exact ⟨t, C, dx, _, _, rfl, h1, TC.cl, TC.nG, tf_games _ _, q⟩
theorem fld_had {C : Addr} {H : Hp} {t l : Addr} {as : List Addr} {gs : List Gm} {had : Int} {R : V → Prop} (TC : TabC K C) (h : TableAt K C H t l as gs had) (q : R (.int had)) :
    ∃ a C dx fs v, V.ref t = .ref a ∧ H a = some (.ins C dx fs) ∧ Cls K C ∧ NoAttr K C "had" ∧ fs.lookup ("had" : Str) = some v ∧ R v := by
  obtain ⟨dx, h1⟩ := h.obj
  exact ⟨t, C, dx, _, _, rfl, h1, TC.cl, TC.nH, tf_had _ _, q⟩
/-- what one has is another -/
theorem table_had {C : Addr} {H : Hp} {t l dx : Addr} {as : List Addr} {gs : List Gm} {had z : Int} (h : TableAt K C H t l as gs had) (h1 : H t = some (.ins C dx (tf l had))) : TableAt K C (upd H t (.ins C dx (putF "had" (.int z) (tf l had)))) t l as gs z := by
  refine ⟨⟨dx, by rw [upd_same, tf_put]⟩, ?_, games_upd h1 (by intro ys e; cases e) (by intro b v e; cases e) h.games⟩
  rw [upd_ne (Ne.symm (tab_ne h))]
  exact h.lst
theorem kept_t {H : Hp} {t l : Addr} {o : HO} : Kept H (upd H t o) t l := fun b u e n _ => by
  rw [upd_ne n]
  exact e
theorem kept_l {H : Hp} {t l : Addr} {o : HO} : Kept H (upd H l o) t l := fun b u e _ n => by
  rw [upd_ne n]
  exact e
theorem kept_trans {H H1 H2 : Hp} {t l : Addr} (a : Kept H H1 t l) (b : Kept H1 H2 t l) : Kept H H2 t l := fun c o e n1 n2 => b c o (a c o e n1 n2) n1 n2
/-- what an answering def promises: a new list of numbers, and the table behind it -/
def Told (K : PySem.W.Frag) (C : Addr) (H : Hp) (Q : VK) (t l : Addr) (gs : List Gm) (had : Int) (ans : List Int) : Prop :=
  ∀ (H' : Hp) (p : Addr) (as : List Addr), Kept H H' t l → H' p = some (.lst (ans.map V.int)) → p ≠ t → p ≠ l → H p = none → TableAt K C H' t l as gs had → Q (.ref p) H'
abbrev st_Tableinit : Stmt := inClass (top 38) 0
abbrev nm_Tableinit : List Str := ["self"]
abbrev ps_of_Tableinit : List Str := ["self"]
theorem sc_Tableinit : FnScope nm_Tableinit ps_of_Tableinit (defScope st_Tableinit) := ⟨rfl, rfl, rfl, by decide +kernel, rfl, by decide +kernel, by decide +kernel⟩
def spInit (C : Addr) : Sp := fun vs H Q _ => ∃ (p dx : Addr), vs = [.ref p] ∧ H p = some (.ins C dx []) ∧ ∀ (H' : Hp) (l : Addr), H l = none → H' p = some (.ins C dx (tf l 0)) → H' l = some (.lst []) → (∀ b o, H b = some o → b ≠ p → H' b = some o) → Q .non H'
theorem ok_init {C f : Addr} {fd : FuncData} (TC : TabC K C) (F : Fun K "__init__" "Table.__init__" st_Tableinit f fd) : FnOk P w K mg base CX0 1 f fd ps_of_Tableinit (spInit C) := by
  refine F.ok sc_Tableinit (fun vs H Q E h => ?_) (fun cdv A outer s H vs Q E hr h => ?_)
  · obtain ⟨p, dx, rfl, _⟩ := h
    rfl
  · obtain ⟨p, dx, rfl, hp, k⟩ := h
    refine ⟨_, (pss_cons (ps_fld (pv 0) (pe_lst pa_nil) rfl)
    (pss_one (ps_fld (pv 0) pe_int rfl))), ?_⟩
    walk_at "rd"
    refine ⟨Nat.zero_le _, fun l hl => ?_⟩
    walk_at "rd"
    have e1 : (upd H l (.lst [])) p = some (.ins C dx []) := same_new hl _ _ hp
    have npl : p ≠ l := ne_of_none hp hl
    refine ⟨p, C, dx, _, rfl, e1, TC.cl, TC.nG, by show 0 < 1000; decide, ?_⟩
    walk_at "rd"
    refine ⟨p, C, dx, _, rfl, upd_same, TC.cl, TC.nH, by show 1 < 1000; decide, ?_⟩
    refine k _ l hl ?_ ?_ ?_
    · rw [upd_same]
      have : putF "had" (.int 0) (putF "games" (.ref l) []) = tf l 0 := by
        show (if ("games" : Str) = "had" then _ else [(("games" : Str), V.ref l), ("had", V.int 0)]) = _
        rw [if_neg (by decide +kernel)]
        rfl
      rw [this]
    · rw [upd_ne (Ne.symm npl), upd_ne (Ne.symm npl), upd_same]
    · intro b o e n
      rw [upd_ne n, upd_ne n]
      exact same_new hl _ _ e
abbrev st_have : Stmt := top 42
abbrev nm_have : List Str := ["table", "numbers"]
abbrev ps_of_have : List Str := ["table", "numbers"]
theorem sc_have : FnScope nm_have ps_of_have (defScope st_have) := ⟨rfl, rfl, rfl, by decide +kernel, rfl, by decide +kernel, by decide +kernel⟩
def spHave (K : PySem.W.Frag) (C : Addr) : Sp := fun vs H Q _ => ∃ (t l n : Addr) (as : List Addr) (gs : List Gm) (had x : Int), vs = [.ref t, .ref n] ∧ TableAt K C H t l as gs had ∧ SqL K H n [.int x] ∧
  Told K C H Q t l gs (if 1000000 < x then had else x) (if 1000000 < x then [-1] else [0])
theorem ok_have {C : Addr} (T : Txt K mg ad) (TC : TabC K C) (D : Def K mg "have" st_have ps_of_have) : Has P w K mg base "have" 1 ps_of_have (spHave K C) := by
  refine D.has sc_have (fun vs H Q E h => ?_) (fun f cdv A outer s H vs Q E hr h => ?_)
  · obtain ⟨t, l, n, as, gs, had, x, rfl, _⟩ := h
    rfl
  · obtain ⟨t, l, n, as, gs, had, x, rfl, hT, hN, k⟩ := h
    refine ⟨_, (pss_cons (ps_if (pt_cmpR op_gt (pe_ix (ix_sqK (K := K) rfl) (pv 1) pe_int (fun _ _ => rfl)) (pe_gint rfl T.g_MOST_HAD) (nomark _)) (pss_one (ps_ret (pe_lst (pa_cons (pe_un un_neg pe_int) pa_nil)))) pss_nil)
    (pss_cons (ps_fld (pv 0) (pe_ix (ix_sqK (K := K) rfl) (pv 1) pe_int (fun _ _ => rfl)) rfl)
    (pss_one (ps_ret (pe_lst (pa_cons pe_int pa_nil)))))), ?_⟩
    walk_at "rd"
    refine rd_sqL hN rfl ?_
    walk_at "rd"
    refine ite2 (fun hc => ?_) (fun hc => ?_)
    · have h1 : 1000000 < x := by simpa using hc
      walk_at "rd"
      refine ⟨by show 1 ≤ sizeLine; decide, fun p hp => ?_⟩
      rw [if_pos h1, if_pos h1] at k
      exact k _ p as (kept_same (same_new hp)) upd_same (Ne.symm (ne_of_none hT.obj.choose_spec hp)) (Ne.symm (ne_of_none hT.lst hp)) hp (table_same hT (same_new hp))
    · have h1 : ¬ 1000000 < x := by simpa using hc
      rw [if_neg h1, if_neg h1] at k
      walk_at "rd"
      refine rd_sqL hN rfl ?_
      walk_at "rd"
      obtain ⟨dx, ho⟩ := hT.obj
      refine ⟨t, C, dx, _, rfl, ho, TC.cl, TC.nH, by show 2 < 1000; decide, ?_⟩
      walk_at "rd"
      refine ⟨by show 1 ≤ sizeLine; decide, fun p hp => ?_⟩
      have hT2 := table_had (z := x) hT ho
      have np : p ≠ t := Ne.symm (ne_of_none hT2.obj.choose_spec hp)
      have hp0 : H p = none := by rw [upd_ne np] at hp; exact hp
      exact k _ p as (kept_trans kept_t (kept_same (same_new hp))) upd_same np (Ne.symm (ne_of_none hT2.lst hp)) hp0 (table_same hT2 (same_new hp))
end
end Lg
end

section
set_option Elab.async false
set_option linter.all false
set_option maxRecDepth 100000
set_option maxHeartbeats 200000
namespace Lg
open PySem PySem.Spec PyProof.Rows L2
open Builtin.Int (intBits)
local macro_rules | `(tactic| walk_at "rd") => `(tactic| repeat (first
  | with_reducible refine rd_seq ?_ | with_reducible refine rd_next ?_ | with_reducible refine rd_yes ?_ | with_reducible refine rd_sl ?_ | with_reducible refine rd_part ?_ | with_reducible refine rd_nopart ?_ | with_reducible refine rd_ei ?_ | with_reducible refine rd_fld ?_ | with_reducible refine rd_sfld ?_ | with_reducible refine rd_sfa ?_ | with_reducible refine rd_rAdd ?_ | with_reducible refine rd_rSub ?_ | with_reducible refine rd_asg ?_ | with_reducible refine rd_gname ?_ | with_reducible refine rd_ret ?_ | with_reducible refine rd_drop ?_ | with_reducible refine rd_if ?_
  | with_reducible refine rd_c ?_ | with_reducible refine rd_op ?_ | with_reducible refine rd_un ?_ | with_reducible refine rd_rU ?_ | with_reducible refine rd_rI0 ?_ | with_reducible refine rd_eqI ?_ | with_reducible refine rd_neI ?_
  | with_reducible refine rd_test ?_ | with_reducible refine rd_tB ?_ | with_reducible refine rd_bl ?_ | with_reducible refine rd_not ?_ | with_reducible refine rd_and ?_ | with_reducible refine rd_or ?_ | with_reducible refine rd_andV ?_ | with_reducible refine rd_orV ?_
  | with_reducible refine rd_cons ?_ | with_reducible refine rd_nil ?_ | with_reducible refine rd_lst ?_ | with_reducible refine rd_tup ?_ | with_reducible refine rd_cb ?_ | with_reducible refine rd_call ?_
  | with_reducible refine rd_augS ?_ | with_reducible refine rd_ip ?_ | with_reducible refine rd_gsub ?_ | with_reducible refine rd_bm ?_ | with_reducible refine rd_bm0 ?_
  | refine rd_var (by rfl) ?_))

section
variable {P : Program} {w : World} {K : PySem.W.Frag} {mg : Str → Option Value} {base : Heap} {ad : String → Addr}
abbrev st_play : Stmt := top 43
abbrev nm_play : List Str := ["table", "numbers", "won"]
abbrev ps_of_play : List Str := ["table", "numbers"]
theorem sc_play : FnScope nm_play ps_of_play (defScope st_play) := ⟨rfl, rfl, rfl, by decide +kernel, rfl, by decide +kernel, by decide +kernel⟩
def spPlay (K : PySem.W.Frag) (C : Addr) : Sp := fun vs H Q _ => ∃ (t l n : Addr) (as : List Addr) (gs : List Gm) (had i x : Int), vs = [.ref t, .ref n] ∧ TableAt K C H t l as gs had ∧ SqL K H n [.int i, .int x] ∧ 0 ≤ x ∧
  (if (gs.length : Int) ≤ i then Told K C H Q t l gs had [-2] else if 1 < x then Told K C H Q t l gs had [-1] else if x = 1 then Told K C H Q t l gs (had + 1) [0, had + 1] else Told K C H Q t l gs (had - 1) [0, had - 1])
/-- a refusal, or any answer that leaves all as it was -/
theorem told_same {C : Addr} {H H1 : Hp} {Q : VK} {t l p : Addr} {as : List Addr} {gs : List Gm} {had : Int} {ans : List Int} {xs : List V} (k : Told K C H Q t l gs had ans) (hT : TableAt K C H t l as gs had) (sm : Same H H1) (hp : H1 p = none) (e : xs = ans.map V.int) : Q (.ref p) (upd H1 p (.lst xs)) := by
  subst e
  have hT1 := table_same hT sm
  have h0 : H p = none := Same.free sm hp
  exact k _ p as (kept_same (same_then sm hp)) upd_same (Ne.symm (ne_of_none hT1.obj.choose_spec hp)) (Ne.symm (ne_of_none hT1.lst hp)) h0 (table_same hT1 (same_new hp))
theorem told_had {C : Addr} {H H1 : Hp} {Q : VK} {t l p dx : Addr} {as : List Addr} {gs : List Gm} {had z : Int} {ans : List Int} {xs : List V} (k : Told K C H Q t l gs z ans) (hT : TableAt K C H t l as gs had) (ho : H t = some (.ins C dx (tf l had)))
    (sm : H1 = upd H t (.ins C dx (putF "had" (.int z) (tf l had)))) (hp : H1 p = none) (e : xs = ans.map V.int) : Q (.ref p) (upd H1 p (.lst xs)) := by
  subst e sm
  have hT2 := table_had (z := z) hT ho
  have np : p ≠ t := Ne.symm (ne_of_none hT2.obj.choose_spec hp)
  have hp0 : H p = none := by rw [upd_ne np] at hp; exact hp
  exact k _ p as (kept_trans kept_t (kept_same (same_new hp))) upd_same np (Ne.symm (ne_of_none hT2.lst hp)) hp0 (table_same hT2 (same_new hp))
theorem ok_play {C : Addr} (T : Txt K mg ad) (TC : TabC K C) (D : Def K mg "play" st_play ps_of_play) : Has P w K mg base "play" 1 ps_of_play (spPlay K C) := by
  refine D.has sc_play (fun vs H Q E h => ?_) (fun f cdv A outer s H vs Q E hr h => ?_)
  · obtain ⟨t, l, n, as, gs, had, i, x, rfl, _⟩ := h
    rfl
  · obtain ⟨t, l, n, as, gs, had, i, x, rfl, hT, hN, h0, k⟩ := h
    have hlen : (as.map V.ref).length = gs.length := by rw [List.length_map, games_len hT.games]
    refine ⟨_, (pss_cons (ps_set (i := 2) sc_play.nd rfl (by first | exact Or.inl rfl | exact Or.inr rfl) (pe_ix (ix_sqK (K := K) rfl) (pv 1) pe_int (fun _ _ => rfl)))
    (pss_cons (ps_if (pt_cmpR op_ge (pe_ix (ix_sqK (K := K) rfl) (pv 1) pe_int (fun _ _ => rfl)) (pe_callB (call_lenK (K := K) rfl) (by rfl) T.n_len bt_len (pa_cons (pe_fldK (K := K) rfl (pv 0) rfl) pa_nil)) (nomark _)) (pss_one (ps_ret (pe_lst (pa_cons (pe_un un_neg pe_int) pa_nil)))) pss_nil)
    (pss_cons (ps_if (pt_cmpR op_gt (pv 2) pe_int (nomark _)) (pss_one (ps_ret (pe_lst (pa_cons (pe_un un_neg pe_int) pa_nil)))) pss_nil)
    (pss_cons (ps_if (pt_cmpR op_eq (pv 2) pe_int (nomark _)) (pss_one (ps_fldaug (pv 0) pe_int in_add)) (pss_one (ps_fldaug (pv 0) pe_int in_sub)))
    (pss_one (ps_ret (pe_lst (pa_cons pe_int (pa_cons (pe_fldK (K := K) rfl (pv 0) rfl) pa_nil))))))))), ?_⟩
    walk_at "rd"
    refine rd_sqL hN rfl ?_
    walk_at "rd"
    refine rd_sqL hN rfl ?_
    walk_at "rd"
    refine fld_games TC hT ?_
    walk_at "rd"
    refine rd_lenL (SqL.of hT.lst) ?_
    rw [hlen]
    walk_at "rd"
    refine ite2 (fun hc => ?_) (fun hc => ?_)
    · have h1 : (gs.length : Int) ≤ i := by simpa using hc
      rw [if_pos h1] at k
      walk_at "rd"
      exact ⟨by show 1 ≤ sizeLine; decide, fun p hp => told_same k hT same_refl hp rfl⟩
    · have h1 : ¬ (gs.length : Int) ≤ i := by simpa using hc
      rw [if_neg h1] at k
      walk_at "rd"
      refine ite2 (fun hc => ?_) (fun hc => ?_)
      · have h2 : 1 < x := by simpa using hc
        rw [if_pos h2] at k
        walk_at "rd"
        exact ⟨by show 1 ≤ sizeLine; decide, fun p hp => told_same k hT same_refl hp rfl⟩
      · have h2 : ¬ 1 < x := by simpa using hc
        rw [if_neg h2] at k
        obtain ⟨dx, ho⟩ := hT.obj
        walk_at "rd"
        refine ite2 (fun hc => ?_) (fun hc => ?_)
        · have h3 : x = 1 := by simpa using hc
          rw [if_pos h3] at k
          walk_at "rd"
          refine ⟨t, C, dx, _, _, rfl, ho, TC.cl, TC.nH, tf_had _ _, ?_⟩
          walk_at "rd"
          refine ⟨dx, _, ho, by show 2 < 1000; decide, ?_⟩
          walk_at "rd"
          refine fld_had TC (table_had hT ho) ?_
          walk_at "rd"
          exact ⟨by show 2 ≤ sizeLine; decide, fun p hp => told_had k hT ho rfl hp rfl⟩
        · have h3 : ¬ x = 1 := by simpa using hc
          rw [if_neg h3] at k
          walk_at "rd"
          refine ⟨t, C, dx, _, _, rfl, ho, TC.cl, TC.nH, tf_had _ _, ?_⟩
          walk_at "rd"
          refine ⟨dx, _, ho, by show 2 < 1000; decide, ?_⟩
          walk_at "rd"
          refine fld_had TC (table_had hT ho) ?_
          walk_at "rd"
          exact ⟨by show 2 ≤ sizeLine; decide, fun p hp => told_had k hT ho rfl hp rfl⟩
abbrev st_drop_game : Stmt := top 41
abbrev nm_drop_game : List Str := ["table"]
abbrev ps_of_drop_game : List Str := ["table"]
theorem sc_drop_game : FnScope nm_drop_game ps_of_drop_game (defScope st_drop_game) := ⟨rfl, rfl, rfl, by decide +kernel, rfl, by decide +kernel, by decide +kernel⟩
def spDrop (K : PySem.W.Frag) (C : Addr) : Sp := fun vs H Q _ => ∃ (t l : Addr) (as : List Addr) (gs : List Gm) (had : Int), vs = [.ref t] ∧ TableAt K C H t l as gs had ∧
  (if gs = [] then Told K C H Q t l gs had [-9] else Told K C H Q t l gs.dropLast had [(gs.length : Int) - 1])
/-- the games' list is another -/
theorem table_lst {C : Addr} {H : Hp} {t l : Addr} {as bs : List Addr} {gs hs : List Gm} {had : Int} (h : TableAt K C H t l as gs had) (hg : GamesAt K H bs hs) : TableAt K C (upd H l (.lst (bs.map V.ref))) t l bs hs had := by
  obtain ⟨dx, ho⟩ := h.obj
  exact ⟨⟨dx, by rw [upd_ne (tab_ne h)]; exact ho⟩, upd_same, games_upd h.lst (by intro ys e; cases e) (by intro b v e; cases e) hg⟩
theorem told_lst {C : Addr} {H H0 H1 : Hp} {Q : VK} {t l p : Addr} {as bs : List Addr} {gs hs : List Gm} {had : Int} {ans : List Int} {xs : List V} (k : Told K C H Q t l hs had ans) (hT : TableAt K C H0 t l as gs had) (sm : Same H H0) (hg : GamesAt K H0 bs hs)
    (e1 : H1 = upd H0 l (.lst (bs.map V.ref))) (hp : H1 p = none) (e : xs = ans.map V.int) : Q (.ref p) (upd H1 p (.lst xs)) := by
  subst e e1
  have hT2 := table_lst hT hg
  have np : p ≠ l := Ne.symm (ne_of_none hT2.lst hp)
  have hp0 : H0 p = none := by rw [upd_ne np] at hp; exact hp
  exact k _ p bs (kept_trans (kept_same sm) (kept_trans kept_l (kept_same (same_new hp)))) upd_same (Ne.symm (ne_of_none hT2.obj.choose_spec hp)) np (Same.free sm hp0) (table_same hT2 (same_new hp))
theorem ok_drop_game {C : Addr} (T : Txt K mg ad) (TC : TabC K C) (D : Def K mg "drop_game" st_drop_game ps_of_drop_game) : Has P w K mg base "drop_game" 1 ps_of_drop_game (spDrop K C) := by
  refine D.has sc_drop_game (fun vs H Q E h => ?_) (fun f cdv A outer s H vs Q E hr h => ?_)
  · obtain ⟨t, l, as, gs, had, rfl, _⟩ := h
    rfl
  · obtain ⟨t, l, as, gs, had, rfl, hT, k⟩ := h
    have hlen : (as.map V.ref).length = gs.length := by rw [List.length_map, games_len hT.games]
    have hal : as.length = gs.length := games_len hT.games
    refine ⟨_, (pss_cons (ps_if (pt_cmpR op_eq (pe_callB (call_lenK (K := K) rfl) (by rfl) T.n_len bt_len (pa_cons (pe_fldK (K := K) rfl (pv 0) rfl) pa_nil)) pe_int (nomark _)) (pss_one (ps_ret (pe_lst (pa_cons (pe_un un_neg pe_int) pa_nil)))) pss_nil)
    (pss_cons (ps_expr (pe_bm0 PySem.F.plainAttrs_list PySem.F.slot_list_pop PySem.F.type_list_pop mt_pop (pe_fldK (K := K) rfl (pv 0) rfl)))
    (pss_one (ps_ret (pe_lst (pa_cons (pe_callB (call_lenK (K := K) rfl) (by rfl) T.n_len bt_len (pa_cons (pe_fldK (K := K) rfl (pv 0) rfl) pa_nil)) pa_nil)))))), ?_⟩
    walk_at "rd"
    refine fld_games TC hT ?_
    walk_at "rd"
    refine rd_lenL (SqL.of hT.lst) ?_
    rw [hlen]
    walk_at "rd"
    refine ite2 (fun hc => ?_) (fun hc => ?_)
    · have h1 : gs = [] := by
        have : (gs.length : Int) = 0 := by simpa using hc
        exact List.eq_nil_of_length_eq_zero (by omega)
      rw [if_pos h1] at k
      walk_at "rd"
      exact ⟨by show 1 ≤ sizeLine; decide, fun p hp => told_same k hT same_refl hp rfl⟩
    · have h1 : ¬ gs = [] := by
        intro e
        subst e
        simp at hc
      have hpos : 0 < gs.length := List.length_pos_iff.mpr h1
      rw [if_neg h1] at k
      walk_at "rd"
      refine fld_games TC hT ?_
      refine ⟨.inl ⟨rfl, _, SqL.of hT.lst⟩, l, _, V.ref (as[as.length - 1]'(by omega)), rfl, rfl, hT.lst, ?_, ?_⟩
      · rw [List.length_map, List.getElem?_map, List.getElem?_eq_getElem (by omega)]
        rfl
      · have hT2 : TableAt K C (upd H l (.lst (as.map V.ref).dropLast)) t l as.dropLast gs.dropLast had := by
          rw [← List.map_dropLast]
          exact table_lst hT (games_drop hT.games)
        walk_at "rd"
        refine fld_games TC hT2 ?_
        walk_at "rd"
        refine rd_lenL (SqL.of upd_same) ?_
        walk_at "rd"
        refine ⟨by show 1 ≤ sizeLine; decide, fun p hp => ?_⟩
        refine told_lst k hT same_refl (games_drop hT.games) (by rw [List.map_dropLast]) hp ?_
        rw [List.length_dropLast, hlen]
        show [V.int _] = [V.int _]
        congr 2
        omega
abbrev st_sign_told : Stmt := top 46
abbrev nm_sign_told : List Str := ["above"]
abbrev ps_of_sign_told : List Str := ["above"]
theorem sc_sign_told : FnScope nm_sign_told ps_of_sign_told (defScope st_sign_told) := ⟨rfl, rfl, rfl, by decide +kernel, rfl, by decide +kernel, by decide +kernel⟩
def spSign : Sp := fun vs H Q _ => ∃ n : Int, vs = [.int n] ∧ Q (.int (signI n)) H
theorem ok_sign_told (T : Txt K mg ad) (D : Def K mg "sign_told" st_sign_told ps_of_sign_told) : Has P w K mg base "sign_told" 1 ps_of_sign_told spSign := by
  refine D.has sc_sign_told (fun vs H Q E h => ?_) (fun f cdv A outer s H vs Q E hr h => ?_)
  · obtain ⟨n, rfl, _⟩ := h
    rfl
  · obtain ⟨n, rfl, k⟩ := h
    unfold signI at k
    refine ⟨_, (pss_cons (ps_if (pt_cmpR op_gt (pv 0) pe_int (nomark _)) (pss_one (ps_ret pe_int)) pss_nil)
    (pss_cons (ps_if (pt_cmpR op_eq (pv 0) pe_int (nomark _)) (pss_one (ps_ret pe_int)) pss_nil)
    (pss_one (ps_ret pe_int)))), ?_⟩
    walk_at "rd"
    refine ite2 (fun hc => ?_) (fun hc => ?_)
    · have h1 : 0 < n := by simpa using hc
      rw [if_pos h1] at k
      walk_at "rd"
      exact k
    · have h1 : ¬ 0 < n := by simpa using hc
      rw [if_neg h1] at k
      walk_at "rd"
      refine ite2 (fun hc => ?_) (fun hc => ?_)
      · have h2 : n = 0 := by simpa using hc
        rw [if_pos h2] at k
        walk_at "rd"
        exact k
      · have h2 : ¬ n = 0 := by simpa using hc
        rw [if_neg h2] at k
        walk_at "rd"
        exact k
end
end Lg
end

section
set_option Elab.async false
set_option linter.all false
set_option maxRecDepth 100000
set_option maxHeartbeats 200000
namespace Lg
open PySem PySem.Spec PyProof.Rows L2
open Builtin.Int (intBits)
local macro_rules | `(tactic| walk_at "rd") => `(tactic| repeat (first
  | with_reducible refine rd_seq ?_ | with_reducible refine rd_next ?_ | with_reducible refine rd_yes ?_ | with_reducible refine rd_sl ?_ | with_reducible refine rd_part ?_ | with_reducible refine rd_nopart ?_ | with_reducible refine rd_ei ?_ | with_reducible refine rd_fld ?_ | with_reducible refine rd_sfld ?_ | with_reducible refine rd_sfa ?_ | with_reducible refine rd_rAdd ?_ | with_reducible refine rd_rSub ?_ | with_reducible refine rd_asg ?_ | with_reducible refine rd_gname ?_ | with_reducible refine rd_ret ?_ | with_reducible refine rd_drop ?_ | with_reducible refine rd_if ?_
  | with_reducible refine rd_c ?_ | with_reducible refine rd_op ?_ | with_reducible refine rd_un ?_ | with_reducible refine rd_rU ?_ | with_reducible refine rd_rI0 ?_ | with_reducible refine rd_eqI ?_ | with_reducible refine rd_neI ?_
  | with_reducible refine rd_test ?_ | with_reducible refine rd_tB ?_ | with_reducible refine rd_bl ?_ | with_reducible refine rd_not ?_ | with_reducible refine rd_and ?_ | with_reducible refine rd_or ?_ | with_reducible refine rd_andV ?_ | with_reducible refine rd_orV ?_
  | with_reducible refine rd_cons ?_ | with_reducible refine rd_nil ?_ | with_reducible refine rd_lst ?_ | with_reducible refine rd_tup ?_ | with_reducible refine rd_cb ?_ | with_reducible refine rd_call ?_
  | with_reducible refine rd_augS ?_ | with_reducible refine rd_ip ?_ | with_reducible refine rd_gsub ?_ | with_reducible refine rd_bm ?_ | with_reducible refine rd_bm0 ?_
  | refine rd_var (by rfl) ?_))

section
variable {P : Program} {w : World} {K : PySem.W.Frag} {mg : Str → Option Value} {base : Heap} {ad : String → Addr}
abbrev st_can_be_game : Stmt := top 39
abbrev nm_can_be_game : List Str := ["numbers", "v", "u"]
abbrev ps_of_can_be_game : List Str := ["numbers"]
theorem sc_can_be_game : FnScope nm_can_be_game ps_of_can_be_game (defScope st_can_be_game) := ⟨rfl, rfl, rfl, by decide +kernel, rfl, by decide +kernel, by decide +kernel⟩
def spCan (K : PySem.W.Frag) : Sp := fun vs H Q _ => ∃ (n : Addr) (v a b c : Int), vs = [.ref n] ∧ SqL K H n [.int v, .int a, .int b, .int c] ∧ ∀ H', Same H H' → Q (.bl (canBe v a b c)) H'
def canU (v u : Int) : Bool := decide (1 ≤ u ∧ u ≤ v - 1)
theorem canBe_all {v a b c : Int} (h1 : ¬ v < 2) (h2 : ¬ 100 < v) : ([a, b, c].map (canU v)).all id = canBe v a b c := by
  unfold canBe canU
  simp only [List.map_cons, List.map_nil, List.all_cons, List.all_nil, id, Bool.and_true, ← Bool.decide_and]
  refine decide_eq_decide.mpr ⟨fun h => ⟨by omega, by omega, h⟩, fun h => h.2.2⟩
theorem ok_can_be_game (T : Txt K mg ad) (D : Def K mg "can_be_game" st_can_be_game ps_of_can_be_game) : Has P w K mg base "can_be_game" 1 ps_of_can_be_game (spCan K) := by
  refine D.has sc_can_be_game (fun vs H Q E h => ?_) (fun f cdv A outer s H vs Q E hr h => ?_)
  · obtain ⟨n, v, a, b, c, rfl, _⟩ := h
    rfl
  · obtain ⟨n, v, a, b, c, rfl, hN, k⟩ := h
    refine ⟨_, (pss_cons (ps_set (i := 1) sc_can_be_game.nd rfl (by first | exact Or.inl rfl | exact Or.inr rfl) (pe_ix (ix_sqK (K := K) rfl) (pv 0) pe_int (fun _ _ => rfl)))
    (pss_cons (ps_if (PW.pt (pw_or (pt_cmpR op_lt (pv 1) (pe_gint rfl T.g_LEAST_V) (nomark _)) (pw_or1 (pt_cmpR op_gt (pv 1) (pe_gint rfl T.g_MOST_V) (nomark _))))) (pss_one (ps_ret pe_bl)) pss_nil)
    (pss_one (ps_ret (pe_callB (cr_all rfl) (by rfl) T.n_all bt_all (pa_cons (pe_lc rfl sc_can_be_game.nd (pi_list (pe_slice sl_list (pv 0) (po_some pe_int) po_none)) (blkOk_by (own := [("u", 2)]) (by show blkC nm_can_be_game (defScope st_can_be_game) _ _ = true; decide +kernel)) (fun _ _ _ _ _ => pg_name (i := 2) sc_can_be_game.nd rfl (by first | exact Or.inl rfl | exact Or.inr rfl)) (fun _ _ _ _ _ => pts_nil) (fun _ _ _ _ _ => (pe_and (pe_cmpR op_le pe_int (pv 2) (nomark _)) (pe_one (pe_cmpR op_le (pv 2) (pe_op op_sub (pv 1) pe_int) (nomark _)))))) pa_nil)))))), ?_⟩
    walk_at "rd"
    refine rd_sqL hN rfl ?_
    walk_at "rd"
    refine ite2 (fun hc => ?_) (fun hc => ?_)
    · have h1 : v < 2 := by simpa using hc
      refine iteT ?_
      walk_at "rd"
      have e : canBe v a b c = false := by
        unfold canBe
        exact decide_eq_false (by omega)
      rw [← e]
      exact k H same_refl
    · have h1 : ¬ v < 2 := by simpa using hc
      walk_at "rd"
      refine ite2 (fun hc => ?_) (fun hc => ?_)
      · have h2 : 100 < v := by simpa using hc
        walk_at "rd"
        have e : canBe v a b c = false := by
          unfold canBe
          exact decide_eq_false (by omega)
        rw [← e]
        exact k H same_refl
      · have h2 : ¬ 100 < v := by simpa using hc
        walk_at "rd"
        refine rd_sl ?_
        walk_at "rd"
        refine rd_slL hN fun n2 hn2 => ?_
        have e2 : cutV [V.int v, .int a, .int b, .int c] (some 1) none = [.int a, .int b, .int c] := rfl
        rw [e2]
        have s2 : Same H (upd H n2 (.lst [.int a, .int b, .int c])) := same_new hn2
        refine ⟨n2, rfl, ⟨_, SqL.of upd_same⟩, fun q hq => ?_⟩
        have nq : n2 ≠ q := ne_of_none upd_same hq
        refine lc_list (K := K) (a := n2) (xs := [.int a, .int b, .int c]) (fun i H' => H' = upd (upd H n2 (.lst [.int a, .int b, .int c])) q (.lst ((([a, b, c].map (canU v)).take i).map V.bl))) rfl ?_ ?_ ?_
        · rintro i H' _ rfl
          exact SqL.of (by rw [upd_ne nq, upd_same])
        · rintro i x H' hi rfl
          walk_at "rd"
          refine ⟨rfl, ?_⟩
          walk_at "rd"
          refine iteT ?_
          obtain ⟨u, rfl, hu⟩ : ∃ u, x = V.int u ∧ [a, b, c][i]? = some u := by
            have : ([a, b, c].map V.int)[i]? = some x := hi
            rw [List.getElem?_map] at this
            cases e : [a, b, c][i]? with
            | none => rw [e] at this; cases this
            | some u => rw [e] at this; exact ⟨u, (Option.some.inj this).symm, rfl⟩
          have fin : ∀ (z : Bool), z = canU v u → ∃ acc, (upd (upd H n2 (.lst [.int a, .int b, .int c])) q (.lst ((([a, b, c].map (canU v)).take i).map V.bl))) q = some (.lst acc) ∧ acc.length < sizeLine ∧
              upd (upd (upd H n2 (.lst [.int a, .int b, .int c])) q (.lst ((([a, b, c].map (canU v)).take i).map V.bl))) q (.lst (acc ++ [.bl z])) = upd (upd H n2 (.lst [.int a, .int b, .int c])) q (.lst ((([a, b, c].map (canU v)).take (i + 1)).map V.bl)) := by
            rintro z rfl
            refine ⟨_, upd_same, ?_, ?_⟩
            · rw [List.length_map, List.length_take]
              exact Nat.lt_of_le_of_lt (Nat.min_le_right _ _) (by show 3 < sizeLine; decide)
            · rw [upd_upd, List.take_succ, List.getElem?_map, hu]
              simp
          walk_at "rd"
          refine ite2 (fun hc => ?_) (fun hc => ?_)
          · have h3 : 1 ≤ u := by simpa using hc
            walk_at "rd"
            exact fin _ (by unfold canU; refine decide_eq_decide.mpr ⟨fun h => ⟨h3, h⟩, fun h => h.2⟩)
          · have h3 : ¬ 1 ≤ u := by simpa using hc
            exact fin _ (by unfold canU; exact (decide_eq_false (by omega)).symm)
        · rintro H' rfl
          walk_at "rd"
          refine rd_all (bs := [a, b, c].map (canU v)) (SqL.of upd_same) ?_
          rw [canBe_all h1 h2]
          exact k _ (same_then s2 hq)
end
end Lg
end

section
set_option Elab.async false
set_option linter.all false
set_option maxRecDepth 100000
set_option maxHeartbeats 200000
namespace Lg
open PySem PySem.Spec PyProof.Rows L2
open Builtin.Int (intBits)
local macro_rules | `(tactic| walk_at "rd") => `(tactic| repeat (first
  | with_reducible refine rd_seq ?_ | with_reducible refine rd_next ?_ | with_reducible refine rd_yes ?_ | with_reducible refine rd_sl ?_ | with_reducible refine rd_part ?_ | with_reducible refine rd_nopart ?_ | with_reducible refine rd_ei ?_ | with_reducible refine rd_fld ?_ | with_reducible refine rd_sfld ?_ | with_reducible refine rd_sfa ?_ | with_reducible refine rd_rAdd ?_ | with_reducible refine rd_rSub ?_ | with_reducible refine rd_asg ?_ | with_reducible refine rd_gname ?_ | with_reducible refine rd_ret ?_ | with_reducible refine rd_drop ?_ | with_reducible refine rd_if ?_
  | with_reducible refine rd_c ?_ | with_reducible refine rd_op ?_ | with_reducible refine rd_un ?_ | with_reducible refine rd_rU ?_ | with_reducible refine rd_rI0 ?_ | with_reducible refine rd_eqI ?_ | with_reducible refine rd_neI ?_
  | with_reducible refine rd_test ?_ | with_reducible refine rd_tB ?_ | with_reducible refine rd_bl ?_ | with_reducible refine rd_not ?_ | with_reducible refine rd_and ?_ | with_reducible refine rd_or ?_ | with_reducible refine rd_andV ?_ | with_reducible refine rd_orV ?_
  | with_reducible refine rd_cons ?_ | with_reducible refine rd_nil ?_ | with_reducible refine rd_lst ?_ | with_reducible refine rd_tup ?_ | with_reducible refine rd_cb ?_ | with_reducible refine rd_call ?_
  | with_reducible refine rd_augS ?_ | with_reducible refine rd_ip ?_ | with_reducible refine rd_gsub ?_ | with_reducible refine rd_bm ?_ | with_reducible refine rd_bm0 ?_
  | refine rd_var (by rfl) ?_))

section
variable {P : Program} {w : World} {K : PySem.W.Frag} {mg : Str → Option Value} {base : Heap} {ad : String → Addr}
abbrev st_make_game : Stmt := top 40
abbrev nm_make_game : List Str := ["table", "numbers"]
abbrev ps_of_make_game : List Str := ["table", "numbers"]
theorem sc_make_game : FnScope nm_make_game ps_of_make_game (defScope st_make_game) := ⟨rfl, rfl, rfl, by decide +kernel, rfl, by decide +kernel, by decide +kernel⟩
def spMake (K : PySem.W.Frag) (C : Addr) : Sp := fun vs H Q _ => ∃ (t l n : Addr) (as : List Addr) (gs : List Gm) (had v a b c : Int), vs = [.ref t, .ref n] ∧ TableAt K C H t l as gs had ∧ gs.length ≤ 4 ∧ SqL K H n [.int v, .int a, .int b, .int c] ∧
  (if canBe v a b c = false then Told K C H Q t l gs had [-1] else if gs.length = 4 then Told K C H Q t l gs had [-5] else Told K C H Q t l (gs ++ [⟨v, a, b, c⟩]) had [(gs.length : Int)])
theorem ok_make_game {C : Addr} (T : Txt K mg ad) (TC : TabC K C) (D : Def K mg "make_game" st_make_game ps_of_make_game) (C_can_be_game : Has P w K mg base "can_be_game" 1 ps_of_can_be_game (spCan K)) : Has P w K mg base "make_game" 2 ps_of_make_game (spMake K C) := by
  refine D.has sc_make_game (fun vs H Q E h => ?_) (fun f cdv A outer s H vs Q E hr h => ?_)
  · obtain ⟨t, l, n, as, gs, had, v, a, b, c, rfl, _⟩ := h
    rfl
  · obtain ⟨t, l, n, as, gs, had, v, a, b, c, rfl, hT, h4, hN, k⟩ := h
    have hlen : (as.map V.ref).length = gs.length := by rw [List.length_map, games_len hT.games]
    refine ⟨_, (pss_cons (ps_if (pt_not (pt_val (pe_callH C_can_be_game hr rfl (pa_cons (pv 1) pa_nil)))) (pss_one (ps_ret (pe_lst (pa_cons (pe_un un_neg pe_int) pa_nil)))) pss_nil)
    (pss_cons (ps_if (pt_cmpR op_eq (pe_callB (call_lenK (K := K) rfl) (by rfl) T.n_len bt_len (pa_cons (pe_fldK (K := K) rfl (pv 0) rfl) pa_nil)) (pe_gint rfl T.g_MOST_GAMES) (nomark _)) (pss_one (ps_ret (pe_lst (pa_cons (pe_un un_neg pe_int) pa_nil)))) pss_nil)
    (pss_cons (ps_expr (pe_bm PySem.F.plainAttrs_list PySem.F.slot_list_append PySem.F.type_list_append mt_append (pe_fldK (K := K) rfl (pv 0) rfl) (pa_cons (pe_callTy call_tuple_of (by rfl) T.n_tuple bt_tuple (pa_cons (pv 1) pa_nil)) pa_nil)))
    (pss_one (ps_ret (pe_lst (pa_cons (pe_op op_sub (pe_callB (call_lenK (K := K) rfl) (by rfl) T.n_len bt_len (pa_cons (pe_fldK (K := K) rfl (pv 0) rfl) pa_nil)) pe_int) pa_nil))))))), ?_⟩
    walk_at "rd"
    refine ⟨n, v, a, b, c, rfl, hN, fun H1 sm => ?_⟩
    have hT1 := table_same hT sm
    walk_at "rd"
    refine ite2 (fun hc => ?_) (fun hc => ?_)
    · have h1 : canBe v a b c = false := by simpa using hc
      rw [if_pos h1] at k
      walk_at "rd"
      exact ⟨by show 1 ≤ sizeLine; decide, fun p hp => told_same k hT sm hp rfl⟩
    · have h1 : ¬ canBe v a b c = false := by simpa using hc
      rw [if_neg h1] at k
      walk_at "rd"
      refine fld_games TC hT1 ?_
      walk_at "rd"
      refine rd_lenL (SqL.of hT1.lst) ?_
      rw [hlen]
      walk_at "rd"
      refine ite2 (fun hc => ?_) (fun hc => ?_)
      · have h2 : gs.length = 4 := by
          have : (gs.length : Int) = 4 := by simpa using hc
          omega
        rw [if_pos h2] at k
        walk_at "rd"
        exact ⟨by show 1 ≤ sizeLine; decide, fun p hp => told_same k hT sm hp rfl⟩
      · have h2 : ¬ gs.length = 4 := by
          intro e
          rw [e] at hc
          simp at hc
        rw [if_neg h2] at k
        walk_at "rd"
        refine fld_games TC hT1 ?_
        refine ⟨.inl ⟨rfl, _, SqL.of hT1.lst⟩, ?_⟩
        walk_at "rd"
        refine ⟨n, _, rfl, .inl ⟨Same.seq sm hN, fun q hq => ?_⟩⟩
        have hT2 := table_same hT1 (same_new (o := .tup [.int v, .int a, .int b, .int c]) hq)
        walk_at "rd"
        refine rd_app hT2.lst (by rw [hlen]; exact Nat.lt_of_le_of_lt h4 (by show 4 < sizeLine; decide)) ?_
        have hg : GamesAt K (upd H1 q (.tup [.int v, .int a, .int b, .int c])) (as ++ [q]) (gs ++ [⟨v, a, b, c⟩]) := games_snoc (g := ⟨v, a, b, c⟩) (SqT.of (xs := gV ⟨v, a, b, c⟩) upd_same) hT2.games
        have em : as.map V.ref ++ [V.ref q] = (as ++ [q]).map V.ref := by rw [List.map_append]; rfl
        rw [em]
        have hT3 := table_lst hT2 hg
        walk_at "rd"
        refine fld_games TC hT3 ?_
        walk_at "rd"
        refine rd_lenL (SqL.of hT3.lst) ?_
        walk_at "rd"
        refine ⟨by show 1 ≤ sizeLine; decide, fun p hp => ?_⟩
        refine told_lst k hT2 (same_then sm hq) hg rfl hp ?_
        rw [List.length_map, List.length_append, games_len hT.games]
        show [V.int _] = [V.int _]
        congr 2
        simp
abbrev st_shows : Stmt := top 44
abbrev nm_shows : List Str := ["table", "told", "game"]
abbrev ps_of_shows : List Str := ["table"]
theorem sc_shows : FnScope nm_shows ps_of_shows (defScope st_shows) := ⟨rfl, rfl, rfl, by decide +kernel, rfl, by decide +kernel, by decide +kernel⟩
def spShows (K : PySem.W.Frag) (C : Addr) : Sp := fun vs H Q _ => ∃ (t l : Addr) (as : List Addr) (gs : List Gm) (had : Int), vs = [.ref t] ∧ TableAt K C H t l as gs had ∧ gs.length ≤ 4 ∧ Told K C H Q t l gs had ((gs.length : Int) :: had :: flat gs)
theorem flat_take {gs : List Gm} {i : Nat} {g : Gm} (h : gs[i]? = some g) : flat (gs.take (i + 1)) = flat (gs.take i) ++ [g.v, g.a, g.b, g.c] := by
  unfold flat
  rw [List.take_succ, h]
  simp
theorem flat_len : ∀ gs : List Gm, (flat gs).length = 4 * gs.length
  | [] => rfl
  | g :: gs => by
    have := flat_len gs
    unfold flat at *
    rw [List.flatMap_cons, List.length_append, this, List.length_cons]
    simp
    omega
theorem ok_shows {C : Addr} (T : Txt K mg ad) (TC : TabC K C) (D : Def K mg "shows" st_shows ps_of_shows) : Has P w K mg base "shows" 1 ps_of_shows (spShows K C) := by
  refine D.has sc_shows (fun vs H Q E h => ?_) (fun f cdv A outer s H vs Q E hr h => ?_)
  · obtain ⟨t, l, as, gs, had, rfl, _⟩ := h
    rfl
  · obtain ⟨t, l, as, gs, had, rfl, hT, h4, k⟩ := h
    have hlen : (as.map V.ref).length = gs.length := by rw [List.length_map, games_len hT.games]
    refine ⟨_, (pss_cons (ps_set (i := 1) sc_shows.nd rfl (by first | exact Or.inl rfl | exact Or.inr rfl) (pe_lst (pa_cons (pe_callB (call_lenK (K := K) rfl) (by rfl) T.n_len bt_len (pa_cons (pe_fldK (K := K) rfl (pv 0) rfl) pa_nil)) (pa_cons (pe_fldK (K := K) rfl (pv 0) rfl) pa_nil))))
    (pss_cons (ps_for PassesOwn.never rfl (pi_list (pe_fldK (K := K) rfl (pv 0) rfl)) (pg_name (i := 2) sc_shows.nd rfl (by first | exact Or.inl rfl | exact Or.inr rfl)) (pss_one (ps_expr (pe_bm PySem.F.plainAttrs_list PySem.F.slot_list_extend PySem.F.type_list_extend mt_extendB (pv 1) (pa_cons (pv 2) pa_nil)))))
    (pss_one (ps_ret (pv 1))))), ?_⟩
    walk_at "rd"
    refine fld_games TC hT ?_
    walk_at "rd"
    refine rd_lenL (SqL.of hT.lst) ?_
    rw [hlen]
    walk_at "rd"
    refine fld_had TC hT ?_
    walk_at "rd"
    refine ⟨by show 2 ≤ sizeLine; decide, fun p hp => ?_⟩
    walk_at "rd"
    have smp : ∀ o, Same H (upd H p o) := fun o => same_new hp
    refine ⟨_, rfl, fld_games TC (table_same hT (smp _)) ?_⟩
    refine ⟨l, rfl, ⟨_, SqL.of (smp _ _ _ hT.lst)⟩, for_list (K := K) (a := l) (xs := as.map V.ref) (fun i σ H' => ∃ o : Option V, σ = [some (.ref t), some (.ref p), o] ∧ H' = upd H p (.lst (((gs.length : Int) :: had :: flat (gs.take i)).map V.int)))
      ⟨_, rfl, rfl⟩ (by rintro i σ H' _ ⟨o, _, rfl⟩; exact SqL.of (smp _ _ _ hT.lst)) ?_ ?_⟩
    · rintro i x σ H' hi ⟨o, rfl, rfl⟩
      obtain ⟨a, ha, rfl⟩ : ∃ a, as[i]? = some a ∧ x = V.ref a := by
        rw [List.getElem?_map] at hi
        cases e : as[i]? with
        | none => rw [e] at hi; cases hi
        | some a => rw [e] at hi; exact ⟨a, rfl, (Option.some.inj hi).symm⟩
      obtain ⟨g, hg1, hg2⟩ := games_get hT.games ha
      walk_at "rd"
      refine ⟨.inl ⟨rfl, _, SqL.of upd_same⟩, ?_⟩
      walk_at "rd"
      refine ⟨p, a, _, _, rfl, rfl, upd_same, .inr (same_T (smp _) hg2), ?_, ?_⟩
      · have h1 : (gV g).length = 4 := rfl
        rw [List.length_map, h1]
        show (flat (gs.take i)).length + 2 + 4 ≤ sizeLine
        rw [flat_len, List.length_take]
        have : 22 ≤ sizeLine := by decide
        omega
      · refine ⟨_, rfl, ?_⟩
        rw [upd_upd, flat_take hg1]
        show upd H p (.lst _) = upd H p (.lst _)
        congr 2
        simp [gV]
    · rintro σ H' ⟨o, rfl, rfl⟩
      walk_at "rd"
      rw [hlen, List.take_length]
      exact told_same k hT same_refl hp rfl
end
end Lg
end

section
set_option Elab.async false
set_option linter.all false
set_option maxRecDepth 100000
set_option maxHeartbeats 200000
namespace Lg
open PySem PySem.Spec PyProof.Rows L2
open Builtin.Int (intBits)
local macro_rules | `(tactic| walk_at "rd") => `(tactic| repeat (first
  | with_reducible refine rd_seq ?_ | with_reducible refine rd_next ?_ | with_reducible refine rd_yes ?_ | with_reducible refine rd_sl ?_ | with_reducible refine rd_part ?_ | with_reducible refine rd_nopart ?_ | with_reducible refine rd_ei ?_ | with_reducible refine rd_fld ?_ | with_reducible refine rd_sfld ?_ | with_reducible refine rd_sfa ?_ | with_reducible refine rd_rAdd ?_ | with_reducible refine rd_rSub ?_ | with_reducible refine rd_asg ?_ | with_reducible refine rd_gname ?_ | with_reducible refine rd_ret ?_ | with_reducible refine rd_drop ?_ | with_reducible refine rd_if ?_
  | with_reducible refine rd_c ?_ | with_reducible refine rd_op ?_ | with_reducible refine rd_un ?_ | with_reducible refine rd_rU ?_ | with_reducible refine rd_rI0 ?_ | with_reducible refine rd_eqI ?_ | with_reducible refine rd_neI ?_
  | with_reducible refine rd_test ?_ | with_reducible refine rd_tB ?_ | with_reducible refine rd_bl ?_ | with_reducible refine rd_not ?_ | with_reducible refine rd_and ?_ | with_reducible refine rd_or ?_ | with_reducible refine rd_andV ?_ | with_reducible refine rd_orV ?_
  | with_reducible refine rd_cons ?_ | with_reducible refine rd_nil ?_ | with_reducible refine rd_lst ?_ | with_reducible refine rd_tup ?_ | with_reducible refine rd_cb ?_ | with_reducible refine rd_call ?_
  | with_reducible refine rd_augS ?_ | with_reducible refine rd_ip ?_ | with_reducible refine rd_gsub ?_ | with_reducible refine rd_bm ?_ | with_reducible refine rd_bm0 ?_
  | refine rd_var (by rfl) ?_))

section
variable {P : Program} {w : World} {K : PySem.W.Frag} {mg : Str → Option Value} {base : Heap} {ad : String → Addr}
abbrev st_is_row : Stmt := top 45
abbrev nm_is_row : List Str := ["table", "row", "number"]
abbrev ps_of_is_row : List Str := ["table", "row"]
theorem sc_is_row : FnScope nm_is_row ps_of_is_row (defScope st_is_row) := ⟨rfl, rfl, rfl, by decide +kernel, rfl, by decide +kernel, by decide +kernel⟩
def spIsRow (K : PySem.W.Frag) (C : Addr) : Sp := fun vs H Q _ => ∃ (t l n : Addr) (as : List Addr) (gs : List Gm) (had : Int) (r : List Int), vs = [.ref t, .ref n] ∧ TableAt K C H t l as gs had ∧ SqL K H n (r.map V.int) ∧ r.length ≤ 9 ∧ ∀ H', Same H H' → Q (.bl (isRowB gs r)) H'
theorem ok_is_row {C : Addr} (T : Txt K mg ad) (TC : TabC K C) (D : Def K mg "is_row" st_is_row ps_of_is_row) : Has P w K mg base "is_row" 1 ps_of_is_row (spIsRow K C) := by
  refine D.has sc_is_row (fun vs H Q E h => ?_) (fun f cdv A outer s H vs Q E hr h => ?_)
  · obtain ⟨t, l, n, as, gs, had, r, rfl, _⟩ := h
    rfl
  · obtain ⟨t, l, n, as, gs, had, r, rfl, hT, hN, h9, k⟩ := h
    have hlen : (as.map V.ref).length = gs.length := by rw [List.length_map, games_len hT.games]
    refine ⟨_, (pss_cons (ps_if (PW.pt (pw_or (pt_cmpR op_lt (pe_callB (call_lenK (K := K) rfl) (by rfl) T.n_len bt_len (pa_cons (pv 1) pa_nil)) pe_int (nomark _)) (pw_or1 (pt_cmpR op_gt (pe_callB (call_lenK (K := K) rfl) (by rfl) T.n_len bt_len (pa_cons (pv 1) pa_nil)) (pe_gint rfl T.g_MOST_IN_ROW) (nomark _))))) (pss_one (ps_ret pe_bl)) pss_nil)
    (pss_one (ps_ret (pe_callB (cr_all rfl) (by rfl) T.n_all bt_all (pa_cons (pe_lc rfl sc_is_row.nd (pi_list (pv 1)) (blkOk_by (own := [("number", 2)]) (by show blkC nm_is_row (defScope st_is_row) _ _ = true; decide +kernel)) (fun _ _ _ _ _ => pg_name (i := 2) sc_is_row.nd rfl (by first | exact Or.inl rfl | exact Or.inr rfl)) (fun _ _ _ _ _ => pts_nil) (fun _ _ _ _ _ => (pe_cmpR op_lt (pv 2) (pe_callB (call_lenK (K := K) rfl) (by rfl) T.n_len bt_len (pa_cons (pe_fldK (K := K) rfl (pv 0) rfl) pa_nil)) (nomark _)))) pa_nil))))), ?_⟩
    walk_at "rd"
    refine rd_lenL hN ?_
    rw [List.length_map]
    walk_at "rd"
    refine ite2 (fun hc => ?_) (fun hc => ?_)
    · have h1 : r.length = 0 := by
        have : (r.length : Int) < 1 := by simpa using hc
        omega
      refine iteT ?_
      walk_at "rd"
      have e : isRowB gs r = false := by
        unfold isRowB
        rw [decide_eq_false (by omega), Bool.false_and]
      rw [← e]
      exact k H same_refl
    · have h1 : 1 ≤ r.length := by
        have : ¬ (r.length : Int) < 1 := by simpa using hc
        omega
      walk_at "rd"
      refine rd_lenL hN ?_
      rw [List.length_map]
      walk_at "rd"
      refine ite2 (fun hc => ?_) (fun hc => ?_)
      · have h2 : 6 < r.length := by
          have : 6 < (r.length : Int) := by simpa using hc
          omega
        walk_at "rd"
        have e : isRowB gs r = false := by
          unfold isRowB
          rw [decide_eq_false (by omega), Bool.false_and]
        rw [← e]
        exact k H same_refl
      · have h2 : r.length ≤ 6 := by
          have : ¬ 6 < (r.length : Int) := by simpa using hc
          omega
        walk_at "rd"
        refine ⟨_, rfl, n, rfl, ⟨_, hN⟩, fun q hq => ?_⟩
        have smq : ∀ o, Same H (upd H q o) := fun o => same_new hq
        refine lc_list (K := K) (a := n) (xs := r.map V.int) (fun i H' => H' = upd H q (.lst (((r.map fun z => decide (z < (gs.length : Int))).take i).map V.bl))) rfl ?_ ?_ ?_
        · rintro i H' _ rfl
          exact Same.seq (smq _) hN
        · rintro i x H' hi rfl
          obtain ⟨z, hz, rfl⟩ : ∃ z, r[i]? = some z ∧ x = V.int z := by
            rw [List.getElem?_map] at hi
            cases e : r[i]? with
            | none => rw [e] at hi; cases hi
            | some z => rw [e] at hi; exact ⟨z, rfl, (Option.some.inj hi).symm⟩
          walk_at "rd"
          refine ⟨rfl, ?_⟩
          walk_at "rd"
          refine iteT ?_
          walk_at "rd"
          refine fld_games TC (table_same hT (smq _)) ?_
          walk_at "rd"
          refine rd_lenL (SqL.of (smq _ _ _ hT.lst)) ?_
          rw [hlen]
          walk_at "rd"
          refine ⟨_, upd_same, ?_, ?_⟩
          · rw [List.length_map, List.length_take, List.length_map]
            have : 7 < sizeLine := by decide
            omega
          · rw [upd_upd, List.take_succ, List.getElem?_map, hz]
            simp
        · rintro H' rfl
          walk_at "rd"
          refine rd_all (bs := r.map fun z => decide (z < (gs.length : Int))) (SqL.of ?_) ?_
          · rw [upd_same, List.length_map, List.take_of_length_le (by simp)]
          · have e : (r.map fun z => decide (z < (gs.length : Int))).all id = isRowB gs r := by
              unfold isRowB
              rw [decide_eq_true ⟨h1, h2⟩, Bool.true_and, List.all_map]
              rfl
            rw [e]
            exact k _ (smq _)
/-- a row of games made from the table's numbers -/
theorem rowOf_take {gs : List Gm} {r : List Int} {i : Nat} {z : Int} {g : Gm} (hz : r[i]? = some z) (hg : gs[z.toNat]? = some g) : rowOf gs (r.take (i + 1)) = rowOf gs (r.take i) ++ [g] := by
  unfold rowOf
  rw [List.take_succ, hz, List.filterMap_append]
  congr 1
  show List.filterMap _ [z] = [g]
  rw [List.filterMap_cons, hg]
  rfl
/-- a new list of numbers is given back, all else stands -/
def New (H : Hp) (Q : VK) (ans : List Int) : Prop := ∀ (H' : Hp) (p : Addr), Same H H' → H p = none → H' p = some (.lst (ans.map V.int)) → Q (.ref p) H'
theorem told_new {C : Addr} {H : Hp} {Q : VK} {t l : Addr} {as : List Addr} {gs : List Gm} {had : Int} {ans : List Int} (k : Told K C H Q t l gs had ans) (hT : TableAt K C H t l as gs had) : New H Q ans := fun H' p sm h0 hp =>
  k H' p as (kept_same sm) hp (Ne.symm (ne_of_none hT.obj.choose_spec h0)) (Ne.symm (ne_of_none hT.lst h0)) h0 (table_same hT sm)
theorem new_on {H H1 : Hp} {Q : VK} {ans : List Int} (k : New H Q ans) (sm : Same H H1) : New H1 Q ans := fun H' p s2 h0 hp => k H' p (Same.trans sm s2) (Same.free sm h0) hp
theorem new_at {H H1 : Hp} {Q : VK} {ans : List Int} {p : Addr} {xs : List V} (k : New H Q ans) (sm : Same H H1) (hp : H1 p = none) (e : xs = ans.map V.int) : Q (.ref p) (upd H1 p (.lst xs)) := by
  subst e
  exact k _ p (same_then sm hp) (Same.free sm hp) upd_same
/-- a row that may be reckoned with -/
structure RowOk (K : PySem.W.Frag) (H : Hp) (r : Addr) (row : List Gm) : Prop where
  at_ : RowAt K H r row
  fit : ∀ g ∈ row, g.Fit
  ne : row ≠ []
  len : row.length ≤ 6
theorem rowOk_same {H H' : Hp} {r : Addr} {row : List Gm} (e : Same H H') (h : RowOk K H r row) : RowOk K H' r row := ⟨row_same e h.at_, h.fit, h.ne, h.len⟩
def gainAns (row : List Gm) : List Int := 0 :: twoI (gainUp row) (gainLo row) ++ [signI (gainUp row)]
abbrev st_gain_told : Stmt := top 47
abbrev nm_gain_told : List Str := ["row", "fraction"]
abbrev ps_of_gain_told : List Str := ["row"]
theorem sc_gain_told : FnScope nm_gain_told ps_of_gain_told (defScope st_gain_told) := ⟨rfl, rfl, rfl, by decide +kernel, rfl, by decide +kernel, by decide +kernel⟩
def spGT (K : PySem.W.Frag) : Sp := fun vs H Q _ => ∃ (r : Addr) (row : List Gm), vs = [.ref r] ∧ RowOk K H r row ∧ New H Q (gainAns row)
theorem ok_gain_told (T : Txt K mg ad) (D : Def K mg "gain_told" st_gain_told ps_of_gain_told) (C_gain_of_row : Has P w K mg base "gain_of_row" 4 ps_of_gain_of_row (spGR K)) (C_sign_told : Has P w K mg base "sign_told" 1 ps_of_sign_told spSign) :
    Has P w K mg base "gain_told" 5 ps_of_gain_told (spGT K) := by
  refine D.has sc_gain_told (fun vs H Q E h => ?_) (fun f cdv A outer s H vs Q E hr h => ?_)
  · obtain ⟨r, row, rfl, _⟩ := h
    rfl
  · obtain ⟨r, row, rfl, hR, k⟩ := h
    have hp := gainLo_pos (fun g hg => (hR.fit g hg).ok) hR.ne
    refine ⟨_, (pss_cons (ps_set (i := 1) sc_gain_told.nd rfl (by first | exact Or.inl rfl | exact Or.inr rfl) (pe_callH C_gain_of_row hr rfl (pa_cons (pv 0) pa_nil)))
    (pss_one (ps_ret (pe_lst (pa_cons pe_int (pa_cons (pe_ix (ix_sqK (K := K) rfl) (pv 1) pe_int (fun _ _ => rfl)) (pa_cons (pe_ix (ix_sqK (K := K) rfl) (pv 1) pe_int (fun _ _ => rfl)) (pa_cons (pe_callH C_sign_told hr rfl (pa_cons (pe_ix (ix_sqK (K := K) rfl) (pv 1) pe_int (fun _ _ => rfl)) pa_nil)) pa_nil)))))))), ?_⟩
    walk_at "rd"
    refine ⟨r, row, rfl, hR.at_, hR.fit, hR.ne, hR.len, fun H2 p2 s2 _ hp2 => ?_⟩
    walk_at "rd"
    refine rd_sqL (SqL.of hp2) rfl ?_
    walk_at "rd"
    refine rd_sqL (SqL.of hp2) rfl ?_
    walk_at "rd"
    refine rd_sqL (SqL.of hp2) rfl ?_
    walk_at "rd"
    refine ⟨_, rfl, ?_⟩
    walk_at "rd"
    refine ⟨by show 4 ≤ sizeLine; decide, fun p hp' => new_at k s2 hp' ?_⟩
    have e : signI (lowU (gainUp row) (gainLo row)) = signI (gainUp row) := signI_div hp
    rw [e]
    rfl
abbrev st_rests : Stmt := top 48
abbrev nm_rests : List Str := ["row", "told", "fraction"]
abbrev ps_of_rests : List Str := ["row"]
theorem sc_rests : FnScope nm_rests ps_of_rests (defScope st_rests) := ⟨rfl, rfl, rfl, by decide +kernel, rfl, by decide +kernel, by decide +kernel⟩
def restsI (row : List Gm) : List Int := (l3 (lasting row)).flatMap fun n => twoI n (lasting row).sum
def spRests (K : PySem.W.Frag) : Sp := fun vs H Q _ => ∃ (r : Addr) (row : List Gm), vs = [.ref r] ∧ RowOk K H r row ∧ New H Q (0 :: restsI row)
theorem flat2_take {ns : List Int} {d n : Int} {i : Nat} (h : ns[i]? = some n) : ((ns.take (i + 1)).flatMap fun n => twoI n d) = ((ns.take i).flatMap fun n => twoI n d) ++ twoI n d := by
  rw [List.take_add_one, h]
  simp
theorem flat2_len (ns : List Int) (d : Int) : (ns.flatMap fun n => twoI n d).length = 2 * ns.length := by
  induction ns with
  | nil => rfl
  | cons n ns ih =>
    rw [List.flatMap_cons, List.length_append, ih, List.length_cons]
    show 2 + _ = _
    omega
theorem ok_rests (T : Txt K mg ad) (D : Def K mg "rests" st_rests ps_of_rests) (C_rests_of_row : Has P w K mg base "rests_of_row" 4 ps_of_rests_of_row (spRR K)) : Has P w K mg base "rests" 5 ps_of_rests (spRests K) := by
  refine D.has sc_rests (fun vs H Q E h => ?_) (fun f cdv A outer s H vs Q E hr h => ?_)
  · obtain ⟨r, row, rfl, _⟩ := h
    rfl
  · obtain ⟨r, row, rfl, hR, k⟩ := h
    refine ⟨_, (pss_cons (ps_set (i := 1) sc_rests.nd rfl (by first | exact Or.inl rfl | exact Or.inr rfl) (pe_lst (pa_cons pe_int pa_nil)))
    (pss_cons (ps_for PassesOwn.never rfl (pi_list (pe_callH C_rests_of_row hr rfl (pa_cons (pv 0) pa_nil))) (pg_name (i := 2) sc_rests.nd rfl (by first | exact Or.inl rfl | exact Or.inr rfl)) (pss_one (ps_expr (pe_bm PySem.F.plainAttrs_list PySem.F.slot_list_extend PySem.F.type_list_extend mt_extendB (pv 1) (pa_cons (pv 2) pa_nil)))))
    (pss_one (ps_ret (pv 1))))), ?_⟩
    walk_at "rd"
    refine ⟨by show 1 ≤ sizeLine; decide, fun p hp => ?_⟩
    walk_at "rd"
    have s0 : Same H (upd H p (.lst [.int 0])) := same_new hp
    refine ⟨r, row, rfl, row_same s0 hR.at_, hR.fit, hR.ne, hR.len, fun H1 q ps s1 hq hF => ?_⟩
    have hp1 : H1 p = some (.lst [.int 0]) := s1 _ _ upd_same
    have hlen := hF.len
    have nqp : q ≠ p := ne_of hq hp1 (by
      intro e
      have := congrArg List.length (HO.lst.inj e)
      rw [List.length_map, hlen] at this
      simp at this)
    refine ⟨q, rfl, ⟨_, SqL.of hq⟩, for_list (K := K) (a := q) (xs := ps.map V.ref) (fun i σ H' => ∃ o : Option V, σ = [some (.ref r), some (.ref p), o] ∧ H' = upd H1 p (.lst ((0 :: ((l3 (lasting row)).take i).flatMap fun n => twoI n (lasting row).sum).map V.int)))
      ⟨_, rfl, ?_⟩ ?_ ?_ ?_⟩
    · funext b
      by_cases c : b = p
      · subst c
        rw [upd_same, hp1]
        rfl
      · rw [upd_ne c]
    · rintro i σ H' _ ⟨o, _, rfl⟩
      exact SqL.of (by rw [upd_ne nqp]; exact hq)
    · rintro i x σ H' hi ⟨o, rfl, rfl⟩
      obtain ⟨a, ha, rfl⟩ := ref_at hi
      have hi3 : i < 3 := by
        have := (List.getElem?_eq_some_iff.mp ha).1
        omega
      obtain ⟨n, hn⟩ : ∃ n, (l3 (lasting row))[i]? = some n := ⟨_, List.getElem?_eq_getElem hi3⟩
      have hA := hF.at_ i a n ha hn
      have nap : a ≠ p := ne_of hA hp1 (by
        intro e
        have := congrArg List.length (HO.lst.inj e)
        simp [twoI] at this)
      walk_at "rd"
      refine ⟨.inl ⟨rfl, _, SqL.of upd_same⟩, ?_⟩
      walk_at "rd"
      refine ⟨p, a, _, _, rfl, rfl, upd_same, .inl (by rw [upd_ne nap]; exact hA), ?_, ?_⟩
      · rw [List.length_map, List.length_map]
        show ((l3 (lasting row)).take i |>.flatMap fun n => twoI n (lasting row).sum).length + 1 + 2 ≤ sizeLine
        rw [flat2_len, List.length_take]
        have : 20 < sizeLine := by decide
        omega
      · refine ⟨_, rfl, ?_⟩
        rw [upd_upd, flat2_take hn]
        show upd H1 p (.lst _) = upd H1 p (.lst _)
        congr 2
        simp
    · rintro σ H' ⟨o, rfl, rfl⟩
      rw [List.length_map, hlen]
      walk_at "rd"
      refine k _ p (fun b o e => ?_) hp upd_same
      rw [upd_ne (ne_of_none e hp)]
      exact s1 _ _ (s0 _ _ e)
abbrev st_loses : Stmt := top 49
abbrev nm_loses : List Str := ["row", "game"]
abbrev ps_of_loses : List Str := ["row"]
theorem sc_loses : FnScope nm_loses ps_of_loses (defScope st_loses) := ⟨rfl, rfl, rfl, by decide +kernel, rfl, by decide +kernel, by decide +kernel⟩
def spLoses (K : PySem.W.Frag) : Sp := fun vs H Q _ => ∃ (r : Addr) (row : List Gm), vs = [.ref r] ∧ RowOk K H r row ∧ New H Q [if losesB row = true then 1 else 0]
def loseBs (row : List Gm) : List Bool := row.map fun g => decide (0 ≤ lowU (gainUp [g]) (gainLo [g]))
theorem loseBs_any {row : List Gm} (h : ∀ g ∈ row, g.Ok) : (loseBs row).any id = !(row.all fun g => decide (gainUp [g] < 0)) := by
  unfold loseBs
  rw [Bool.eq_iff_iff, Bool.not_eq_true', List.any_map, List.any_eq_true, List.all_eq_false]
  simp only [Function.comp_apply, id, decide_eq_true_eq]
  refine exists_congr fun g => and_congr_right fun hg => ?_
  have := low_neg (n := gainUp [g]) (gainLo1_pos (h g hg))
  unfold lowU
  omega
theorem ok_loses (T : Txt K mg ad) (D : Def K mg "loses" st_loses ps_of_loses) (C_gain_of_row : Has P w K mg base "gain_of_row" 4 ps_of_gain_of_row (spGR K)) : Has P w K mg base "loses" 5 ps_of_loses (spLoses K) := by
  refine D.has sc_loses (fun vs H Q E h => ?_) (fun f cdv A outer s H vs Q E hr h => ?_)
  · obtain ⟨r, row, rfl, _⟩ := h
    rfl
  · obtain ⟨r, row, rfl, hR, k⟩ := h
    have hok : ∀ g ∈ row, g.Ok := fun g hg => (hR.fit g hg).ok
    have hpos := gainLo_pos hok hR.ne
    have hlen := hR.len
    obtain ⟨as, hL, hA⟩ := id hR.at_
    have hal := games_len hA
    refine ⟨_, (pss_cons (ps_if (pt_val (pe_callB (cr_any rfl) (by rfl) T.n_any bt_any (pa_cons (pe_lc rfl sc_loses.nd (pi_list (pv 0)) (blkOk_by (own := [("game", 1)]) (by show blkC nm_loses (defScope st_loses) _ _ = true; decide +kernel)) (fun _ _ _ _ _ => pg_name (i := 1) sc_loses.nd rfl (by first | exact Or.inl rfl | exact Or.inr rfl)) (fun _ _ _ _ _ => pts_nil) (fun _ _ _ _ _ => (pe_cmpR op_ge (pe_ix (ix_sqK (K := K) rfl) (pe_callH C_gain_of_row hr rfl (pa_cons (pe_lst (pa_cons (pv 1) pa_nil)) pa_nil)) pe_int (fun _ _ => rfl)) pe_int (nomark _)))) pa_nil))) (pss_one (ps_ret (pe_lst (pa_cons pe_int pa_nil)))) pss_nil)
    (pss_cons (ps_if (pt_cmpR op_gt (pe_ix (ix_sqK (K := K) rfl) (pe_callH C_gain_of_row hr rfl (pa_cons (pv 0) pa_nil)) pe_int (fun _ _ => rfl)) pe_int (nomark _)) (pss_one (ps_ret (pe_lst (pa_cons pe_int pa_nil)))) pss_nil)
    (pss_one (ps_ret (pe_lst (pa_cons pe_int pa_nil)))))), ?_⟩
    walk_at "rd"
    refine ⟨_, rfl, r, rfl, ⟨_, hL⟩, fun d hd => ?_⟩
    refine lc_list (K := K) (a := r) (xs := as.map V.ref) (fun i H' => Same H H' ∧ H' d = some (.lst (((loseBs row).take i).map V.bl))) ⟨same_new hd, upd_same⟩ ?_ ?_ ?_
    · rintro i H' _ ⟨s1, _⟩
      exact Same.seq s1 hL
    · rintro i x H' hi ⟨s1, hD⟩
      obtain ⟨a, ha, rfl⟩ := ref_at hi
      obtain ⟨m, hm1, hm2⟩ := games_get hA ha
      walk_at "rd"
      refine ⟨rfl, ?_⟩
      walk_at "rd"
      refine ⟨by show 1 ≤ sizeLine; decide, fun b hb => ?_⟩
      walk_at "rd"
      have s2 : Same H' (upd H' b (.lst [.ref a])) := same_new hb
      refine ⟨b, [m], rfl, ⟨[a], SqL.of upd_same, .cons (same_T s2 (same_T s1 hm2)) .nil⟩, ?_, by simp, by simp, fun H3 p3 s3 _ hp3 => ?_⟩
      · intro g hg
        simp at hg
        subst hg
        exact hR.fit _ (List.mem_of_getElem? hm1)
      · walk_at "rd"
        refine rd_sqL (SqL.of hp3) rfl ?_
        walk_at "rd"
        refine ⟨_, s3 _ _ (s2 _ _ hD), ?_, same_turn (Same.trans s1 (Same.trans s2 s3)) hd, ?_⟩
        · rw [List.length_map, List.length_take]
          unfold loseBs
          rw [List.length_map]
          have : 10 < sizeLine := by decide
          omega
        · rw [upd_same, List.take_add_one]
          have e : (loseBs row)[i]? = some (decide (0 ≤ lowU (gainUp [m]) (gainLo [m]))) := by
            unfold loseBs
            rw [List.getElem?_map, hm1]
            rfl
          rw [e]
          simp
    · rintro H' ⟨s1, hD⟩
      walk_at "rd"
      have e3 : (loseBs row).length = row.length := by simp [loseBs]
      rw [List.length_map, hal, ← e3, List.take_length] at hD
      refine rd_any (bs := loseBs row) (SqL.of hD) ?_
      rw [loseBs_any hok]
      walk_at "rd"
      refine ite2 (fun hc => ?_) (fun hc => ?_)
      · have h1 : losesB row = false := by
          unfold losesB
          rw [Bool.not_eq_true'] at hc
          rw [hc, Bool.false_and]
        walk_at "rd"
        refine ⟨by show 1 ≤ sizeLine; decide, fun p hp => new_at k s1 hp ?_⟩
        rw [h1]
        rfl
      · have h1 : (row.all fun g => decide (gainUp [g] < 0)) = true := by simpa using hc
        walk_at "rd"
        refine ⟨r, row, rfl, row_same s1 hR.at_, hR.fit, hR.ne, hR.len, fun H2 p2 s2 _ hp2 => ?_⟩
        walk_at "rd"
        refine rd_sqL (SqL.of hp2) rfl ?_
        walk_at "rd"
        refine ite2 (fun hc => ?_) (fun hc => ?_)
        · have h2 : 0 < lowU (gainUp row) (gainLo row) := by simpa using hc
          have h3 : losesB row = true := by
            unfold losesB
            rw [h1, Bool.true_and]
            exact decide_eq_true ((low_pos hpos).mp h2)
          walk_at "rd"
          refine ⟨by show 1 ≤ sizeLine; decide, fun p hp => new_at k (Same.trans s1 s2) hp ?_⟩
          rw [h3]
          rfl
        · have h2 : ¬ 0 < lowU (gainUp row) (gainLo row) := by simpa using hc
          have h3 : losesB row = false := by
            unfold losesB
            rw [h1, Bool.true_and]
            exact decide_eq_false fun z => h2 ((low_pos hpos).mpr z)
          walk_at "rd"
          refine ⟨by show 1 ≤ sizeLine; decide, fun p hp => new_at k (Same.trans s1 s2) hp ?_⟩
          rw [h3]
          rfl
end
end Lg
end

section
set_option Elab.async false
set_option linter.all false
set_option maxRecDepth 100000
set_option maxHeartbeats 400000
namespace Lg
open PySem PySem.Spec PyProof.Rows L2
open Builtin.Int (intBits)
local macro_rules | `(tactic| walk_at "rd") => `(tactic| repeat (first
  | with_reducible refine rd_seq ?_ | with_reducible refine rd_next ?_ | with_reducible refine rd_yes ?_ | with_reducible refine rd_sl ?_ | with_reducible refine rd_part ?_ | with_reducible refine rd_nopart ?_ | with_reducible refine rd_ei ?_ | with_reducible refine rd_fld ?_ | with_reducible refine rd_sfld ?_ | with_reducible refine rd_sfa ?_ | with_reducible refine rd_rAdd ?_ | with_reducible refine rd_rSub ?_ | with_reducible refine rd_asg ?_ | with_reducible refine rd_gname ?_ | with_reducible refine rd_ret ?_ | with_reducible refine rd_drop ?_ | with_reducible refine rd_if ?_
  | with_reducible refine rd_c ?_ | with_reducible refine rd_op ?_ | with_reducible refine rd_un ?_ | with_reducible refine rd_rU ?_ | with_reducible refine rd_rI0 ?_ | with_reducible refine rd_eqI ?_ | with_reducible refine rd_neI ?_
  | with_reducible refine rd_test ?_ | with_reducible refine rd_tB ?_ | with_reducible refine rd_bl ?_ | with_reducible refine rd_not ?_ | with_reducible refine rd_and ?_ | with_reducible refine rd_or ?_ | with_reducible refine rd_andV ?_ | with_reducible refine rd_orV ?_
  | with_reducible refine rd_cons ?_ | with_reducible refine rd_nil ?_ | with_reducible refine rd_lst ?_ | with_reducible refine rd_tup ?_ | with_reducible refine rd_cb ?_ | with_reducible refine rd_call ?_
  | with_reducible refine rd_augS ?_ | with_reducible refine rd_ip ?_ | with_reducible refine rd_gsub ?_ | with_reducible refine rd_bm ?_ | with_reducible refine rd_bm0 ?_
  | refine rd_var (by rfl) ?_))

section
variable {P : Program} {w : World} {K : PySem.W.Frag} {mg : Str → Option Value} {base : Heap} {ad : String → Addr}
abbrev st_mix : Stmt := top 50
abbrev nm_mix : List Str := ["table", "weights", "weight"]
abbrev ps_of_mix : List Str := ["table", "weights"]
theorem sc_mix : FnScope nm_mix ps_of_mix (defScope st_mix) := ⟨rfl, rfl, rfl, by decide +kernel, rfl, by decide +kernel, by decide +kernel⟩
def spMix (K : PySem.W.Frag) (C : Addr) : Sp := fun vs H Q _ => ∃ (t l n : Addr) (as : List Addr) (gs : List Gm) (had : Int) (ws : List Int), vs = [.ref t, .ref n] ∧ TableAt K C H t l as gs had ∧ (∀ g ∈ gs, g.Ok ∧ g.v ≤ 100) ∧ gs.length ≤ 4 ∧ SqL K H n (ws.map V.int) ∧ ws.length ≤ 9 ∧ (∀ z ∈ ws, 0 ≤ z) ∧
  New H Q (if mixBad gs ws = true then [-2] else gainAns [mixG gs ws])
theorem sum_zero : ∀ {ws : List Int}, (∀ z ∈ ws, z = 0) → ws.sum = 0
  | [], _ => rfl
  | y :: ys, h => by
    rw [List.sum_cons, h y (by simp), sum_zero (ws := ys) fun z hz => h z (List.mem_cons_of_mem _ hz)]
    rfl
theorem ok_mix {C : Addr} (T : Txt K mg ad) (TC : TabC K C) (D : Def K mg "mix" st_mix ps_of_mix) (C_mixed_game : Has P w K mg base "mixed_game" 1 ps_of_mixed_game (spMG K)) (C_gain_told : Has P w K mg base "gain_told" 5 ps_of_gain_told (spGT K)) :
    Has P w K mg base "mix" 6 ps_of_mix (spMix K C) := by
  refine D.has sc_mix (fun vs H Q E h => ?_) (fun f cdv A outer s H vs Q E hr h => ?_)
  · obtain ⟨t, l, n, as, gs, had, ws, rfl, _⟩ := h
    rfl
  · obtain ⟨t, l, n, as, gs, had, ws, rfl, hT, hg, h4, hN, h9, h0, k⟩ := h
    have hlen : (as.map V.ref).length = gs.length := by rw [List.length_map, games_len hT.games]
    refine ⟨_, (pss_cons (ps_if (pt_cmpR op_ne (pe_callB (call_lenK (K := K) rfl) (by rfl) T.n_len bt_len (pa_cons (pv 1) pa_nil)) (pe_callB (call_lenK (K := K) rfl) (by rfl) T.n_len bt_len (pa_cons (pe_fldK (K := K) rfl (pv 0) rfl) pa_nil)) (nomark _)) (pss_one (ps_ret (pe_lst (pa_cons (pe_un un_neg pe_int) pa_nil)))) pss_nil)
    (pss_cons (ps_if (PW.pt (pw_or (pt_val (pe_callB (cr_any rfl) (by rfl) T.n_any bt_any (pa_cons (pe_lc rfl sc_mix.nd (pi_list (pv 1)) (blkOk_by (own := [("weight", 2)]) (by show blkC nm_mix (defScope st_mix) _ _ = true; decide +kernel)) (fun _ _ _ _ _ => pg_name (i := 2) sc_mix.nd rfl (by first | exact Or.inl rfl | exact Or.inr rfl)) (fun _ _ _ _ _ => pts_nil) (fun _ _ _ _ _ => (pe_cmpR op_gt (pv 2) (pe_gint rfl T.g_MOST_WEIGHT) (nomark _)))) pa_nil))) (pw_or1 (pt_cmpR op_eq (pe_callB (cr_sumK (K := K) rfl rfl) (by rfl) T.n_sum bt_sum (pa_cons (pv 1) pa_nil)) pe_int (nomark _))))) (pss_one (ps_ret (pe_lst (pa_cons (pe_un un_neg pe_int) pa_nil)))) pss_nil)
    (pss_one (ps_ret (pe_callH C_gain_told hr rfl (pa_cons (pe_lst (pa_cons (pe_callH C_mixed_game hr rfl (pa_cons (pe_fldK (K := K) rfl (pv 0) rfl) (pa_cons (pv 1) pa_nil))) pa_nil)) pa_nil)))))), ?_⟩
    walk_at "rd"
    refine rd_lenL hN ?_
    rw [List.length_map]
    walk_at "rd"
    refine fld_games TC hT ?_
    walk_at "rd"
    refine rd_lenL (SqL.of hT.lst) ?_
    rw [hlen]
    walk_at "rd"
    refine ite2 (fun hc => ?_) (fun hc => ?_)
    · have h1 : ws.length ≠ gs.length := by
        intro e
        rw [e] at hc
        simp at hc
      walk_at "rd"
      refine ⟨by show 1 ≤ sizeLine; decide, fun p hp => new_at k same_refl hp ?_⟩
      rw [mixBad_len h1]
      rfl
    · have h1 : ws.length = gs.length := by
        have : (ws.length : Int) = (gs.length : Int) := by simpa using hc
        omega
      have hbad := mixBad_is h0 h1
      walk_at "rd"
      refine ⟨_, rfl, n, rfl, ⟨_, hN⟩, fun q hq => ?_⟩
      have smq : ∀ o, Same H (upd H q o) := fun o => same_new hq
      refine lc_list (K := K) (a := n) (xs := ws.map V.int) (fun i H' => H' = upd H q (.lst (((ws.map fun z => decide (9 < z)).take i).map V.bl))) rfl ?_ ?_ ?_
      · rintro i H' _ rfl
        exact Same.seq (smq _) hN
      · rintro i x H' hi rfl
        obtain ⟨z, hz, rfl⟩ := int_at hi
        walk_at "rd"
        refine ⟨rfl, ?_⟩
        walk_at "rd"
        refine iteT ?_
        walk_at "rd"
        refine ⟨_, upd_same, ?_, ?_⟩
        · rw [List.length_map, List.length_take, List.length_map]
          have : 10 < sizeLine := by decide
          omega
        · rw [upd_upd, List.take_add_one, List.getElem?_map, hz]
          simp
      · rintro H' rfl
        walk_at "rd"
        have e9 : ((ws.map fun z => decide (9 < z)).take (ws.map V.int).length) = ws.map fun z => decide (9 < z) := List.take_of_length_le (by simp)
        rw [e9]
        refine rd_any (bs := ws.map fun z => decide (9 < z)) (SqL.of upd_same) ?_
        walk_at "rd"
        refine ite2 (fun hc => ?_) (fun hc => ?_)
        · have h2 : mixBad gs ws = true := by rw [hbad, hc, Bool.true_or]
          refine iteT ?_
          walk_at "rd"
          refine ⟨by show 1 ≤ sizeLine; decide, fun p hp => new_at k (smq _) hp ?_⟩
          rw [h2]
          rfl
        · have hf : (ws.map fun z => decide (9 < z)).any id = false := by simpa using hc
          walk_at "rd"
          refine rd_sum (Same.seq (smq _) hN) ?_
          walk_at "rd"
          refine ite2 (fun hc => ?_) (fun hc => ?_)
          · have h2 : mixBad gs ws = true := by rw [hbad, hc, Bool.or_true]
            walk_at "rd"
            refine ⟨by show 1 ≤ sizeLine; decide, fun p hp => new_at k (smq _) hp ?_⟩
            rw [h2]
            rfl
          · have hs0 : ¬ ws.sum = 0 := by simpa using hc
            have h2 : mixBad gs ws = false := by rw [hbad, hf, decide_eq_false hs0, Bool.false_or]
            have hnb : (∀ z ∈ ws, z ≤ 9) ∧ 0 < ws.sum := by
              refine ⟨fun z hz => ?_, sum_pos_of h0 fun q => hs0 ?_⟩
              · rw [List.any_map, List.any_eq_false] at hf
                have := hf z hz
                simp at this
                omega
              · exact sum_zero q
            have hfit := mixG_fit hg h4 h0 hnb.1 h1 hnb.2
            rw [h2] at k
            walk_at "rd"
            refine fld_games TC (table_same hT (smq _)) ?_
            walk_at "rd"
            refine ⟨l, n, gs, ws, rfl, ⟨as, SqL.of (smq _ _ _ hT.lst), games_same (smq _) hT.games⟩, Same.seq (smq _) hN, hg, h4, h1, fun z hz => ⟨h0 z hz, hnb.1 z hz⟩, fun H2 p2 s2 hp2 => ?_⟩
            walk_at "rd"
            refine ⟨by show 1 ≤ sizeLine; decide, fun b hb => ?_⟩
            walk_at "rd"
            have s3 : Same H2 (upd H2 b (.lst [.ref p2])) := same_new hb
            refine ⟨b, [mixG gs ws], rfl, ⟨⟨[p2], SqL.of upd_same, .cons (SqT.of (s3 _ _ hp2)) .nil⟩, ?_, by simp, by simp⟩, new_on k (Same.trans (smq _) (Same.trans s2 s3))⟩
            intro g hg
            simp at hg
            subst hg
            exact hfit
abbrev st_best : Stmt := top 51
abbrev nm_best : List Str := ["table", "numbers", "length", "chosen", "greatest", "row", "fraction", "number"]
abbrev ps_of_best : List Str := ["table", "numbers"]
theorem sc_best : FnScope nm_best ps_of_best (defScope st_best) := ⟨rfl, rfl, rfl, by decide +kernel, rfl, by decide +kernel, by decide +kernel⟩
def bestAns (gs : List Gm) (n : Nat) : List Int := Uw92.ints (pickAll gs (Uw92.rowsOf gs.length n)).r ++ [(pickAll gs (Uw92.rowsOf gs.length n)).up, (pickAll gs (Uw92.rowsOf gs.length n)).lo]
def spBest (K : PySem.W.Frag) (C : Addr) : Sp := fun vs H Q _ => ∃ (t l nn : Addr) (as : List Addr) (gs : List Gm) (had : Int) (n : Nat), vs = [.ref t, .ref nn] ∧ TableAt K C H t l as gs had ∧ (∀ g ∈ gs, g.Fit) ∧ gs.length ≤ 4 ∧ SqL K H nn [.int (n : Int)] ∧
  New H Q (if gs = [] then [-2] else if n < 1 ∨ 4 < n then [-1] else bestAns gs n)
/-- what is chosen behind some rows -/
def pickTo (gs : List Gm) (rows : List (List Nat)) (j : Nat) : Chosen := (rows.take j).foldl (pick gs) ⟨[], -1, 1⟩
theorem pickTo_succ {gs : List Gm} {rows : List (List Nat)} {j : Nat} {r : List Nat} (h : rows[j]? = some r) : pickTo gs rows (j + 1) = pick gs (pickTo gs rows j) r := by
  unfold pickTo
  rw [List.take_add_one, h]
  simp
theorem bits_low {z : Int} (h : z.natAbs < 2 ^ 1200) : intBits z ≤ 100000 := Nat.le_trans (intBits_le_iff (m := 1200).mpr h) (by decide)
theorem ok_best {C : Addr} (T : Txt K mg ad) (TC : TabC K C) (D : Def K mg "best" st_best ps_of_best) (C_rows_of_length : Has P w K mg base "rows_of_length" 1 ps_of_rows_of_length (spRl K)) (C_gain_of_row : Has P w K mg base "gain_of_row" 4 ps_of_gain_of_row (spGR K))
    (C_is_greater : Has P w K mg base "is_greater" 1 ps_of_is_greater (spGt K)) : Has P w K mg base "best" 5 ps_of_best (spBest K C) := by
  refine D.has sc_best (fun vs H Q E h => ?_) (fun f cdv A outer s H vs Q E hr h => ?_)
  · obtain ⟨t, l, nn, as, gs, had, n, rfl, _⟩ := h
    rfl
  · obtain ⟨t, l, nn, as, gs, had, n, rfl, hT, hfit, h4, hN, k⟩ := h
    have hlen : (as.map V.ref).length = gs.length := by rw [List.length_map, games_len hT.games]
    have hal := games_len hT.games
    have hbig : 100 < sizeLine := by decide
    refine ⟨_, (pss_cons (ps_set (i := 2) sc_best.nd rfl (by first | exact Or.inl rfl | exact Or.inr rfl) (pe_ix (ix_sqK (K := K) rfl) (pv 1) pe_int (fun _ _ => rfl)))
    (pss_cons (ps_if (pt_cmpR op_eq (pe_callB (call_lenK (K := K) rfl) (by rfl) T.n_len bt_len (pa_cons (pe_fldK (K := K) rfl (pv 0) rfl) pa_nil)) pe_int (nomark _)) (pss_one (ps_ret (pe_lst (pa_cons (pe_un un_neg pe_int) pa_nil)))) pss_nil)
    (pss_cons (ps_if (PW.pt (pw_or (pt_cmpR op_lt (pv 2) pe_int (nomark _)) (pw_or1 (pt_cmpR op_gt (pv 2) (pe_gint rfl T.g_MOST_IN_BEST) (nomark _))))) (pss_one (ps_ret (pe_lst (pa_cons (pe_un un_neg pe_int) pa_nil)))) pss_nil)
    (pss_cons (ps_set (i := 3) sc_best.nd rfl (by first | exact Or.inl rfl | exact Or.inr rfl) (pe_lst pa_nil))
    (pss_cons (ps_set (i := 4) sc_best.nd rfl (by first | exact Or.inl rfl | exact Or.inr rfl) (pe_lst (pa_cons (pe_un un_neg pe_int) (pa_cons pe_int pa_nil))))
    (pss_cons (ps_for PassesOwn.never rfl (pi_list (pe_callH C_rows_of_length hr rfl (pa_cons (pe_callB (call_lenK (K := K) rfl) (by rfl) T.n_len bt_len (pa_cons (pe_fldK (K := K) rfl (pv 0) rfl) pa_nil)) (pa_cons (pv 2) pa_nil)))) (pg_name (i := 5) sc_best.nd rfl (by first | exact Or.inl rfl | exact Or.inr rfl)) (pss_cons (ps_set (i := 6) sc_best.nd rfl (by first | exact Or.inl rfl | exact Or.inr rfl) (pe_callH C_gain_of_row hr rfl (pa_cons (pe_lc rfl sc_best.nd (pi_list (pv 5)) (blkOk_by (own := [("number", 7)]) (by show blkC nm_best (defScope st_best) _ _ = true; decide +kernel)) (fun _ _ _ _ _ => pg_name (i := 7) sc_best.nd rfl (by first | exact Or.inl rfl | exact Or.inr rfl)) (fun _ _ _ _ _ => pts_nil) (fun _ _ _ _ _ => (pe_ix (ix_sqK (K := K) rfl) (pe_fldK (K := K) rfl (pv 0) rfl) (pv 7) (fun _ _ => rfl)))) pa_nil)))
      (pss_one (ps_if (pt_val (pe_callH C_is_greater hr rfl (pa_cons (pv 6) (pa_cons (pv 4) pa_nil)))) (pss_cons (ps_set (i := 3) sc_best.nd rfl (by first | exact Or.inl rfl | exact Or.inr rfl) (pv 5))
        (pss_one (ps_set (i := 4) sc_best.nd rfl (by first | exact Or.inl rfl | exact Or.inr rfl) (pv 6)))) pss_nil))))
    (pss_one (ps_ret (pe_op op_cat (pv 3) (pv 4)))))))))), ?_⟩
    walk_at "rd"
    refine rd_sqL hN rfl ?_
    walk_at "rd"
    refine fld_games TC hT ?_
    walk_at "rd"
    refine rd_lenL (SqL.of hT.lst) ?_
    rw [hlen]
    walk_at "rd"
    refine ite2 (fun hc => ?_) (fun hc => ?_)
    · have h1 : gs = [] := by
        have : (gs.length : Int) = 0 := by simpa using hc
        exact List.eq_nil_of_length_eq_zero (by omega)
      rw [if_pos h1] at k
      walk_at "rd"
      exact ⟨by show 1 ≤ sizeLine; decide, fun p hp => new_at k same_refl hp rfl⟩
    · have h1 : ¬ gs = [] := by
        intro e
        subst e
        simp at hc
      rw [if_neg h1] at k
      walk_at "rd"
      refine ite2 (fun hc => ?_) (fun hc => ?_)
      · have h2 : n < 1 := by
          have : (n : Int) < 1 := by simpa using hc
          omega
        rw [if_pos (.inl h2)] at k
        refine iteT ?_
        walk_at "rd"
        exact ⟨by show 1 ≤ sizeLine; decide, fun p hp => new_at k same_refl hp rfl⟩
      · have h2 : ¬ n < 1 := by
          have : ¬ (n : Int) < 1 := by simpa using hc
          omega
        walk_at "rd"
        refine ite2 (fun hc => ?_) (fun hc => ?_)
        · have h3 : 4 < n := by
            have : 4 < (n : Int) := by simpa using hc
            omega
          rw [if_pos (.inr h3)] at k
          walk_at "rd"
          exact ⟨by show 1 ≤ sizeLine; decide, fun p hp => new_at k same_refl hp rfl⟩
        · have h3 : ¬ 4 < n := by
            have : ¬ 4 < (n : Int) := by simpa using hc
            omega
          rw [if_neg (by omega)] at k
          walk_at "rd"
          refine ⟨Nat.zero_le _, fun c0 hc0 => ?_⟩
          walk_at "rd"
          refine ⟨by show 2 ≤ sizeLine; decide, fun g0 hg0 => ?_⟩
          have s0 := same_then (o := .lst [.int (-1), .int 1]) (same_new (o := .lst []) hc0) hg0
          walk_at "rd"
          show tCall (spRl K) [] E0 _ _ _ _
          walk_at "rd"
          refine fld_games TC (table_same hT s0) ?_
          walk_at "rd"
          refine rd_lenL (SqL.of (s0 _ _ hT.lst)) ?_
          rw [hlen]
          walk_at "rd"
          refine ⟨gs.length, n, rfl, h4, by omega, fun H1 p ps s1 hp hR => ?_⟩
          have s01 := Same.trans s0 s1
          have hT1 := table_same hT s01
          have hc1 : H1 c0 = some (.lst ((Uw92.ints []).map V.int)) := s1 _ _ (same_new hg0 _ _ upd_same)
          have hg1 : H1 g0 = some (.lst [.int (-1), .int 1]) := s1 _ _ upd_same
          refine ⟨p, rfl, ⟨_, SqL.of hp⟩, for_list (K := K) (a := p) (xs := ps.map V.ref) (fun j σ H2 => ∃ (o1 o2 o3 : Option V) (pc pg : Addr), σ = [some (.ref t), some (.ref nn), some (.int (n : Int)), some (.ref pc), some (.ref pg), o1, o2, o3] ∧ Same H1 H2 ∧
              H2 pc = some (.lst ((Uw92.ints (pickTo gs (Uw92.rowsOf gs.length n) j).r).map V.int)) ∧ H2 pg = some (.lst [.int (pickTo gs (Uw92.rowsOf gs.length n) j).up, .int (pickTo gs (Uw92.rowsOf gs.length n) j).lo]) ∧
              (intBits (pickTo gs (Uw92.rowsOf gs.length n) j).up ≤ 100000 ∧ intBits (pickTo gs (Uw92.rowsOf gs.length n) j).lo ≤ 100000) ∧ (pickTo gs (Uw92.rowsOf gs.length n) j).r.length ≤ 4)
            ⟨_, _, _, c0, g0, rfl, same_refl, hc1, hg1, ⟨by show intBits (-1) ≤ 100000; decide, by show intBits 1 ≤ 100000; decide⟩, Nat.zero_le _⟩ (fun j σ H2 _ ⟨_, _, _, _, _, _, s2, _⟩ => SqL.of (s2 _ _ hp)) ?_ ?_⟩
          · rintro j x σ H2 hj ⟨o1, o2, o3, pc, pg, rfl, s2, hpc, hpg, hbits, hrl⟩
            obtain ⟨a, ha, rfl⟩ := ref_at hj
            obtain ⟨r, hr1, hr2⟩ := rows_get hR ha
            have hrm := rowsOf_mem (List.mem_of_getElem? hr1)
            have hne := rowN_ne (show 1 ≤ n by omega) (List.mem_of_getElem? hr1)
            have hT2 := table_same hT1 s2
            have hA2 : SqL K H2 a ((Uw92.ints r).map V.int) := SqL.of (s2 _ _ hr2)
            have hmem : ∀ z ∈ Uw92.ints r, 0 ≤ z ∧ z < (gs.length : Int) := by
              intro z hz
              obtain ⟨i, hi, rfl⟩ := List.mem_map.mp hz
              have := hrm.2 i hi
              omega
            have hrow : rowOf gs (Uw92.ints r) = rowN gs r := (rowN_is gs r).symm
            have hil : (Uw92.ints r).length = r.length := by simp [Uw92.ints]
            walk_at "rd"
            refine ⟨_, rfl, a, rfl, ⟨_, hA2⟩, fun q hq => ?_⟩
            have smq : ∀ o, Same H2 (upd H2 q o) := fun o => same_new hq
            refine lc_list (K := K) (a := a) (xs := (Uw92.ints r).map V.int) (fun i H' => ∃ bs : List Addr, H' = upd H2 q (.lst (bs.map V.ref)) ∧ GamesAt K H2 bs (rowOf gs ((Uw92.ints r).take i))) ⟨[], rfl, .nil⟩ ?_ ?_ ?_
            · rintro i H' _ ⟨bs, rfl, _⟩
              exact Same.seq (smq _) hA2
            · rintro i x H' hi ⟨bs, rfl, hb⟩
              obtain ⟨z, hz, rfl⟩ := int_at hi
              obtain ⟨z0, z1⟩ := hmem z (List.mem_of_getElem? hz)
              obtain ⟨c, hca⟩ : ∃ c, as[z.toNat]? = some c := ⟨_, List.getElem?_eq_getElem (by omega)⟩
              obtain ⟨g, hg1', hg2⟩ := games_get hT2.games hca
              walk_at "rd"
              refine ⟨rfl, ?_⟩
              walk_at "rd"
              refine iteT ?_
              walk_at "rd"
              refine fld_games TC (table_same hT2 (smq _)) ?_
              walk_at "rd"
              refine rd_sqL (v := V.ref c) (SqL.of (smq _ _ _ hT2.lst)) ?_ ?_
              · exact at_of (j := z.toNat) (by omega) (by rw [List.getElem?_map, hca]; rfl)
              · refine ⟨_, upd_same, ?_, bs ++ [c], ?_, ?_⟩
                · have e1 := games_len hb
                  have e2 := rowOf_length (gs := gs) (r := (Uw92.ints r).take i) fun y hy => hmem y (List.mem_of_mem_take hy)
                  rw [List.length_map, e1, e2, List.length_take]
                  omega
                · rw [upd_upd, List.map_append]
                  rfl
                · rw [rowOf_take hz hg1']
                  exact games_snoc hg2 hb
            · rintro H' ⟨bs, rfl, hb⟩
              rw [List.length_map, List.take_length, hrow] at hb
              have hrfit : ∀ g ∈ rowN gs r, g.Fit := fun g hg => by
                rw [rowN_is] at hg
                exact hfit g (rowOf_mem hg)
              have hrlen : (rowN gs r).length ≤ 6 := by
                have := rowOf_length (gs := gs) (r := Uw92.ints r) hmem
                rw [hrow] at this
                omega
              walk_at "rd"
              refine ⟨q, rowN gs r, rfl, ⟨bs, SqL.of upd_same, games_same (smq _) hb⟩, hrfit, hne, hrlen, fun H3 pf s3 _ hpf => ?_⟩
              obtain ⟨b1, b2, b3⟩ := gain_abs hrfit hne hrlen
              have s23 := Same.trans (smq _) s3
              walk_at "rd"
              refine ⟨pf, pg, _, _, _, _, rfl, SqL.of hpf, SqL.of (s23 _ _ hpg), ⟨bits_low b1, bits_low b2⟩, hbits, ?_⟩
              walk_at "rd"
              rw [pickTo_succ hr1]
              refine ite2 (fun hc => ?_) (fun hc => ?_)
              · have hlt : (pickTo gs (Uw92.rowsOf gs.length n) j).up * lowL (gainUp (rowN gs r)) (gainLo (rowN gs r)) < lowU (gainUp (rowN gs r)) (gainLo (rowN gs r)) * (pickTo gs (Uw92.rowsOf gs.length n) j).lo := of_decide_eq_true hc
                have ep : pick gs (pickTo gs (Uw92.rowsOf gs.length n) j) r = ⟨r, lowU (gainUp (rowN gs r)) (gainLo (rowN gs r)), lowL (gainUp (rowN gs r)) (gainLo (rowN gs r))⟩ := if_pos hlt
                rw [ep]
                walk_at "rd"
                exact ⟨_, _, _, a, pf, rfl, Same.trans s2 s23, s23 _ _ (s2 _ _ hr2), hpf, ⟨bits_low b1, bits_low b2⟩, by show r.length ≤ 4; omega⟩
              · have hlt : ¬ (pickTo gs (Uw92.rowsOf gs.length n) j).up * lowL (gainUp (rowN gs r)) (gainLo (rowN gs r)) < lowU (gainUp (rowN gs r)) (gainLo (rowN gs r)) * (pickTo gs (Uw92.rowsOf gs.length n) j).lo := by simpa using hc
                have ep : pick gs (pickTo gs (Uw92.rowsOf gs.length n) j) r = pickTo gs (Uw92.rowsOf gs.length n) j := if_neg hlt
                rw [ep]
                walk_at "rd"
                exact ⟨_, _, _, pc, pg, rfl, Same.trans s2 s23, s23 _ _ hpc, s23 _ _ hpg, hbits, hrl⟩
          · rintro σ H2 ⟨o1, o2, o3, pc, pg, rfl, s2, hpc, hpg, hbits, hrl⟩
            have ep : pickTo gs (Uw92.rowsOf gs.length n) (ps.map V.ref).length = pickAll gs (Uw92.rowsOf gs.length n) := by
              unfold pickTo pickAll
              rw [List.length_map, rows_len hR, List.take_length]
            rw [ep] at hpc hpg hrl
            walk_at "rd"
            refine rd_cat hpc hpg ?_ fun q hq => new_at k (Same.trans s01 s2) hq ?_
            · rw [List.length_map]
              have : (Uw92.ints (pickAll gs (Uw92.rowsOf gs.length n)).r).length = (pickAll gs (Uw92.rowsOf gs.length n)).r.length := by simp [Uw92.ints]
              show _ + 2 ≤ sizeLine
              omega
            · unfold bestAns
              rw [List.map_append]
              rfl
end
end Lg
end

section
set_option Elab.async false
set_option linter.all false
set_option maxRecDepth 100000
set_option maxHeartbeats 400000
namespace Lg
open PySem PySem.Spec PyProof.Rows L2
open Builtin.Int (intBits)
local macro_rules | `(tactic| walk_at "rd") => `(tactic| repeat (first
  | with_reducible refine rd_seq ?_ | with_reducible refine rd_next ?_ | with_reducible refine rd_yes ?_ | with_reducible refine rd_sl ?_ | with_reducible refine rd_part ?_ | with_reducible refine rd_nopart ?_ | with_reducible refine rd_ei ?_ | with_reducible refine rd_fld ?_ | with_reducible refine rd_sfld ?_ | with_reducible refine rd_sfa ?_ | with_reducible refine rd_rAdd ?_ | with_reducible refine rd_rSub ?_ | with_reducible refine rd_asg ?_ | with_reducible refine rd_gname ?_ | with_reducible refine rd_ret ?_ | with_reducible refine rd_drop ?_ | with_reducible refine rd_if ?_
  | with_reducible refine rd_c ?_ | with_reducible refine rd_op ?_ | with_reducible refine rd_un ?_ | with_reducible refine rd_rU ?_ | with_reducible refine rd_rI0 ?_ | with_reducible refine rd_eqI ?_ | with_reducible refine rd_neI ?_
  | with_reducible refine rd_test ?_ | with_reducible refine rd_tB ?_ | with_reducible refine rd_bl ?_ | with_reducible refine rd_not ?_ | with_reducible refine rd_and ?_ | with_reducible refine rd_or ?_ | with_reducible refine rd_andV ?_ | with_reducible refine rd_orV ?_
  | with_reducible refine rd_cons ?_ | with_reducible refine rd_nil ?_ | with_reducible refine rd_lst ?_ | with_reducible refine rd_tup ?_ | with_reducible refine rd_cb ?_ | with_reducible refine rd_call ?_
  | with_reducible refine rd_augS ?_ | with_reducible refine rd_ip ?_ | with_reducible refine rd_gsub ?_ | with_reducible refine rd_bm ?_ | with_reducible refine rd_bm0 ?_
  | refine rd_var (by rfl) ?_))

section
variable {P : Program} {w : World} {K : PySem.W.Frag} {mg : Str → Option Value} {base : Heap} {ad : String → Addr}
abbrev st_answer_on_row : Stmt := top 52
abbrev nm_answer_on_row : List Str := ["table", "call", "numbers", "row", "games", "played", "number"]
abbrev ps_of_answer_on_row : List Str := ["table", "call", "numbers", "row"]
theorem sc_answer_on_row : FnScope nm_answer_on_row ps_of_answer_on_row (defScope st_answer_on_row) := ⟨rfl, rfl, rfl, by decide +kernel, rfl, by decide +kernel, by decide +kernel⟩
theorem iteD {b : Bool} {A B : Prop} (hb : b = true) (h : A) : if b = true then A else B := by
  rw [if_pos hb]
  exact h
theorem iteN {b : Bool} {A B : Prop} (hb : b = false) (h : B) : if b = true then A else B := by
  rw [if_neg (by rw [hb]; decide)]
  exact h
/-- the wish of a call whose answer is known -/
theorem told_of {C : Addr} {H : Hp} {Q : VK} {t l : Addr} {gs : List Gm} {had : Int} {x : Uw92.St × List Int} {s' : Uw92.St} {ans : List Int} (k : ∀ gs' had', StOk x.1 gs' had' → Told K C H Q t l gs' had' x.2) (e : x = (s', ans)) (ok : StOk s' gs had) : Told K C H Q t l gs had ans := by
  subst e
  exact k gs had ok
/-- one call answered -/
structure Asked (K : PySem.W.Frag) (C : Addr) (vs : List V) (H : Hp) (Q : VK) (t l n rw : Addr) (as : List Addr) (gs : List Gm) (had : Int) (s : Uw92.St) (p : Int) (ns r : List Int) : Prop where
  vs_ : vs = [.ref t, .int p, .ref n, .ref rw]
  tab : TableAt K C H t l as gs had
  ok : StOk s gs had
  hb : had.natAbs ≤ 2000000
  num : SqL K H n (ns.map V.int)
  row : SqL K H rw (r.map V.int)
  okc : OkC p ns r
  k : ∀ gs' had', StOk (stepOf s (callP p ns r)).1 gs' had' → Told K C H Q t l gs' had' (stepOf s (callP p ns r)).2
def spA (K : PySem.W.Frag) (C : Addr) : Sp := fun vs H Q _ => ∃ (t l n rw : Addr) (as : List Addr) (gs : List Gm) (had : Int) (s : Uw92.St) (p : Int) (ns r : List Int), Asked K C vs H Q t l n rw as gs had s p ns r
def OnRow (p : Int) : Prop := p = 5 ∨ p = 6 ∨ 9 ≤ p
instance (p : Int) : Decidable (OnRow p) := by
  unfold OnRow
  exact inferInstance
def spOn (K : PySem.W.Frag) (C : Addr) : Sp := fun vs H Q _ => ∃ (t l n rw : Addr) (as : List Addr) (gs : List Gm) (had : Int) (s : Uw92.St) (p : Int) (ns r : List Int), Asked K C vs H Q t l n rw as gs had s p ns r ∧ OnRow p
theorem okc_row {p : Int} {ns r : List Int} (h : OkC p ns r) (hp : OnRow p) : NatL r ∧ r.length ≤ 9 := by
  cases h with
  | game h => exact absurd hp (by decide)
  | drop => exact absurd hp (by decide)
  | have_ h => exact absurd hp (by decide)
  | play h => exact absurd hp (by decide)
  | shows => exact absurd hp (by decide)
  | gain h h9 => exact ⟨h, h9⟩
  | rests h h9 => exact ⟨h, h9⟩
  | mix h h9 => exact absurd hp (by decide)
  | best h => exact absurd hp (by decide)
  | after h h9 => exact ⟨natL_tail h, h9⟩
  | chance h h9 => exact ⟨natL_tail (natL_tail h), h9⟩
  | loses h h9 => exact ⟨h, h9⟩
theorem on_bad {s : Uw92.St} {gs : List Gm} {had : Int} (ok : StOk s gs had) {p : Int} {ns r : List Int} (h : OkC p ns r) (hp : OnRow p) (hb : isRowB gs r = false) : stepOf s (callP p ns r) = (s, [-2]) := by
  cases h with
  | game h => exact absurd hp (by decide)
  | drop => exact absurd hp (by decide)
  | have_ h => exact absurd hp (by decide)
  | play h => exact absurd hp (by decide)
  | shows => exact absurd hp (by decide)
  | gain h h9 => exact (mi_gain ok h).trans (by rw [if_pos hb])
  | rests h h9 => exact (mi_rests ok h).trans (by rw [if_pos hb])
  | mix h h9 => exact absurd hp (by decide)
  | best h => exact absurd hp (by decide)
  | after h h9 => exact (mi_after ok h).trans (by rw [if_pos hb])
  | chance h h9 => exact (mi_chance ok h).trans (by rw [if_pos hb])
  | loses h h9 => exact (mi_loses ok h).trans (by rw [if_pos hb])
theorem restsI_is (row : List Gm) : restsI row = twoI (lasting row).x (lasting row).sum ++ (twoI (lasting row).y (lasting row).sum ++ twoI (lasting row).z (lasting row).sum) := by
  show twoI (lasting row).x (lasting row).sum ++ (twoI (lasting row).y (lasting row).sum ++ (twoI (lasting row).z (lasting row).sum ++ [])) = _
  rw [List.append_nil]
theorem ok_answer_on_row {C : Addr} (T : Txt K mg ad) (TC : TabC K C) (D : Def K mg "answer_on_row" st_answer_on_row ps_of_answer_on_row) (C_is_row : Has P w K mg base "is_row" 1 ps_of_is_row (spIsRow K C))
    (C_gain_told : Has P w K mg base "gain_told" 5 ps_of_gain_told (spGT K)) (C_rests : Has P w K mg base "rests" 5 ps_of_rests (spRests K)) (C_loses : Has P w K mg base "loses" 5 ps_of_loses (spLoses K)) (C_rounds_of_row : Has P w K mg base "rounds_of_row" 1 ps_of_rounds_of_row (spRo K))
    (C_average_behind : Has P w K mg base "average_behind" 3 ps_of_average_behind (spAv K)) (C_chance_of_more : Has P w K mg base "chance_of_more" 2 ps_of_chance_of_more (spCh K)) : Has P w K mg base "answer_on_row" 6 ps_of_answer_on_row (spOn K C) := by
  refine D.has sc_answer_on_row (fun vs H Q E h => ?_) (fun f cdv A outer s H vs Q E hr h => ?_)
  · obtain ⟨t, l, n, rw, as, gs, had, s, p, ns, r, ⟨rfl, _, _, _, _, _, _, _⟩, _⟩ := h
    rfl
  · obtain ⟨t, l, n, rw, as, gs, had, s, p, ns, r, ⟨rfl, hT, ok, hb, hN, hR, okc, k⟩, on⟩ := h
    obtain ⟨hnat, h9⟩ := okc_row okc on
    have h0 : ∀ z ∈ r, 0 ≤ z := fun z hz => (hnat z hz).1
    have hfit := ok.fit
    refine ⟨_, (pss_cons (ps_if (pt_not (pt_val (pe_callH C_is_row hr rfl (pa_cons (pv 0) (pa_cons (pv 3) pa_nil))))) (pss_one (ps_ret (pe_lst (pa_cons (pe_un un_neg pe_int) pa_nil)))) pss_nil)
    (pss_cons (ps_setLc (i := 4) rfl sc_answer_on_row.nd rfl rfl (sw_true rfl rfl rfl rfl) (pi_list (pv 3)) (blkOk_by (own := [("number", 6)]) (by show blkC nm_answer_on_row (defScope st_answer_on_row) _ _ = true; decide +kernel)) (fun _ _ _ _ _ => pg_name (i := 6) sc_answer_on_row.nd rfl (by first | exact Or.inl rfl | exact Or.inr rfl)) (fun _ _ _ _ _ => pts_nil) (fun _ _ _ _ _ => (pe_ix (ix_sqK (K := K) rfl) (pe_fldK (K := K) rfl (pv 0) rfl) (pv 6) (fun _ _ => rfl))))
    (pss_cons (ps_if (pt_cmpR op_eq (pv 1) (pe_gint rfl T.g_GAIN) (nomark _)) (pss_one (ps_ret (pe_callH C_gain_told hr rfl (pa_cons (pv 4) pa_nil)))) pss_nil)
    (pss_cons (ps_if (pt_cmpR op_eq (pv 1) (pe_gint rfl T.g_RESTS) (nomark _)) (pss_one (ps_ret (pe_callH C_rests hr rfl (pa_cons (pv 4) pa_nil)))) pss_nil)
    (pss_cons (ps_if (pt_cmpR op_eq (pv 1) (pe_gint rfl T.g_LOSES) (nomark _)) (pss_one (ps_ret (pe_callH C_loses hr rfl (pa_cons (pv 4) pa_nil)))) pss_nil)
    (pss_cons (ps_if (pt_cmpR op_gt (pe_ix (ix_sqK (K := K) rfl) (pv 2) pe_int (fun _ _ => rfl)) (pe_gint rfl T.g_MOST_ROUNDS) (nomark _)) (pss_one (ps_ret (pe_lst (pa_cons (pe_un un_neg pe_int) pa_nil)))) pss_nil)
    (pss_cons (ps_set (i := 5) sc_answer_on_row.nd rfl (by first | exact Or.inl rfl | exact Or.inr rfl) (pe_callH C_rounds_of_row hr rfl (pa_cons (pv 4) (pa_cons (pe_ix (ix_sqK (K := K) rfl) (pv 2) pe_int (fun _ _ => rfl)) pa_nil))))
    (pss_cons (ps_if (pt_cmpR op_eq (pv 1) (pe_gint rfl T.g_AFTER) (nomark _)) (pss_one (ps_ret (pe_op op_cat (pe_lst (pa_cons pe_int pa_nil)) (pe_callH C_average_behind hr rfl (pa_cons (pe_fldK (K := K) rfl (pv 0) rfl) (pa_cons (pv 5) pa_nil)))))) pss_nil)
    (pss_one (ps_ret (pe_op op_cat (pe_lst (pa_cons pe_int pa_nil)) (pe_callH C_chance_of_more hr rfl (pa_cons (pe_fldK (K := K) rfl (pv 0) rfl) (pa_cons (pe_ix (ix_sqK (K := K) rfl) (pv 2) pe_int (fun _ _ => rfl)) (pa_cons (pv 5) pa_nil))))))))))))))), ?_⟩
    walk_at "rd"
    refine ⟨t, l, rw, as, gs, had, r, rfl, hT, hR, h9, fun H1 sm => ?_⟩
    have hT1 := table_same hT sm
    walk_at "rd"
    refine ite2 (fun hc => ?_) (fun hc => ?_)
    · have h1 : isRowB gs r = false := by simpa using hc
      have k2 := told_new (told_of k (on_bad ok okc on h1) ok) hT
      walk_at "rd"
      exact ⟨by show 1 ≤ sizeLine; decide, fun p hp => new_at k2 sm hp rfl⟩
    · have h1 : ¬ isRowB gs r = false := by simpa using hc
      have ir : IsRow gs r := (isRowB_is h0).mp (by simpa using h1)
      have hrl := rowOf_length ir.mem
      walk_at "rd"
      refine ⟨_, rfl, rw, rfl, ⟨_, Same.seq sm hR⟩, fun q hq => ?_⟩
      have smq : ∀ o, Same H1 (upd H1 q o) := fun o => same_new hq
      refine lc_list (K := K) (a := rw) (xs := r.map V.int) (fun i H' => ∃ bs : List Addr, H' = upd H1 q (.lst (bs.map V.ref)) ∧ GamesAt K H1 bs (rowOf gs (r.take i))) ⟨[], rfl, .nil⟩ ?_ ?_ ?_
      · rintro i H' _ ⟨bs, rfl, _⟩
        exact Same.seq (smq _) (Same.seq sm hR)
      · rintro i x H' hi ⟨bs, rfl, hbs⟩
        obtain ⟨z, hz, rfl⟩ := int_at hi
        obtain ⟨z0, z1⟩ := ir.mem z (List.mem_of_getElem? hz)
        have hal : as.length = gs.length := games_len hT.games
        obtain ⟨c, ha⟩ : ∃ c, as[z.toNat]? = some c := ⟨_, List.getElem?_eq_getElem (by omega)⟩
        obtain ⟨g, hg1, hg2⟩ := games_get hT1.games ha
        walk_at "rd"
        refine ⟨rfl, ?_⟩
        walk_at "rd"
        refine iteT ?_
        walk_at "rd"
        refine fld_games TC (table_same hT1 (smq _)) ?_
        walk_at "rd"
        refine rd_sqL (v := V.ref c) (SqL.of (smq _ _ _ hT1.lst)) ?_ ?_
        · exact at_of (j := z.toNat) (by omega) (by rw [List.getElem?_map, ha]; rfl)
        · refine ⟨_, upd_same, ?_, bs ++ [c], ?_, ?_⟩
          · have e1 := games_len hbs
            have e2 := rowOf_length (gs := gs) (r := r.take i) fun y hy => ir.mem y (List.mem_of_mem_take hy)
            rw [List.length_map, e1, e2, List.length_take]
            have : 10 < sizeLine := by decide
            omega
          · rw [upd_upd, List.map_append]
            rfl
          · rw [rowOf_take hz hg1]
            exact games_snoc hg2 hbs
      · rintro H' ⟨bs, rfl, hbs⟩
        rw [List.length_map, List.take_length] at hbs
        have rok : RowOk K (upd H1 q (.lst (bs.map V.ref))) q (rowOf gs r) := ⟨⟨bs, SqL.of upd_same, games_same (smq _) hbs⟩, fun g hg => hfit g (rowOf_mem hg), rowOf_ne ir, by rw [hrl]; exact ir.hi⟩
        have s2 := Same.trans sm (smq (.lst (bs.map V.ref)))
        have hT2 := table_same hT s2
        generalize hH2 : upd H1 q (.lst (bs.map V.ref)) = H2 at *
        walk_at "rd"
        cases okc with
        | game h => exact absurd on (by decide)
        | drop => exact absurd on (by decide)
        | have_ h => exact absurd on (by decide)
        | play h => exact absurd on (by decide)
        | shows => exact absurd on (by decide)
        | mix h h9 => exact absurd on (by decide)
        | best h => exact absurd on (by decide)
        | @gain r h h9 =>
          have k2 := told_new (told_of k ((mi_gain ok h).trans (by rw [if_neg h1])) ok) hT
          refine iteD rfl ?_
          walk_at "rd"
          exact ⟨q, _, rfl, rok, new_on k2 s2⟩
        | @rests r h h9 =>
          have k2 := told_new (told_of k ((mi_rests ok h).trans (by rw [if_neg h1, ← restsI_is])) ok) hT
          repeat (refine iteN rfl ?_; walk_at "rd")
          try (refine iteD rfl ?_; walk_at "rd")
          exact ⟨q, _, rfl, rok, new_on k2 s2⟩
        | @loses r h h9 =>
          have k2 := told_new (told_of k ((mi_loses ok h).trans (by rw [if_neg h1])) ok) hT
          repeat (refine iteN rfl ?_; walk_at "rd")
          try (refine iteD rfl ?_; walk_at "rd")
          exact ⟨q, _, rfl, rok, new_on k2 s2⟩
        | @after d r h h9 =>
          have hd := h d (by simp)
          obtain ⟨dn, rfl⟩ : ∃ dn : Nat, d = (dn : Int) := ⟨d.toNat, by omega⟩
          have e := mi_after ok h
          rw [if_neg h1] at e
          repeat (refine iteN rfl ?_; walk_at "rd")
          refine rd_sqL (Same.seq s2 hN) rfl ?_
          walk_at "rd"
          refine ite2 (fun hc => ?_) (fun hc => ?_)
          · have h3 : 30 < (dn : Int) := by simpa using hc
            rw [if_pos h3] at e
            have k2 := told_new (told_of k e ok) hT
            walk_at "rd"
            exact ⟨by show 1 ≤ sizeLine; decide, fun p hp => new_at k2 s2 hp rfl⟩
          · have h3 : ¬ 30 < (dn : Int) := by simpa using hc
            rw [if_neg h3, Int.toNat_natCast] at e
            have k2 := told_new (told_of k e ok) hT
            walk_at "rd"
            refine rd_sqL (Same.seq s2 hN) rfl ?_
            walk_at "rd"
            refine ⟨q, rowOf gs r, dn, rfl, rok.at_, rok.ne, by omega, fun H3 q3 s3 hq3 => ?_⟩
            have s23 := Same.trans s2 s3
            walk_at "rd"
            try (refine iteD rfl ?_; walk_at "rd")
            refine ⟨by show 1 ≤ sizeLine; decide, fun z hz => ?_⟩
            have s4 := same_then (o := .lst [.int 0]) s23 hz
            walk_at "rd"
            refine fld_had TC (table_same hT s4) ?_
            walk_at "rd"
            refine ⟨q3, _, had, rfl, row_same (same_new hz) hq3, fun g hg => rok.fit g (playedG_mem hg), by rw [playedG_len rok.ne]; omega, hb, fun H5 p5 s5 hp5 => ?_⟩
            refine rd_cat (s5 _ _ upd_same) hp5 (by show 1 + 2 ≤ sizeLine; decide) fun b hb' => new_at k2 (Same.trans s4 s5) hb' rfl
        | @chance d x r h h9 =>
          have hd := h d (by simp)
          have hx := h x (by simp)
          obtain ⟨dn, rfl⟩ : ∃ dn : Nat, d = (dn : Int) := ⟨d.toNat, by omega⟩
          have e := mi_chance ok h
          rw [if_neg h1] at e
          repeat (refine iteN rfl ?_; walk_at "rd")
          refine rd_sqL (Same.seq s2 hN) rfl ?_
          walk_at "rd"
          refine ite2 (fun hc => ?_) (fun hc => ?_)
          · have h3 : 30 < (dn : Int) := by simpa using hc
            rw [if_pos h3] at e
            have k2 := told_new (told_of k e ok) hT
            walk_at "rd"
            exact ⟨by show 1 ≤ sizeLine; decide, fun p hp => new_at k2 s2 hp rfl⟩
          · have h3 : ¬ 30 < (dn : Int) := by simpa using hc
            have ea : stepOf s [[10, (dn : Int), x], r] = (s, 0 :: chanceI had x (playedG (rowOf gs r) dn)) := by
              rw [e, if_neg h3, Int.toNat_natCast]
              unfold chanceI
              rw [playedG_len rok.ne]
              by_cases c : (dn : Int) < x
              · rw [if_pos c, if_pos c]
              · rw [if_neg c, if_neg c]
            have k2 := told_new (told_of k ea ok) hT
            have hcl : (chanceI had x (playedG (rowOf gs r) dn)).length = 2 := by
              unfold chanceI
              split <;> rfl
            walk_at "rd"
            refine rd_sqL (Same.seq s2 hN) rfl ?_
            walk_at "rd"
            refine ⟨q, rowOf gs r, dn, rfl, rok.at_, rok.ne, by omega, fun H3 q3 s3 hq3 => ?_⟩
            have s23 := Same.trans s2 s3
            walk_at "rd"
            try (refine iteN rfl ?_; walk_at "rd")
            refine ⟨by show 1 ≤ sizeLine; decide, fun z hz => ?_⟩
            have s4 := same_then (o := .lst [.int 0]) s23 hz
            walk_at "rd"
            refine fld_had TC (table_same hT s4) ?_
            walk_at "rd"
            refine rd_sqL (Same.seq s4 hN) rfl ?_
            walk_at "rd"
            refine ⟨q3, _, had, x, rfl, row_same (same_new hz) hq3, fun g hg => rok.fit g (playedG_mem hg), by rw [playedG_len rok.ne]; omega, hx.1, fun H5 p5 s5 hp5 => ?_⟩
            refine rd_cat (s5 _ _ upd_same) hp5 (by rw [List.length_map, hcl]; show 1 + 2 ≤ sizeLine; decide) fun b hb' => new_at k2 (Same.trans s4 s5) hb' rfl
end
end Lg
end

section
set_option Elab.async false
set_option linter.all false
set_option maxRecDepth 100000
set_option maxHeartbeats 1000000
namespace Lg
open PySem PySem.Spec PyProof.Rows L2
open Builtin.Int (intBits)
local macro_rules | `(tactic| walk_at "rd") => `(tactic| repeat (first
  | with_reducible refine rd_seq ?_ | with_reducible refine rd_next ?_ | with_reducible refine rd_yes ?_ | with_reducible refine rd_sl ?_ | with_reducible refine rd_part ?_ | with_reducible refine rd_nopart ?_ | with_reducible refine rd_ei ?_ | with_reducible refine rd_fld ?_ | with_reducible refine rd_sfld ?_ | with_reducible refine rd_sfa ?_ | with_reducible refine rd_rAdd ?_ | with_reducible refine rd_rSub ?_ | with_reducible refine rd_asg ?_ | with_reducible refine rd_gname ?_ | with_reducible refine rd_ret ?_ | with_reducible refine rd_drop ?_ | with_reducible refine rd_if ?_
  | with_reducible refine rd_c ?_ | with_reducible refine rd_op ?_ | with_reducible refine rd_un ?_ | with_reducible refine rd_rU ?_ | with_reducible refine rd_rI0 ?_ | with_reducible refine rd_eqI ?_ | with_reducible refine rd_neI ?_
  | with_reducible refine rd_test ?_ | with_reducible refine rd_tB ?_ | with_reducible refine rd_bl ?_ | with_reducible refine rd_not ?_ | with_reducible refine rd_and ?_ | with_reducible refine rd_or ?_ | with_reducible refine rd_andV ?_ | with_reducible refine rd_orV ?_
  | with_reducible refine rd_cons ?_ | with_reducible refine rd_nil ?_ | with_reducible refine rd_lst ?_ | with_reducible refine rd_tup ?_ | with_reducible refine rd_cb ?_ | with_reducible refine rd_call ?_
  | with_reducible refine rd_augS ?_ | with_reducible refine rd_ip ?_ | with_reducible refine rd_gsub ?_ | with_reducible refine rd_bm ?_ | with_reducible refine rd_bm0 ?_
  | refine rd_var (by rfl) ?_))

section
variable {P : Program} {w : World} {K : PySem.W.Frag} {mg : Str → Option Value} {base : Heap} {ad : String → Addr}
abbrev st_answer : Stmt := top 53
abbrev nm_answer : List Str := ["table", "call", "numbers", "row"]
abbrev ps_of_answer : List Str := ["table", "call", "numbers", "row"]
theorem sc_answer : FnScope nm_answer ps_of_answer (defScope st_answer) := ⟨rfl, rfl, rfl, by decide +kernel, rfl, by decide +kernel, by decide +kernel⟩
abbrev st_answers : Stmt := top 54
abbrev nm_answers : List Str := ["calls", "table", "told", "place", "call", "row_place", "numbers", "row", "answered"]
abbrev ps_of_answers : List Str := ["calls"]
theorem sc_answers : FnScope nm_answers ps_of_answers (defScope st_answers) := ⟨rfl, rfl, rfl, by decide +kernel, rfl, by decide +kernel, by decide +kernel⟩
/-! ### the calls' list, by places -/
theorem cut_is {ns : List Int} {a b : Nat} (h1 : a ≤ b) (h2 : b ≤ ns.length) : cutV (ns.map V.int) (some (a : Int)) (some (b : Int)) = ((ns.drop a).take (b - a)).map V.int := by
  unfold cutV
  rw [HT.sIx_nat, HT.sIx_nat, List.length_map, Nat.min_eq_left h2, Nat.min_eq_left (show a ≤ ns.length by omega), List.map_take, List.map_drop]
theorem drop_head {ns r : List Int} {k : Nat} {p : Int} (h : ns.drop k = p :: r) : ns[k]? = some p ∧ ns.drop (k + 1) = r ∧ k + 1 + r.length = ns.length := by
  refine ⟨?_, ?_, ?_⟩
  · rw [← List.head?_drop, h]
    rfl
  · rw [← List.tail_drop, h]
    rfl
  · have := congrArg List.length h
    rw [List.length_drop, List.length_cons] at this
    omega
theorem drop_more {ns r : List Int} {k n : Nat} (h : ns.drop (k + 1) = r) : ns.drop (k + 1 + n) = r.drop n := by
  rw [← h, List.drop_drop]
theorem num_at {p : Int} {n k : Nat} (h : PyUw92.shape p = some (n, k)) : atI [V.int 4, .int 0, .int 1, .int 2, .int 0, .int 0, .int 0, .int 0, .int 1, .int 1, .int 2, .int 0] p = some (.int n) := by
  rcases shape_cases h with h | h | h | h | h | h | h | h | h | h | h | h <;> obtain ⟨rfl, rfl, rfl⟩ := h <;> first
    | omega
    | rfl
theorem row_at {p : Int} {n k : Nat} (h : PyUw92.shape p = some (n, k)) : atI [V.bl false, .bl false, .bl false, .bl false, .bl false, .bl true, .bl true, .bl true, .bl false, .bl true, .bl true, .bl true] p = some (.bl (decide (k = 1))) := by
  rcases shape_cases h with h | h | h | h | h | h | h | h | h | h | h | h <;> obtain ⟨rfl, rfl, rfl⟩ := h <;> first
    | omega
    | rfl
theorem table_upd {C : Addr} {H : Hp} {t l q : Addr} {as : List Addr} {gs : List Gm} {had : Int} {xs : List V} {o : HO} (h : TableAt K C H t l as gs had) (hq : H q = some (.lst xs)) (n : q ≠ l) : TableAt K C (upd H q o) t l as gs had := by
  obtain ⟨dx, ho⟩ := h.obj
  refine ⟨⟨dx, ?_⟩, ?_, games_upd hq (by intro ys e; cases e) (by intro b v e; cases e) h.games⟩
  · rw [upd_ne (ne_of ho hq (by intro e; cases e))]
    exact ho
  · rw [upd_ne (Ne.symm n)]
    exact h.lst
theorem kept_sq {H H' : Hp} {t l a : Addr} {xs : List V} (h : SqL K H a xs) (k : Kept H H' t l) (n1 : a ≠ t) (n2 : a ≠ l) : SqL K H' a xs := by
  rcases h with (h | ⟨o, h⟩) | h
  · exact .inl (.inl (k _ _ h n1 n2))
  · exact .inl (.inr ⟨o, k _ _ h n1 n2⟩)
  · exact .inr h
theorem callP_plain {p : Int} {n : Nat} {ns r : List Int} (h : PyUw92.shape p = some (n, 0)) : callP p ns r = [p :: ns] := by
  unfold callP
  rcases shape_cases h with h | h | h | h | h | h | h | h | h | h | h | h <;> obtain ⟨rfl, h1, h2⟩ := h <;> first
    | omega
    | exact if_neg (by decide)
theorem callP_row {p : Int} {n : Nat} {ns r : List Int} (h : PyUw92.shape p = some (n, 1)) : callP p ns r = [p :: ns, r] := by
  unfold callP
  rcases shape_cases h with h | h | h | h | h | h | h | h | h | h | h | h <;> obtain ⟨rfl, h1, h2⟩ := h <;> first
    | omega
    | exact if_pos (by decide)
def spAns (K : PySem.W.Frag) : Sp := fun vs H Q _ => ∃ (a : Addr) (ns : List Int), vs = [.ref a] ∧ SqL K H a (ns.map V.int) ∧ ns.length ≤ 520 ∧ PyUw92.answers_asked ns = true ∧ ∀ (H' : Hp) (p : Addr), H' p = some (.lst ((PyUw92.answers ns).map V.int)) → Q (.ref p) H'
/-- what holds ahead of each call -/
structure Loop (K : PySem.W.Frag) (C : Addr) (H0 H : Hp) (ns : List Int) (t l td : Addr) (k : Nat) : Prop where
  same : Same H0 H
  nt : td ≠ t ∧ td ≠ l
  kle : k ≤ ns.length
  rest : ∃ (as : List Addr) (gs : List Gm) (had : Int) (s : Uw92.St) (done : List Int) (raw : List (List (List Int))) (f : Nat), TableAt K C H t l as gs had ∧ StOk s gs had ∧ had.natAbs ≤ 1000000 + k ∧ H td = some (.lst (done.map V.int)) ∧
    PyFlat.calls PyUw92.shape f (ns.drop k) = some raw ∧ Left raw ∧ done ++ due s raw = PyUw92.answers ns
theorem free_upd {H : Hp} {p q : Addr} {o : HO} (h : upd H p o q = none) : H q = none ∧ q ≠ p := by
  unfold upd at h
  by_cases e : q = p
  · rw [if_pos e] at h; cases h
  · rw [if_neg e] at h; exact ⟨h, e⟩
/-- behind a call that was answered -/
theorem loop_on {C : Addr} {H0 H1 H2 : Hp} {ns : List Int} {t l td : Addr} {k2 : Nat} {as : List Addr} {gs : List Gm} {had : Int} {s : Uw92.St} {done : List Int} {c : List (List Int)} {cs : List (List (List Int))} {f : Nat}
    (ht : H0 t = none) (hl : H0 l = none) (htd : H0 td = none) (sm : Same H0 H1) (nt : td ≠ t ∧ td ≠ l) (hk : k2 ≤ ns.length) (hD : H1 td = some (.lst (done.map V.int))) (kp : Kept H1 H2 t l) (hT : TableAt K C H2 t l as gs had) (ok : StOk (stepOf s c).1 gs had) (hb : had.natAbs ≤ 1000000 + k2)
    (hc : PyFlat.calls PyUw92.shape f (ns.drop k2) = some cs) (hL : Left (c :: cs)) (hd : done ++ due s (c :: cs) = PyUw92.answers ns) :
    Loop K C H0 (upd (upd H2 td (.lst (done.map V.int ++ [.int ((stepOf s c).2.length : Int)]))) td (.lst (done.map V.int ++ [.int ((stepOf s c).2.length : Int)] ++ (stepOf s c).2.map V.int))) ns t l td k2 := by
  have hD2 : H2 td = some (.lst (done.map V.int)) := kp _ _ hD nt.1 nt.2
  rw [upd_upd]
  refine ⟨fun b o e => ?_, nt, hk, as, gs, had, (stepOf s c).1, done ++ ((stepOf s c).2.length : Int) :: (stepOf s c).2, cs, f, table_upd hT hD2 nt.2, ok, hb, ?_, hc, hL.tail, ?_⟩
  · rw [upd_ne (ne_of_none e htd)]
    exact kp _ _ (sm _ _ e) (ne_of_none e ht) (ne_of_none e hl)
  · rw [upd_same, List.map_append, List.append_assoc]
    rfl
  · rw [← hd, due_cons, List.append_assoc]
theorem sq_new {H : Hp} {a p : Addr} {xs : List V} {o : HO} (h : SqL K H a xs) (hp : H p = none) : SqL K (upd H p o) a xs := Same.seq (same_new hp) h
theorem size_big : 10000000 < sizeLine := by decide
theorem ok_answers {C f : Addr} {fd : FuncData} (T : Txt K mg ad) (TC : TabC K C) (F : Fun K "answers" "answers" st_answers f fd) (C_Table : HasC P w K mg base "Table" C 1 ["self"] (spInit C)) (C_answer : Has P w K mg base "answer" 7 ps_of_answer (spA K C)) : FnOk P w K mg base CX0 9 f fd ps_of_answers (spAns K) := by
  refine F.ok sc_answers (fun vs H Q E h => ?_) (fun cdv A outer s H vs Q E hr h => ?_)
  · obtain ⟨a, ns, rfl, _⟩ := h
    rfl
  · obtain ⟨a, ns, rfl, hS, h520, hask, k⟩ := h
    obtain ⟨raw0, hraw, hleft, h40, hshort⟩ := asked_left hask
    refine ⟨_, (pss_cons (ps_set (i := 1) sc_answers.nd rfl (by first | exact Or.inl rfl | exact Or.inr rfl) (pe_makeH0 C_Table hr rfl))
    (pss_cons (ps_set (i := 2) sc_answers.nd rfl (by first | exact Or.inl rfl | exact Or.inr rfl) (pe_lst pa_nil))
    (pss_cons (ps_set (i := 3) sc_answers.nd rfl (by first | exact Or.inl rfl | exact Or.inr rfl) pe_int)
    (pss_cons (ps_while PassesOwn.never (pt_cmpR op_lt (pv 3) (pe_callB (call_lenK (K := K) rfl) (by rfl) T.n_len bt_len (pa_cons (pv 0) pa_nil)) (nomark _)) (pss_cons (ps_set (i := 4) sc_answers.nd rfl (by first | exact Or.inl rfl | exact Or.inr rfl) (pe_ix (ix_sqK (K := K) rfl) (pv 0) (pv 3) (fun _ _ => rfl)))
      (pss_cons (ps_set (i := 5) sc_answers.nd rfl (by first | exact Or.inl rfl | exact Or.inr rfl) (pe_op op_add (pe_op op_add (pv 3) pe_int) (pe_ix (ix_sqK (K := K) rfl) (pe_gref rfl T.g_NUMBERS) (pv 4) (fun _ _ => rfl))))
      (pss_cons (ps_set (i := 6) sc_answers.nd rfl (by first | exact Or.inl rfl | exact Or.inr rfl) (pe_slice sl_list (pv 0) (po_some (pe_op op_add (pv 3) pe_int)) (po_some (pv 5))))
      (pss_cons (ps_set (i := 7) sc_answers.nd rfl (by first | exact Or.inl rfl | exact Or.inr rfl) (pe_lst pa_nil))
      (pss_cons (ps_set (i := 3) sc_answers.nd rfl (by first | exact Or.inl rfl | exact Or.inr rfl) (pv 5))
      (pss_cons (ps_if (pt_val (pe_ix (ix_sqK (K := K) rfl) (pe_gref rfl T.g_WITH_ROW) (pv 4) (fun _ _ => rfl))) (pss_cons (ps_set (i := 3) sc_answers.nd rfl (by first | exact Or.inl rfl | exact Or.inr rfl) (pe_op op_add (pe_op op_add (pv 5) pe_int) (pe_ix (ix_sqK (K := K) rfl) (pv 0) (pv 5) (fun _ _ => rfl))))
        (pss_one (ps_set (i := 7) sc_answers.nd rfl (by first | exact Or.inl rfl | exact Or.inr rfl) (pe_slice sl_list (pv 0) (po_some (pe_op op_add (pv 5) pe_int)) (po_some (pv 3)))))) pss_nil)
      (pss_cons (ps_set (i := 8) sc_answers.nd rfl (by first | exact Or.inl rfl | exact Or.inr rfl) (pe_callH C_answer hr rfl (pa_cons (pv 1) (pa_cons (pv 4) (pa_cons (pv 6) (pa_cons (pv 7) pa_nil))))))
      (pss_cons (ps_expr (pe_bm PySem.F.plainAttrs_list PySem.F.slot_list_append PySem.F.type_list_append mt_append (pv 2) (pa_cons (pe_callB (call_lenK (K := K) rfl) (by rfl) T.n_len bt_len (pa_cons (pv 8) pa_nil)) pa_nil)))
      (pss_one (ps_expr (pe_bm PySem.F.plainAttrs_list PySem.F.slot_list_extend PySem.F.type_list_extend mt_extendB (pv 2) (pa_cons (pv 8) pa_nil)))))))))))))
    (pss_one (ps_ret (pv 2))))))), ?_⟩
    walk_at "rd"
    intro t dx ht hdx hne
    refine ⟨t, dx, rfl, upd_same, fun H1 l hl ho1 hl1 kp => ⟨rfl, ?_⟩⟩
    have s1 : Same H H1 := fun b o e => kp b o (by rw [upd_ne (ne_of_none e ht), upd_ne (ne_of_none e hdx)]; exact e) (ne_of_none e ht)
    walk_at "rd"
    refine ⟨Nat.zero_le _, fun td htd => ?_⟩
    walk_at "rd"
    have T0 : TableAt K C H1 t l [] [] 0 := ⟨⟨dx, ho1⟩, hl1, .nil⟩
    have hl0 : H l = none := (free_upd (free_upd hl).1).1
    have htd0 : H td = none := Same.free s1 htd
    have ntd : td ≠ t ∧ td ≠ l := ⟨Ne.symm (ne_of_none ho1 htd), Ne.symm (ne_of_none hl1 htd)⟩
    refine while_by (fun σ H' => ∃ (j : Nat) (o1 o2 o3 o4 o5 : Option V), σ = [some (.ref a), some (.ref t), some (.ref td), some (.int (j : Int)), o1, o2, o3, o4, o5] ∧ Loop K C H H' ns t l td j)
      (fun σ _ => match σ with | [_, _, _, some (.int j), _, _, _, _, _] => ns.length - j.toNat | _ => 0) ?_ ?_ ?_
    · refine ⟨0, _, _, _, _, _, rfl, same_then s1 htd, ntd, Nat.zero_le _, [], [], 0, Uw92.init, [], raw0, ns.length, table_same T0 (same_new htd), stOk_init, by decide, upd_same, hraw, hleft, (answers_due hraw).symm⟩
    · rintro σ H' ⟨j, o1, o2, o3, o4, o5, rfl, L⟩
      obtain ⟨sm, _, kle, as, gs, had, s, done, raw, f2, hT, ok, hb, hD, hc, hL, hdone⟩ := L
      have hS' : SqL K H' a (ns.map V.int) := Same.seq sm hS
      walk_at "rd"
      refine rd_lenL hS' ?_
      rw [List.length_map]
      walk_at "rd"
      refine ite2 (fun hlt => ?_) (fun hge => ?_)
      · have hj : j < ns.length := by
          have : (j : Int) < (ns.length : Int) := by simpa using hlt
          omega
        obtain ⟨p, r, hpr⟩ : ∃ p r, ns.drop j = p :: r := ⟨_, _, List.drop_eq_getElem_cons hj⟩
        obtain ⟨e1, e2, e3⟩ := drop_head hpr
        rw [hpr] at hc
        obtain ⟨f3, c, rest, cs, hread, hc2, rfl⟩ := calls_cons hc
        have ha1 := hL.asked c (List.mem_cons_self ..)
        have hsum : done.length + (1 + (stepOf s c).2.length) ≤ 10000000 := by
          have := congrArg List.length hdone
          rw [List.length_append, due_cons, List.length_append, List.length_cons] at this
          omega
        have big := size_big
        walk_at "rd"
        refine rd_sqL (v := V.int p) hS' (at_of (j := j) rfl (by rw [List.getElem?_map, e1]; rfl)) ?_
        walk_at "rd"
        cases hread with
        | @plain n hs hn =>
          refine rd_sqT (T.t_NUMBERS _) (num_at hs) ?_
          walk_at "rd"
          refine rd_slL hS' fun q1 hq1 => ?_
          have ec : cutV (ns.map V.int) (some ((j : Int) + 1)) (some ((j : Int) + 1 + (n : Int))) = (r.take n).map V.int := by
            have := cut_is (ns := ns) (a := j + 1) (b := j + 1 + n) (by omega) (by omega)
            rw [e2, Nat.add_sub_cancel_left] at this
            exact_mod_cast this
          rw [ec]
          walk_at "rd"
          refine ⟨Nat.zero_le _, fun q2 hq2 => ?_⟩
          walk_at "rd"
          refine rd_sqT (T.t_WITH_ROW _) (row_at hs) ?_
          walk_at "rd"
          refine iteF ?_
          have sq : Same H' (upd (upd H' q1 (.lst ((r.take n).map V.int))) q2 (.lst [])) := same_then (same_new hq1) hq2
          have hlen : (r.take n).length = n := by rw [List.length_take]; omega
          have okc : OkC p (r.take n) [] := ok_plain (by rw [hlen]; exact hs) ha1
          have cp := callP_plain (ns := r.take n) (r := []) hs
          walk_at "rd"
          refine ⟨t, l, q1, q2, as, gs, had, s, p, r.take n, [], rfl, table_same hT sq, ok, by omega, SqL.of (same_new hq2 _ _ upd_same), SqL.of upd_same, okc, fun gs2 had2 ok2 => ?_⟩
          have hb2 : had2.natAbs ≤ 1000000 + (j + 1 + n) := by
            have := has_step ok okc hb
            rw [ok2.has] at this
            omega
          rw [cp] at ok2 ⊢
          intro H4 pa as4 kp4 hpa npt npl hpa0 hT4
          have hD4 : H4 td = some (.lst (done.map V.int)) := kp4 _ _ (sq _ _ hD) ntd.1 ntd.2
          have npd : pa ≠ td := Ne.symm (ne_of_none (sq _ _ hD) hpa0)
          walk_at "rd"
          refine ⟨.inl ⟨rfl, _, SqL.of hD4⟩, ?_⟩
          walk_at "rd"
          refine rd_lenL (SqL.of hpa) ?_
          rw [List.length_map]
          walk_at "rd"
          refine rd_app hD4 (by rw [List.length_map]; omega) ?_
          walk_at "rd"
          refine ⟨.inl ⟨rfl, _, SqL.of upd_same⟩, ?_⟩
          walk_at "rd"
          refine ⟨td, pa, _, _, rfl, rfl, upd_same, .inl (by rw [upd_ne npd]; exact hpa), ?_, ?_⟩
          · rw [List.length_append, List.length_map, List.length_map]
            show done.length + 1 + (stepOf s [p :: r.take n]).2.length ≤ sizeLine
            omega
          · refine ⟨⟨(j + 1 + n), _, _, _, _, _, rfl, loop_on (s := s) ht hl0 htd0 (Same.trans sm sq) ntd (by omega) (sq _ _ hD) kp4 hT4 ok2 hb2 (by rw [drop_more e2]; exact hc2) hL hdone⟩, ?_⟩
            show ns.length - (((j + 1 + n) : Nat) : Int).toNat < ns.length - ((j : Nat) : Int).toNat
            omega
        | @row n m r2 hs hn em hm0 hm1 =>
          have e4 : ns.drop (j + 1 + n) = m :: r2 := by rw [drop_more e2, em]
          obtain ⟨f1, f2', f3'⟩ := drop_head e4
          refine rd_sqT (T.t_NUMBERS _) (num_at hs) ?_
          walk_at "rd"
          refine rd_slL hS' fun q1 hq1 => ?_
          have ec : cutV (ns.map V.int) (some ((j : Int) + 1)) (some ((j : Int) + 1 + (n : Int))) = (r.take n).map V.int := by
            have := cut_is (ns := ns) (a := j + 1) (b := j + 1 + n) (by omega) (by omega)
            rw [e2, Nat.add_sub_cancel_left] at this
            exact_mod_cast this
          rw [ec]
          walk_at "rd"
          refine ⟨Nat.zero_le _, fun q2 hq2 => ?_⟩
          have sq0 : Same H' (upd (upd H' q1 (.lst ((r.take n).map V.int))) q2 (.lst [])) := same_then (same_new hq1) hq2
          walk_at "rd"
          refine rd_sqT (T.t_WITH_ROW _) (row_at hs) ?_
          walk_at "rd"
          refine iteT ?_
          walk_at "rd"
          refine rd_sqL (v := V.int m) (Same.seq sq0 hS') (at_of (j := j + 1 + n) (by omega) (by rw [List.getElem?_map, f1]; rfl)) ?_
          walk_at "rd"
          refine rd_slL (Same.seq sq0 hS') fun q3 hq3 => ?_
          have ec2 : cutV (ns.map V.int) (some ((j : Int) + 1 + (n : Int) + 1)) (some ((j : Int) + 1 + (n : Int) + 1 + m)) = (r2.take m.toNat).map V.int := by
            have := cut_is (ns := ns) (a := j + 1 + n + 1) (b := j + 1 + n + 1 + m.toNat) (by omega) (by omega)
            rw [f2', Nat.add_sub_cancel_left] at this
            have em2 : ((j + 1 + n + 1 + m.toNat : Nat) : Int) = (j : Int) + 1 + (n : Int) + 1 + m := by omega
            have em3 : ((j + 1 + n + 1 : Nat) : Int) = (j : Int) + 1 + (n : Int) + 1 := by omega
            rw [em2, em3] at this
            exact this
          rw [ec2]
          have sq : Same H' (upd (upd (upd H' q1 (.lst ((r.take n).map V.int))) q2 (.lst [])) q3 (.lst ((r2.take m.toNat).map V.int))) := same_then sq0 hq3
          have hlen : (r.take n).length = n := by rw [List.length_take]; omega
          have h9 : (r2.take m.toNat).length ≤ 9 := by
            have q := hL.inside
            unfold PyInside.calls at q
            rw [List.all_cons, Bool.and_eq_true] at q
            exact inside_row (by rw [hlen]; exact hs) q.1
          have okc : OkC p (r.take n) (r2.take m.toNat) := ok_row (by rw [hlen]; exact hs) ha1 h9
          have cp := callP_row (ns := r.take n) (r := r2.take m.toNat) hs
          have ep : (j : Int) + 1 + (n : Int) + 1 + m = ((j + 1 + n + 1 + m.toNat : Nat) : Int) := by omega
          rw [ep]
          walk_at "rd"
          refine ⟨t, l, q1, q3, as, gs, had, s, p, r.take n, r2.take m.toNat, rfl, table_same hT sq, ok, by omega, SqL.of (same_new hq3 _ _ (same_new hq2 _ _ upd_same)), SqL.of upd_same, okc, fun gs2 had2 ok2 => ?_⟩
          have hb2 : had2.natAbs ≤ 1000000 + (j + 1 + n + 1 + m.toNat) := by
            have := has_step ok okc hb
            rw [ok2.has] at this
            omega
          rw [cp] at ok2 ⊢
          intro H4 pa as4 kp4 hpa npt npl hpa0 hT4
          have hD4 : H4 td = some (.lst (done.map V.int)) := kp4 _ _ (sq _ _ hD) ntd.1 ntd.2
          have npd : pa ≠ td := Ne.symm (ne_of_none (sq _ _ hD) hpa0)
          walk_at "rd"
          refine ⟨.inl ⟨rfl, _, SqL.of hD4⟩, ?_⟩
          walk_at "rd"
          refine rd_lenL (SqL.of hpa) ?_
          rw [List.length_map]
          walk_at "rd"
          refine rd_app hD4 (by rw [List.length_map]; omega) ?_
          walk_at "rd"
          refine ⟨.inl ⟨rfl, _, SqL.of upd_same⟩, ?_⟩
          walk_at "rd"
          refine ⟨td, pa, _, _, rfl, rfl, upd_same, .inl (by rw [upd_ne npd]; exact hpa), ?_, ?_⟩
          · rw [List.length_append, List.length_map, List.length_map]
            show done.length + 1 + (stepOf s [p :: r.take n, r2.take m.toNat]).2.length ≤ sizeLine
            omega
          · refine ⟨⟨(j + 1 + n + 1 + m.toNat), _, _, _, _, _, rfl, loop_on (s := s) ht hl0 htd0 (Same.trans sm sq) ntd (by omega) (sq _ _ hD) kp4 hT4 ok2 hb2 (by rw [drop_more f2']; exact hc2) hL hdone⟩, ?_⟩
            show ns.length - (((j + 1 + n + 1 + m.toNat) : Nat) : Int).toNat < ns.length - ((j : Nat) : Int).toNat
            omega
      · have hj : j = ns.length := by
          have : ¬ (j : Int) < (ns.length : Int) := by simpa using hge
          omega
        subst hj
        rw [List.drop_length] at hc
        obtain rfl := calls_nil hc
        rw [due_nil, List.append_nil] at hdone
        walk_at "rd"
        refine k H' td ?_
        rw [← hdone]
        exact hD
    · rintro σ H' R R' hi ⟨v, h1, v2, h2, p, ys, h3, h4, i1, i2, h5', h6, z, h7, q⟩
      exact ⟨v, h1, v2, h2, p, ys, h3, h4, i1, i2, h5', h6, z, h7, hi _ _ q⟩
end
end Lg
end

section
set_option Elab.async false
set_option linter.all false
set_option maxRecDepth 100000
set_option maxHeartbeats 1000000
namespace Lg
open PySem PySem.Spec PyProof.Rows L2
open Builtin.Int (intBits)
local macro_rules | `(tactic| walk_at "rd") => `(tactic| repeat (first
  | with_reducible refine rd_seq ?_ | with_reducible refine rd_next ?_ | with_reducible refine rd_yes ?_ | with_reducible refine rd_sl ?_ | with_reducible refine rd_part ?_ | with_reducible refine rd_nopart ?_ | with_reducible refine rd_ei ?_ | with_reducible refine rd_fld ?_ | with_reducible refine rd_sfld ?_ | with_reducible refine rd_sfa ?_ | with_reducible refine rd_rAdd ?_ | with_reducible refine rd_rSub ?_ | with_reducible refine rd_asg ?_ | with_reducible refine rd_gname ?_ | with_reducible refine rd_ret ?_ | with_reducible refine rd_drop ?_ | with_reducible refine rd_if ?_
  | with_reducible refine rd_c ?_ | with_reducible refine rd_op ?_ | with_reducible refine rd_un ?_ | with_reducible refine rd_rU ?_ | with_reducible refine rd_rI0 ?_ | with_reducible refine rd_eqI ?_ | with_reducible refine rd_neI ?_
  | with_reducible refine rd_test ?_ | with_reducible refine rd_tB ?_ | with_reducible refine rd_bl ?_ | with_reducible refine rd_not ?_ | with_reducible refine rd_and ?_ | with_reducible refine rd_or ?_ | with_reducible refine rd_andV ?_ | with_reducible refine rd_orV ?_
  | with_reducible refine rd_cons ?_ | with_reducible refine rd_nil ?_ | with_reducible refine rd_lst ?_ | with_reducible refine rd_tup ?_ | with_reducible refine rd_cb ?_ | with_reducible refine rd_call ?_
  | with_reducible refine rd_augS ?_ | with_reducible refine rd_ip ?_ | with_reducible refine rd_gsub ?_ | with_reducible refine rd_bm ?_ | with_reducible refine rd_bm0 ?_
  | refine rd_var (by rfl) ?_))

section
variable {P : Program} {w : World} {K : PySem.W.Frag} {mg : Str → Option Value} {base : Heap} {ad : String → Addr}
theorem ok_answer {C : Addr} (T : Txt K mg ad) (D : Def K mg "answer" st_answer ps_of_answer) (C_make_game : Has P w K mg base "make_game" 2 ps_of_make_game (spMake K C)) (C_drop_game : Has P w K mg base "drop_game" 1 ps_of_drop_game (spDrop K C))
    (C_have : Has P w K mg base "have" 1 ps_of_have (spHave K C)) (C_play : Has P w K mg base "play" 1 ps_of_play (spPlay K C)) (C_shows : Has P w K mg base "shows" 1 ps_of_shows (spShows K C)) (C_mix : Has P w K mg base "mix" 6 ps_of_mix (spMix K C)) (C_best : Has P w K mg base "best" 5 ps_of_best (spBest K C)) (C_answer_on_row : Has P w K mg base "answer_on_row" 6 ps_of_answer_on_row (spOn K C)) : Has P w K mg base "answer" 7 ps_of_answer (spA K C) := by
  refine D.has sc_answer (fun vs H Q E h => ?_) (fun f cdv A outer s H vs Q E hr h => ?_)
  · obtain ⟨t, l, n, rw, as, gs, had, s, p, ns, r, ⟨rfl, _, _, _, _, _, _, _⟩⟩ := h
    rfl
  · obtain ⟨t, l, n, rw, as, gs, had, s, p, ns, r, ⟨rfl, hT, ok, hb, hN, hR, okc, k⟩⟩ := h
    refine ⟨_, (pss_cons (ps_if (pt_cmpR op_eq (pv 1) (pe_gint rfl T.g_GAME) (nomark _)) (pss_one (ps_ret (pe_callH C_make_game hr rfl (pa_cons (pv 0) (pa_cons (pv 2) pa_nil))))) pss_nil)
    (pss_cons (ps_if (pt_cmpR op_eq (pv 1) (pe_gint rfl T.g_DROP) (nomark _)) (pss_one (ps_ret (pe_callH C_drop_game hr rfl (pa_cons (pv 0) pa_nil)))) pss_nil)
    (pss_cons (ps_if (pt_cmpR op_eq (pv 1) (pe_gint rfl T.g_HAVE) (nomark _)) (pss_one (ps_ret (pe_callH C_have hr rfl (pa_cons (pv 0) (pa_cons (pv 2) pa_nil))))) pss_nil)
    (pss_cons (ps_if (pt_cmpR op_eq (pv 1) (pe_gint rfl T.g_PLAY) (nomark _)) (pss_one (ps_ret (pe_callH C_play hr rfl (pa_cons (pv 0) (pa_cons (pv 2) pa_nil))))) pss_nil)
    (pss_cons (ps_if (pt_cmpR op_eq (pv 1) (pe_gint rfl T.g_SHOWS) (nomark _)) (pss_one (ps_ret (pe_callH C_shows hr rfl (pa_cons (pv 0) pa_nil)))) pss_nil)
    (pss_cons (ps_if (pt_cmpR op_eq (pv 1) (pe_gint rfl T.g_MIX) (nomark _)) (pss_one (ps_ret (pe_callH C_mix hr rfl (pa_cons (pv 0) (pa_cons (pv 3) pa_nil))))) pss_nil)
    (pss_cons (ps_if (pt_cmpR op_eq (pv 1) (pe_gint rfl T.g_BEST) (nomark _)) (pss_one (ps_ret (pe_callH C_best hr rfl (pa_cons (pv 0) (pa_cons (pv 2) pa_nil))))) pss_nil)
    (pss_one (ps_ret (pe_callH C_answer_on_row hr rfl (pa_cons (pv 0) (pa_cons (pv 1) (pa_cons (pv 2) (pa_cons (pv 3) pa_nil)))))))))))))), ?_⟩
    walk_at "rd"
    cases okc with
    | @game v a b c h =>
      refine iteD rfl ?_
      walk_at "rd"
      refine ⟨t, l, n, as, gs, had, v, a, b, c, rfl, hT, ok.few, hN, ?_⟩
      have e := mi_game ok h
      by_cases h1 : canBe v a b c = false
      · rw [if_pos h1] at e ⊢
        exact told_of k e ok
      · rw [if_neg h1] at e ⊢
        by_cases h4 : gs.length = 4
        · rw [if_pos h4] at e ⊢
          exact told_of k e ok
        · rw [if_neg h4] at e ⊢
          exact told_of k e (mi_game_ok ok (by simpa using h1) h4)
    | drop =>
      repeat (refine iteN rfl ?_; walk_at "rd")
      try (refine iteD rfl ?_; walk_at "rd")
      refine ⟨t, l, as, gs, had, rfl, hT, ?_⟩
      have e := mi_drop ok
      by_cases h1 : gs = []
      · rw [if_pos h1] at e ⊢
        exact told_of k e ok
      · rw [if_neg h1] at e ⊢
        exact told_of k e (mi_drop_ok ok)
    | @have_ x h =>
      repeat (refine iteN rfl ?_; walk_at "rd")
      try (refine iteD rfl ?_; walk_at "rd")
      refine ⟨t, l, n, as, gs, had, x, rfl, hT, hN, ?_⟩
      have e := mi_have (s := s) h
      by_cases h1 : 1000000 < x
      · rw [if_pos h1] at e
        rw [if_pos h1, if_pos h1]
        exact told_of k e ok
      · rw [if_neg h1] at e
        rw [if_neg h1, if_neg h1]
        exact told_of k e (mi_had_ok ok x)
    | @play i x h =>
      repeat (refine iteN rfl ?_; walk_at "rd")
      try (refine iteD rfl ?_; walk_at "rd")
      refine ⟨t, l, n, as, gs, had, i, x, rfl, hT, hN, (h x (by simp)).1, ?_⟩
      have e := mi_play ok h
      by_cases h1 : (gs.length : Int) ≤ i
      · rw [if_pos h1] at e ⊢
        exact told_of k e ok
      · rw [if_neg h1] at e ⊢
        by_cases h2 : 1 < x
        · rw [if_pos h2] at e ⊢
          exact told_of k e ok
        · rw [if_neg h2] at e ⊢
          by_cases h3 : x = 1
          · rw [if_pos h3] at e ⊢
            exact told_of k e (mi_had_ok ok _)
          · rw [if_neg h3] at e ⊢
            exact told_of k e (mi_had_ok ok _)
    | shows =>
      repeat (refine iteN rfl ?_; walk_at "rd")
      try (refine iteD rfl ?_; walk_at "rd")
      exact ⟨t, l, as, gs, had, rfl, hT, ok.few, told_of k (mi_shows ok) ok⟩
    | @mix r h h9 =>
      repeat (refine iteN rfl ?_; walk_at "rd")
      try (refine iteD rfl ?_; walk_at "rd")
      exact ⟨t, l, rw, as, gs, had, r, rfl, hT, ok.ok, ok.few, hR, h9, fun z hz => (h z hz).1, told_new (told_of k (mi_mix ok h) ok) hT⟩
    | @best z h =>
      repeat (refine iteN rfl ?_; walk_at "rd")
      try (refine iteD rfl ?_; walk_at "rd")
      have hz := h z (by simp)
      obtain ⟨zn, rfl⟩ : ∃ zn : Nat, z = (zn : Int) := ⟨z.toNat, by omega⟩
      have e := mi_best ok h
      refine ⟨t, l, n, as, gs, had, zn, rfl, hT, ok.fit, ok.few, hN, told_new (told_of k (s' := s) (e.trans ?_) ok) hT⟩
      by_cases h1 : gs = []
      · rw [if_pos h1, if_pos h1]
      · rw [if_neg h1, if_neg h1]
        by_cases h2 : zn < 1 ∨ 4 < zn
        · rw [if_pos h2, if_pos (by omega)]
        · rw [if_neg h2, if_neg (by omega), Int.toNat_natCast]
          exact congrArg (Prod.mk s) (best_ans (fun g hg => (ok.ok g hg).1) h1 (n := zn) (by omega))
    | @gain r h h9 =>
      repeat (refine iteN rfl ?_; walk_at "rd")
      exact ⟨t, l, n, rw, as, gs, had, s, _, _, r, ⟨rfl, hT, ok, hb, hN, hR, .gain h h9, k⟩, by decide⟩
    | @rests r h h9 =>
      repeat (refine iteN rfl ?_; walk_at "rd")
      exact ⟨t, l, n, rw, as, gs, had, s, _, _, r, ⟨rfl, hT, ok, hb, hN, hR, .rests h h9, k⟩, by decide⟩
    | @after d r h h9 =>
      repeat (refine iteN rfl ?_; walk_at "rd")
      exact ⟨t, l, n, rw, as, gs, had, s, _, _, r, ⟨rfl, hT, ok, hb, hN, hR, .after h h9, k⟩, by decide⟩
    | @chance d x r h h9 =>
      repeat (refine iteN rfl ?_; walk_at "rd")
      exact ⟨t, l, n, rw, as, gs, had, s, _, _, r, ⟨rfl, hT, ok, hb, hN, hR, .chance h h9, k⟩, by decide⟩
    | @loses r h h9 =>
      repeat (refine iteN rfl ?_; walk_at "rd")
      exact ⟨t, l, n, rw, as, gs, had, s, _, _, r, ⟨rfl, hT, ok, hb, hN, hR, .loses h h9, k⟩, by decide⟩
end
end Lg
end

section
set_option Elab.async false
set_option linter.all false
set_option maxRecDepth 100000
set_option maxHeartbeats 2000000
namespace Lg
open PySem PySem.Spec PyProof.Rows L2
open Builtin.Int (intBits)
local macro_rules | `(tactic| walk_at "rd") => `(tactic| repeat (first
  | with_reducible refine rd_seq ?_ | with_reducible refine rd_next ?_ | with_reducible refine rd_yes ?_ | with_reducible refine rd_sl ?_ | with_reducible refine rd_part ?_ | with_reducible refine rd_nopart ?_ | with_reducible refine rd_ei ?_ | with_reducible refine rd_fld ?_ | with_reducible refine rd_sfld ?_ | with_reducible refine rd_sfa ?_ | with_reducible refine rd_rAdd ?_ | with_reducible refine rd_rSub ?_ | with_reducible refine rd_asg ?_ | with_reducible refine rd_gname ?_ | with_reducible refine rd_ret ?_ | with_reducible refine rd_drop ?_ | with_reducible refine rd_if ?_
  | with_reducible refine rd_c ?_ | with_reducible refine rd_op ?_ | with_reducible refine rd_un ?_ | with_reducible refine rd_rU ?_ | with_reducible refine rd_rI0 ?_ | with_reducible refine rd_eqI ?_ | with_reducible refine rd_neI ?_
  | with_reducible refine rd_test ?_ | with_reducible refine rd_tB ?_ | with_reducible refine rd_bl ?_ | with_reducible refine rd_not ?_ | with_reducible refine rd_and ?_ | with_reducible refine rd_or ?_ | with_reducible refine rd_andV ?_ | with_reducible refine rd_orV ?_
  | with_reducible refine rd_cons ?_ | with_reducible refine rd_nil ?_ | with_reducible refine rd_lst ?_ | with_reducible refine rd_tup ?_ | with_reducible refine rd_cb ?_ | with_reducible refine rd_call ?_
  | with_reducible refine rd_augS ?_ | with_reducible refine rd_ip ?_ | with_reducible refine rd_gsub ?_ | with_reducible refine rd_bm ?_ | with_reducible refine rd_bm0 ?_
  | refine rd_var (by rfl) ?_))

section
variable {P : Program} {w : World} {K : PySem.W.Frag} {mg : Str → Option Value} {base : Heap} {ad : String → Addr}
open PySem.W (Codec)
theorem def_of {h : Heap} {x : Str} {st : Stmt} {ps : List Str} {f : Addr} {oc : Value} {od an : Option Addr} {osl : Array (Option Value)} {kV doc pm cdv ct : Value} (X : K.In h) (G : h.Ns mainGlobals mg) (a : PySem.W.nsIn K mainGlobals x = some (some (.ref f)))
    (l : K.lookup f = some ⟨oc, od, .func (PySem.W.fnOf x x (defArgs st) (defBody st) (defScope st) .none kV doc pm an cdv ct), osl⟩) (c : PySem.W.codeIn K cdv x = true) (k : PySem.W.keepIn K (.ref f) = true)
    (b : ∀ (kV doc pm : Value) (an : Option Addr) (cdv ct : Value) (us : List Value), us.length = ps.length → bindArgs (PySem.W.fnOf x x (defArgs st) (defBody st) (defScope st) .none kV doc pm an cdv ct) ⟨us, []⟩ = pure (ps.zip us)) : Def K mg x st ps := by
  have F := fun_mk (st := st) l c k
  exact ⟨f, _, F, PySem.W.mg_of X G a, F.binds (ps := ps) b⟩
theorem tup_of {h : Heap} {x : Str} {a : Addr} {o : Obj} {its : Array Value} {n : Nat} {xs : List V} (X : K.In h) (G : h.Ns mainGlobals mg) (e : PySem.W.nsIn K mainGlobals x = some (some (.ref a))) (l : K.lookup a = some o) (c : o.cls = .type "tuple") (d : o.data = .seq its n)
    (s : its.size ≤ sizeLine) (v : Vals xs its.toList) : ∃ a, mg x = some (.ref a) ∧ ∀ H, SqT K H a xs := ⟨a, PySem.W.mg_of X G e, fun _ => .inr ⟨o, its, n, l, c, d, s, v⟩⟩
theorem all_mk {h : Heap} {fa : Addr} (X : K.In h) (G : h.Ns mainGlobals mg) (hfa : mg "answers" = some (.ref fa))
    (z_abs : PySem.W.nsIn K mainGlobals "abs" = some none)
    (z_range : PySem.W.nsIn K mainGlobals "range" = some none)
    (z_sum : PySem.W.nsIn K mainGlobals "sum" = some none)
    (z_len : PySem.W.nsIn K mainGlobals "len" = some none)
    (z_all : PySem.W.nsIn K mainGlobals "all" = some none)
    (z_any : PySem.W.nsIn K mainGlobals "any" = some none)
    (z_tuple : PySem.W.nsIn K mainGlobals "tuple" = some none)
    (z_list : PySem.W.nsIn K mainGlobals "list" = some none)
    (z_max : PySem.W.nsIn K mainGlobals "max" = some none)
    (z_min : PySem.W.nsIn K mainGlobals "min" = some none)
    (z_sorted : PySem.W.nsIn K mainGlobals "sorted" = some none)
    {tk_GAME : Tok} (i_GAME : PySem.W.nsIn K mainGlobals "GAME" = some (some (.int 0 tk_GAME)))
    {tk_DROP : Tok} (i_DROP : PySem.W.nsIn K mainGlobals "DROP" = some (some (.int 1 tk_DROP)))
    {tk_HAVE : Tok} (i_HAVE : PySem.W.nsIn K mainGlobals "HAVE" = some (some (.int 2 tk_HAVE)))
    {tk_PLAY : Tok} (i_PLAY : PySem.W.nsIn K mainGlobals "PLAY" = some (some (.int 3 tk_PLAY)))
    {tk_SHOWS : Tok} (i_SHOWS : PySem.W.nsIn K mainGlobals "SHOWS" = some (some (.int 4 tk_SHOWS)))
    {tk_GAIN : Tok} (i_GAIN : PySem.W.nsIn K mainGlobals "GAIN" = some (some (.int 5 tk_GAIN)))
    {tk_RESTS : Tok} (i_RESTS : PySem.W.nsIn K mainGlobals "RESTS" = some (some (.int 6 tk_RESTS)))
    {tk_MIX : Tok} (i_MIX : PySem.W.nsIn K mainGlobals "MIX" = some (some (.int 7 tk_MIX)))
    {tk_BEST : Tok} (i_BEST : PySem.W.nsIn K mainGlobals "BEST" = some (some (.int 8 tk_BEST)))
    {tk_AFTER : Tok} (i_AFTER : PySem.W.nsIn K mainGlobals "AFTER" = some (some (.int 9 tk_AFTER)))
    {tk_LOSES : Tok} (i_LOSES : PySem.W.nsIn K mainGlobals "LOSES" = some (some (.int 11 tk_LOSES)))
    {tk_MOST_GAMES : Tok} (i_MOST_GAMES : PySem.W.nsIn K mainGlobals "MOST_GAMES" = some (some (.int 4 tk_MOST_GAMES)))
    {tk_MOST_IN_ROW : Tok} (i_MOST_IN_ROW : PySem.W.nsIn K mainGlobals "MOST_IN_ROW" = some (some (.int 6 tk_MOST_IN_ROW)))
    {tk_LEAST_V : Tok} (i_LEAST_V : PySem.W.nsIn K mainGlobals "LEAST_V" = some (some (.int 2 tk_LEAST_V)))
    {tk_MOST_V : Tok} (i_MOST_V : PySem.W.nsIn K mainGlobals "MOST_V" = some (some (.int 100 tk_MOST_V)))
    {tk_MOST_HAD : Tok} (i_MOST_HAD : PySem.W.nsIn K mainGlobals "MOST_HAD" = some (some (.int 1000000 tk_MOST_HAD)))
    {tk_MOST_WEIGHT : Tok} (i_MOST_WEIGHT : PySem.W.nsIn K mainGlobals "MOST_WEIGHT" = some (some (.int 9 tk_MOST_WEIGHT)))
    {tk_MOST_IN_BEST : Tok} (i_MOST_IN_BEST : PySem.W.nsIn K mainGlobals "MOST_IN_BEST" = some (some (.int 4 tk_MOST_IN_BEST)))
    {tk_MOST_ROUNDS : Tok} (i_MOST_ROUNDS : PySem.W.nsIn K mainGlobals "MOST_ROUNDS" = some (some (.int 30 tk_MOST_ROUNDS)))
    {A_NUMBERS : Addr} {O_NUMBERS : Obj} {I_NUMBERS : Array Value} {N_NUMBERS : Nat} (r_NUMBERS : PySem.W.nsIn K mainGlobals "NUMBERS" = some (some (.ref A_NUMBERS))) (s_NUMBERS : K.lookup A_NUMBERS = some O_NUMBERS) (t_NUMBERS : O_NUMBERS.cls = .type "tuple") (u_NUMBERS : O_NUMBERS.data = .seq I_NUMBERS N_NUMBERS) (v_NUMBERS : I_NUMBERS.size ≤ sizeLine) (w_NUMBERS : Vals [.int 4, .int 0, .int 1, .int 2, .int 0, .int 0, .int 0, .int 0, .int 1, .int 1, .int 2, .int 0] I_NUMBERS.toList)
    {A_WITH_ROW : Addr} {O_WITH_ROW : Obj} {I_WITH_ROW : Array Value} {N_WITH_ROW : Nat} (r_WITH_ROW : PySem.W.nsIn K mainGlobals "WITH_ROW" = some (some (.ref A_WITH_ROW))) (s_WITH_ROW : K.lookup A_WITH_ROW = some O_WITH_ROW) (t_WITH_ROW : O_WITH_ROW.cls = .type "tuple") (u_WITH_ROW : O_WITH_ROW.data = .seq I_WITH_ROW N_WITH_ROW) (v_WITH_ROW : I_WITH_ROW.size ≤ sizeLine) (w_WITH_ROW : Vals [.bl false, .bl false, .bl false, .bl false, .bl false, .bl true, .bl true, .bl true, .bl false, .bl true, .bl true, .bl true] I_WITH_ROW.toList)
    {f_lowest_terms : Addr} {oc_lowest_terms : Value} {od_lowest_terms an_lowest_terms : Option Addr} {sl_lowest_terms : Array (Option Value)} {kv_lowest_terms dc_lowest_terms pm_lowest_terms cd_lowest_terms ct_lowest_terms : Value} (a_lowest_terms : PySem.W.nsIn K mainGlobals "lowest_terms" = some (some (.ref f_lowest_terms))) (l_lowest_terms : K.lookup f_lowest_terms = some ⟨oc_lowest_terms, od_lowest_terms, .func (PySem.W.fnOf "lowest_terms" "lowest_terms" (defArgs st_lowest_terms) (defBody st_lowest_terms) (defScope st_lowest_terms) .none kv_lowest_terms dc_lowest_terms pm_lowest_terms an_lowest_terms cd_lowest_terms ct_lowest_terms), sl_lowest_terms⟩) (c_lowest_terms : PySem.W.codeIn K cd_lowest_terms "lowest_terms" = true) (k_lowest_terms : PySem.W.keepIn K (.ref f_lowest_terms) = true)
    {f_shares_behind : Addr} {oc_shares_behind : Value} {od_shares_behind an_shares_behind : Option Addr} {sl_shares_behind : Array (Option Value)} {kv_shares_behind dc_shares_behind pm_shares_behind cd_shares_behind ct_shares_behind : Value} (a_shares_behind : PySem.W.nsIn K mainGlobals "shares_behind" = some (some (.ref f_shares_behind))) (l_shares_behind : K.lookup f_shares_behind = some ⟨oc_shares_behind, od_shares_behind, .func (PySem.W.fnOf "shares_behind" "shares_behind" (defArgs st_shares_behind) (defBody st_shares_behind) (defScope st_shares_behind) .none kv_shares_behind dc_shares_behind pm_shares_behind an_shares_behind cd_shares_behind ct_shares_behind), sl_shares_behind⟩) (c_shares_behind : PySem.W.codeIn K cd_shares_behind "shares_behind" = true) (k_shares_behind : PySem.W.keepIn K (.ref f_shares_behind) = true)
    {f_won_in_round : Addr} {oc_won_in_round : Value} {od_won_in_round an_won_in_round : Option Addr} {sl_won_in_round : Array (Option Value)} {kv_won_in_round dc_won_in_round pm_won_in_round cd_won_in_round ct_won_in_round : Value} (a_won_in_round : PySem.W.nsIn K mainGlobals "won_in_round" = some (some (.ref f_won_in_round))) (l_won_in_round : K.lookup f_won_in_round = some ⟨oc_won_in_round, od_won_in_round, .func (PySem.W.fnOf "won_in_round" "won_in_round" (defArgs st_won_in_round) (defBody st_won_in_round) (defScope st_won_in_round) .none kv_won_in_round dc_won_in_round pm_won_in_round an_won_in_round cd_won_in_round ct_won_in_round), sl_won_in_round⟩) (c_won_in_round : PySem.W.codeIn K cd_won_in_round "won_in_round" = true) (k_won_in_round : PySem.W.keepIn K (.ref f_won_in_round) = true)
    {f_moves_of_row : Addr} {oc_moves_of_row : Value} {od_moves_of_row an_moves_of_row : Option Addr} {sl_moves_of_row : Array (Option Value)} {kv_moves_of_row dc_moves_of_row pm_moves_of_row cd_moves_of_row ct_moves_of_row : Value} (a_moves_of_row : PySem.W.nsIn K mainGlobals "moves_of_row" = some (some (.ref f_moves_of_row))) (l_moves_of_row : K.lookup f_moves_of_row = some ⟨oc_moves_of_row, od_moves_of_row, .func (PySem.W.fnOf "moves_of_row" "moves_of_row" (defArgs st_moves_of_row) (defBody st_moves_of_row) (defScope st_moves_of_row) .none kv_moves_of_row dc_moves_of_row pm_moves_of_row an_moves_of_row cd_moves_of_row ct_moves_of_row), sl_moves_of_row⟩) (c_moves_of_row : PySem.W.codeIn K cd_moves_of_row "moves_of_row" = true) (k_moves_of_row : PySem.W.keepIn K (.ref f_moves_of_row) = true)
    {f_lasting_shares : Addr} {oc_lasting_shares : Value} {od_lasting_shares an_lasting_shares : Option Addr} {sl_lasting_shares : Array (Option Value)} {kv_lasting_shares dc_lasting_shares pm_lasting_shares cd_lasting_shares ct_lasting_shares : Value} (a_lasting_shares : PySem.W.nsIn K mainGlobals "lasting_shares" = some (some (.ref f_lasting_shares))) (l_lasting_shares : K.lookup f_lasting_shares = some ⟨oc_lasting_shares, od_lasting_shares, .func (PySem.W.fnOf "lasting_shares" "lasting_shares" (defArgs st_lasting_shares) (defBody st_lasting_shares) (defScope st_lasting_shares) .none kv_lasting_shares dc_lasting_shares pm_lasting_shares an_lasting_shares cd_lasting_shares ct_lasting_shares), sl_lasting_shares⟩) (c_lasting_shares : PySem.W.codeIn K cd_lasting_shares "lasting_shares" = true) (k_lasting_shares : PySem.W.keepIn K (.ref f_lasting_shares) = true)
    {f_won_in_rounds : Addr} {oc_won_in_rounds : Value} {od_won_in_rounds an_won_in_rounds : Option Addr} {sl_won_in_rounds : Array (Option Value)} {kv_won_in_rounds dc_won_in_rounds pm_won_in_rounds cd_won_in_rounds ct_won_in_rounds : Value} (a_won_in_rounds : PySem.W.nsIn K mainGlobals "won_in_rounds" = some (some (.ref f_won_in_rounds))) (l_won_in_rounds : K.lookup f_won_in_rounds = some ⟨oc_won_in_rounds, od_won_in_rounds, .func (PySem.W.fnOf "won_in_rounds" "won_in_rounds" (defArgs st_won_in_rounds) (defBody st_won_in_rounds) (defScope st_won_in_rounds) .none kv_won_in_rounds dc_won_in_rounds pm_won_in_rounds an_won_in_rounds cd_won_in_rounds ct_won_in_rounds), sl_won_in_rounds⟩) (c_won_in_rounds : PySem.W.codeIn K cd_won_in_rounds "won_in_rounds" = true) (k_won_in_rounds : PySem.W.keepIn K (.ref f_won_in_rounds) = true)
    {f_gain_of_row : Addr} {oc_gain_of_row : Value} {od_gain_of_row an_gain_of_row : Option Addr} {sl_gain_of_row : Array (Option Value)} {kv_gain_of_row dc_gain_of_row pm_gain_of_row cd_gain_of_row ct_gain_of_row : Value} (a_gain_of_row : PySem.W.nsIn K mainGlobals "gain_of_row" = some (some (.ref f_gain_of_row))) (l_gain_of_row : K.lookup f_gain_of_row = some ⟨oc_gain_of_row, od_gain_of_row, .func (PySem.W.fnOf "gain_of_row" "gain_of_row" (defArgs st_gain_of_row) (defBody st_gain_of_row) (defScope st_gain_of_row) .none kv_gain_of_row dc_gain_of_row pm_gain_of_row an_gain_of_row cd_gain_of_row ct_gain_of_row), sl_gain_of_row⟩) (c_gain_of_row : PySem.W.codeIn K cd_gain_of_row "gain_of_row" = true) (k_gain_of_row : PySem.W.keepIn K (.ref f_gain_of_row) = true)
    {f_rests_of_row : Addr} {oc_rests_of_row : Value} {od_rests_of_row an_rests_of_row : Option Addr} {sl_rests_of_row : Array (Option Value)} {kv_rests_of_row dc_rests_of_row pm_rests_of_row cd_rests_of_row ct_rests_of_row : Value} (a_rests_of_row : PySem.W.nsIn K mainGlobals "rests_of_row" = some (some (.ref f_rests_of_row))) (l_rests_of_row : K.lookup f_rests_of_row = some ⟨oc_rests_of_row, od_rests_of_row, .func (PySem.W.fnOf "rests_of_row" "rests_of_row" (defArgs st_rests_of_row) (defBody st_rests_of_row) (defScope st_rests_of_row) .none kv_rests_of_row dc_rests_of_row pm_rests_of_row an_rests_of_row cd_rests_of_row ct_rests_of_row), sl_rests_of_row⟩) (c_rests_of_row : PySem.W.codeIn K cd_rests_of_row "rests_of_row" = true) (k_rests_of_row : PySem.W.keepIn K (.ref f_rests_of_row) = true)
    {f_mixed_game : Addr} {oc_mixed_game : Value} {od_mixed_game an_mixed_game : Option Addr} {sl_mixed_game : Array (Option Value)} {kv_mixed_game dc_mixed_game pm_mixed_game cd_mixed_game ct_mixed_game : Value} (a_mixed_game : PySem.W.nsIn K mainGlobals "mixed_game" = some (some (.ref f_mixed_game))) (l_mixed_game : K.lookup f_mixed_game = some ⟨oc_mixed_game, od_mixed_game, .func (PySem.W.fnOf "mixed_game" "mixed_game" (defArgs st_mixed_game) (defBody st_mixed_game) (defScope st_mixed_game) .none kv_mixed_game dc_mixed_game pm_mixed_game an_mixed_game cd_mixed_game ct_mixed_game), sl_mixed_game⟩) (c_mixed_game : PySem.W.codeIn K cd_mixed_game "mixed_game" = true) (k_mixed_game : PySem.W.keepIn K (.ref f_mixed_game) = true)
    {f_rows_of_length : Addr} {oc_rows_of_length : Value} {od_rows_of_length an_rows_of_length : Option Addr} {sl_rows_of_length : Array (Option Value)} {kv_rows_of_length dc_rows_of_length pm_rows_of_length cd_rows_of_length ct_rows_of_length : Value} (a_rows_of_length : PySem.W.nsIn K mainGlobals "rows_of_length" = some (some (.ref f_rows_of_length))) (l_rows_of_length : K.lookup f_rows_of_length = some ⟨oc_rows_of_length, od_rows_of_length, .func (PySem.W.fnOf "rows_of_length" "rows_of_length" (defArgs st_rows_of_length) (defBody st_rows_of_length) (defScope st_rows_of_length) .none kv_rows_of_length dc_rows_of_length pm_rows_of_length an_rows_of_length cd_rows_of_length ct_rows_of_length), sl_rows_of_length⟩) (c_rows_of_length : PySem.W.codeIn K cd_rows_of_length "rows_of_length" = true) (k_rows_of_length : PySem.W.keepIn K (.ref f_rows_of_length) = true)
    {f_is_greater : Addr} {oc_is_greater : Value} {od_is_greater an_is_greater : Option Addr} {sl_is_greater : Array (Option Value)} {kv_is_greater dc_is_greater pm_is_greater cd_is_greater ct_is_greater : Value} (a_is_greater : PySem.W.nsIn K mainGlobals "is_greater" = some (some (.ref f_is_greater))) (l_is_greater : K.lookup f_is_greater = some ⟨oc_is_greater, od_is_greater, .func (PySem.W.fnOf "is_greater" "is_greater" (defArgs st_is_greater) (defBody st_is_greater) (defScope st_is_greater) .none kv_is_greater dc_is_greater pm_is_greater an_is_greater cd_is_greater ct_is_greater), sl_is_greater⟩) (c_is_greater : PySem.W.codeIn K cd_is_greater "is_greater" = true) (k_is_greater : PySem.W.keepIn K (.ref f_is_greater) = true)
    {f_rounds_of_row : Addr} {oc_rounds_of_row : Value} {od_rounds_of_row an_rounds_of_row : Option Addr} {sl_rounds_of_row : Array (Option Value)} {kv_rounds_of_row dc_rounds_of_row pm_rounds_of_row cd_rounds_of_row ct_rounds_of_row : Value} (a_rounds_of_row : PySem.W.nsIn K mainGlobals "rounds_of_row" = some (some (.ref f_rounds_of_row))) (l_rounds_of_row : K.lookup f_rounds_of_row = some ⟨oc_rounds_of_row, od_rounds_of_row, .func (PySem.W.fnOf "rounds_of_row" "rounds_of_row" (defArgs st_rounds_of_row) (defBody st_rounds_of_row) (defScope st_rounds_of_row) .none kv_rounds_of_row dc_rounds_of_row pm_rounds_of_row an_rounds_of_row cd_rounds_of_row ct_rounds_of_row), sl_rounds_of_row⟩) (c_rounds_of_row : PySem.W.codeIn K cd_rounds_of_row "rounds_of_row" = true) (k_rounds_of_row : PySem.W.keepIn K (.ref f_rounds_of_row) = true)
    {f_average_behind : Addr} {oc_average_behind : Value} {od_average_behind an_average_behind : Option Addr} {sl_average_behind : Array (Option Value)} {kv_average_behind dc_average_behind pm_average_behind cd_average_behind ct_average_behind : Value} (a_average_behind : PySem.W.nsIn K mainGlobals "average_behind" = some (some (.ref f_average_behind))) (l_average_behind : K.lookup f_average_behind = some ⟨oc_average_behind, od_average_behind, .func (PySem.W.fnOf "average_behind" "average_behind" (defArgs st_average_behind) (defBody st_average_behind) (defScope st_average_behind) .none kv_average_behind dc_average_behind pm_average_behind an_average_behind cd_average_behind ct_average_behind), sl_average_behind⟩) (c_average_behind : PySem.W.codeIn K cd_average_behind "average_behind" = true) (k_average_behind : PySem.W.keepIn K (.ref f_average_behind) = true)
    {f_parts_by_wins : Addr} {oc_parts_by_wins : Value} {od_parts_by_wins an_parts_by_wins : Option Addr} {sl_parts_by_wins : Array (Option Value)} {kv_parts_by_wins dc_parts_by_wins pm_parts_by_wins cd_parts_by_wins ct_parts_by_wins : Value} (a_parts_by_wins : PySem.W.nsIn K mainGlobals "parts_by_wins" = some (some (.ref f_parts_by_wins))) (l_parts_by_wins : K.lookup f_parts_by_wins = some ⟨oc_parts_by_wins, od_parts_by_wins, .func (PySem.W.fnOf "parts_by_wins" "parts_by_wins" (defArgs st_parts_by_wins) (defBody st_parts_by_wins) (defScope st_parts_by_wins) .none kv_parts_by_wins dc_parts_by_wins pm_parts_by_wins an_parts_by_wins cd_parts_by_wins ct_parts_by_wins), sl_parts_by_wins⟩) (c_parts_by_wins : PySem.W.codeIn K cd_parts_by_wins "parts_by_wins" = true) (k_parts_by_wins : PySem.W.keepIn K (.ref f_parts_by_wins) = true)
    {f_chance_of_more : Addr} {oc_chance_of_more : Value} {od_chance_of_more an_chance_of_more : Option Addr} {sl_chance_of_more : Array (Option Value)} {kv_chance_of_more dc_chance_of_more pm_chance_of_more cd_chance_of_more ct_chance_of_more : Value} (a_chance_of_more : PySem.W.nsIn K mainGlobals "chance_of_more" = some (some (.ref f_chance_of_more))) (l_chance_of_more : K.lookup f_chance_of_more = some ⟨oc_chance_of_more, od_chance_of_more, .func (PySem.W.fnOf "chance_of_more" "chance_of_more" (defArgs st_chance_of_more) (defBody st_chance_of_more) (defScope st_chance_of_more) .none kv_chance_of_more dc_chance_of_more pm_chance_of_more an_chance_of_more cd_chance_of_more ct_chance_of_more), sl_chance_of_more⟩) (c_chance_of_more : PySem.W.codeIn K cd_chance_of_more "chance_of_more" = true) (k_chance_of_more : PySem.W.keepIn K (.ref f_chance_of_more) = true)
    {f_can_be_game : Addr} {oc_can_be_game : Value} {od_can_be_game an_can_be_game : Option Addr} {sl_can_be_game : Array (Option Value)} {kv_can_be_game dc_can_be_game pm_can_be_game cd_can_be_game ct_can_be_game : Value} (a_can_be_game : PySem.W.nsIn K mainGlobals "can_be_game" = some (some (.ref f_can_be_game))) (l_can_be_game : K.lookup f_can_be_game = some ⟨oc_can_be_game, od_can_be_game, .func (PySem.W.fnOf "can_be_game" "can_be_game" (defArgs st_can_be_game) (defBody st_can_be_game) (defScope st_can_be_game) .none kv_can_be_game dc_can_be_game pm_can_be_game an_can_be_game cd_can_be_game ct_can_be_game), sl_can_be_game⟩) (c_can_be_game : PySem.W.codeIn K cd_can_be_game "can_be_game" = true) (k_can_be_game : PySem.W.keepIn K (.ref f_can_be_game) = true)
    {f_make_game : Addr} {oc_make_game : Value} {od_make_game an_make_game : Option Addr} {sl_make_game : Array (Option Value)} {kv_make_game dc_make_game pm_make_game cd_make_game ct_make_game : Value} (a_make_game : PySem.W.nsIn K mainGlobals "make_game" = some (some (.ref f_make_game))) (l_make_game : K.lookup f_make_game = some ⟨oc_make_game, od_make_game, .func (PySem.W.fnOf "make_game" "make_game" (defArgs st_make_game) (defBody st_make_game) (defScope st_make_game) .none kv_make_game dc_make_game pm_make_game an_make_game cd_make_game ct_make_game), sl_make_game⟩) (c_make_game : PySem.W.codeIn K cd_make_game "make_game" = true) (k_make_game : PySem.W.keepIn K (.ref f_make_game) = true)
    {f_drop_game : Addr} {oc_drop_game : Value} {od_drop_game an_drop_game : Option Addr} {sl_drop_game : Array (Option Value)} {kv_drop_game dc_drop_game pm_drop_game cd_drop_game ct_drop_game : Value} (a_drop_game : PySem.W.nsIn K mainGlobals "drop_game" = some (some (.ref f_drop_game))) (l_drop_game : K.lookup f_drop_game = some ⟨oc_drop_game, od_drop_game, .func (PySem.W.fnOf "drop_game" "drop_game" (defArgs st_drop_game) (defBody st_drop_game) (defScope st_drop_game) .none kv_drop_game dc_drop_game pm_drop_game an_drop_game cd_drop_game ct_drop_game), sl_drop_game⟩) (c_drop_game : PySem.W.codeIn K cd_drop_game "drop_game" = true) (k_drop_game : PySem.W.keepIn K (.ref f_drop_game) = true)
    {f_have : Addr} {oc_have : Value} {od_have an_have : Option Addr} {sl_have : Array (Option Value)} {kv_have dc_have pm_have cd_have ct_have : Value} (a_have : PySem.W.nsIn K mainGlobals "have" = some (some (.ref f_have))) (l_have : K.lookup f_have = some ⟨oc_have, od_have, .func (PySem.W.fnOf "have" "have" (defArgs st_have) (defBody st_have) (defScope st_have) .none kv_have dc_have pm_have an_have cd_have ct_have), sl_have⟩) (c_have : PySem.W.codeIn K cd_have "have" = true) (k_have : PySem.W.keepIn K (.ref f_have) = true)
    {f_play : Addr} {oc_play : Value} {od_play an_play : Option Addr} {sl_play : Array (Option Value)} {kv_play dc_play pm_play cd_play ct_play : Value} (a_play : PySem.W.nsIn K mainGlobals "play" = some (some (.ref f_play))) (l_play : K.lookup f_play = some ⟨oc_play, od_play, .func (PySem.W.fnOf "play" "play" (defArgs st_play) (defBody st_play) (defScope st_play) .none kv_play dc_play pm_play an_play cd_play ct_play), sl_play⟩) (c_play : PySem.W.codeIn K cd_play "play" = true) (k_play : PySem.W.keepIn K (.ref f_play) = true)
    {f_shows : Addr} {oc_shows : Value} {od_shows an_shows : Option Addr} {sl_shows : Array (Option Value)} {kv_shows dc_shows pm_shows cd_shows ct_shows : Value} (a_shows : PySem.W.nsIn K mainGlobals "shows" = some (some (.ref f_shows))) (l_shows : K.lookup f_shows = some ⟨oc_shows, od_shows, .func (PySem.W.fnOf "shows" "shows" (defArgs st_shows) (defBody st_shows) (defScope st_shows) .none kv_shows dc_shows pm_shows an_shows cd_shows ct_shows), sl_shows⟩) (c_shows : PySem.W.codeIn K cd_shows "shows" = true) (k_shows : PySem.W.keepIn K (.ref f_shows) = true)
    {f_is_row : Addr} {oc_is_row : Value} {od_is_row an_is_row : Option Addr} {sl_is_row : Array (Option Value)} {kv_is_row dc_is_row pm_is_row cd_is_row ct_is_row : Value} (a_is_row : PySem.W.nsIn K mainGlobals "is_row" = some (some (.ref f_is_row))) (l_is_row : K.lookup f_is_row = some ⟨oc_is_row, od_is_row, .func (PySem.W.fnOf "is_row" "is_row" (defArgs st_is_row) (defBody st_is_row) (defScope st_is_row) .none kv_is_row dc_is_row pm_is_row an_is_row cd_is_row ct_is_row), sl_is_row⟩) (c_is_row : PySem.W.codeIn K cd_is_row "is_row" = true) (k_is_row : PySem.W.keepIn K (.ref f_is_row) = true)
    {f_sign_told : Addr} {oc_sign_told : Value} {od_sign_told an_sign_told : Option Addr} {sl_sign_told : Array (Option Value)} {kv_sign_told dc_sign_told pm_sign_told cd_sign_told ct_sign_told : Value} (a_sign_told : PySem.W.nsIn K mainGlobals "sign_told" = some (some (.ref f_sign_told))) (l_sign_told : K.lookup f_sign_told = some ⟨oc_sign_told, od_sign_told, .func (PySem.W.fnOf "sign_told" "sign_told" (defArgs st_sign_told) (defBody st_sign_told) (defScope st_sign_told) .none kv_sign_told dc_sign_told pm_sign_told an_sign_told cd_sign_told ct_sign_told), sl_sign_told⟩) (c_sign_told : PySem.W.codeIn K cd_sign_told "sign_told" = true) (k_sign_told : PySem.W.keepIn K (.ref f_sign_told) = true)
    {f_gain_told : Addr} {oc_gain_told : Value} {od_gain_told an_gain_told : Option Addr} {sl_gain_told : Array (Option Value)} {kv_gain_told dc_gain_told pm_gain_told cd_gain_told ct_gain_told : Value} (a_gain_told : PySem.W.nsIn K mainGlobals "gain_told" = some (some (.ref f_gain_told))) (l_gain_told : K.lookup f_gain_told = some ⟨oc_gain_told, od_gain_told, .func (PySem.W.fnOf "gain_told" "gain_told" (defArgs st_gain_told) (defBody st_gain_told) (defScope st_gain_told) .none kv_gain_told dc_gain_told pm_gain_told an_gain_told cd_gain_told ct_gain_told), sl_gain_told⟩) (c_gain_told : PySem.W.codeIn K cd_gain_told "gain_told" = true) (k_gain_told : PySem.W.keepIn K (.ref f_gain_told) = true)
    {f_rests : Addr} {oc_rests : Value} {od_rests an_rests : Option Addr} {sl_rests : Array (Option Value)} {kv_rests dc_rests pm_rests cd_rests ct_rests : Value} (a_rests : PySem.W.nsIn K mainGlobals "rests" = some (some (.ref f_rests))) (l_rests : K.lookup f_rests = some ⟨oc_rests, od_rests, .func (PySem.W.fnOf "rests" "rests" (defArgs st_rests) (defBody st_rests) (defScope st_rests) .none kv_rests dc_rests pm_rests an_rests cd_rests ct_rests), sl_rests⟩) (c_rests : PySem.W.codeIn K cd_rests "rests" = true) (k_rests : PySem.W.keepIn K (.ref f_rests) = true)
    {f_loses : Addr} {oc_loses : Value} {od_loses an_loses : Option Addr} {sl_loses : Array (Option Value)} {kv_loses dc_loses pm_loses cd_loses ct_loses : Value} (a_loses : PySem.W.nsIn K mainGlobals "loses" = some (some (.ref f_loses))) (l_loses : K.lookup f_loses = some ⟨oc_loses, od_loses, .func (PySem.W.fnOf "loses" "loses" (defArgs st_loses) (defBody st_loses) (defScope st_loses) .none kv_loses dc_loses pm_loses an_loses cd_loses ct_loses), sl_loses⟩) (c_loses : PySem.W.codeIn K cd_loses "loses" = true) (k_loses : PySem.W.keepIn K (.ref f_loses) = true)
    {f_mix : Addr} {oc_mix : Value} {od_mix an_mix : Option Addr} {sl_mix : Array (Option Value)} {kv_mix dc_mix pm_mix cd_mix ct_mix : Value} (a_mix : PySem.W.nsIn K mainGlobals "mix" = some (some (.ref f_mix))) (l_mix : K.lookup f_mix = some ⟨oc_mix, od_mix, .func (PySem.W.fnOf "mix" "mix" (defArgs st_mix) (defBody st_mix) (defScope st_mix) .none kv_mix dc_mix pm_mix an_mix cd_mix ct_mix), sl_mix⟩) (c_mix : PySem.W.codeIn K cd_mix "mix" = true) (k_mix : PySem.W.keepIn K (.ref f_mix) = true)
    {f_best : Addr} {oc_best : Value} {od_best an_best : Option Addr} {sl_best : Array (Option Value)} {kv_best dc_best pm_best cd_best ct_best : Value} (a_best : PySem.W.nsIn K mainGlobals "best" = some (some (.ref f_best))) (l_best : K.lookup f_best = some ⟨oc_best, od_best, .func (PySem.W.fnOf "best" "best" (defArgs st_best) (defBody st_best) (defScope st_best) .none kv_best dc_best pm_best an_best cd_best ct_best), sl_best⟩) (c_best : PySem.W.codeIn K cd_best "best" = true) (k_best : PySem.W.keepIn K (.ref f_best) = true)
    {f_answer_on_row : Addr} {oc_answer_on_row : Value} {od_answer_on_row an_answer_on_row : Option Addr} {sl_answer_on_row : Array (Option Value)} {kv_answer_on_row dc_answer_on_row pm_answer_on_row cd_answer_on_row ct_answer_on_row : Value} (a_answer_on_row : PySem.W.nsIn K mainGlobals "answer_on_row" = some (some (.ref f_answer_on_row))) (l_answer_on_row : K.lookup f_answer_on_row = some ⟨oc_answer_on_row, od_answer_on_row, .func (PySem.W.fnOf "answer_on_row" "answer_on_row" (defArgs st_answer_on_row) (defBody st_answer_on_row) (defScope st_answer_on_row) .none kv_answer_on_row dc_answer_on_row pm_answer_on_row an_answer_on_row cd_answer_on_row ct_answer_on_row), sl_answer_on_row⟩) (c_answer_on_row : PySem.W.codeIn K cd_answer_on_row "answer_on_row" = true) (k_answer_on_row : PySem.W.keepIn K (.ref f_answer_on_row) = true)
    {f_answer : Addr} {oc_answer : Value} {od_answer an_answer : Option Addr} {sl_answer : Array (Option Value)} {kv_answer dc_answer pm_answer cd_answer ct_answer : Value} (a_answer : PySem.W.nsIn K mainGlobals "answer" = some (some (.ref f_answer))) (l_answer : K.lookup f_answer = some ⟨oc_answer, od_answer, .func (PySem.W.fnOf "answer" "answer" (defArgs st_answer) (defBody st_answer) (defScope st_answer) .none kv_answer dc_answer pm_answer an_answer cd_answer ct_answer), sl_answer⟩) (c_answer : PySem.W.codeIn K cd_answer "answer" = true) (k_answer : PySem.W.keepIn K (.ref f_answer) = true)
    {f_answers : Addr} {oc_answers : Value} {od_answers an_answers : Option Addr} {sl_answers : Array (Option Value)} {kv_answers dc_answers pm_answers cd_answers ct_answers : Value} (a_answers : PySem.W.nsIn K mainGlobals "answers" = some (some (.ref f_answers))) (l_answers : K.lookup f_answers = some ⟨oc_answers, od_answers, .func (PySem.W.fnOf "answers" "answers" (defArgs st_answers) (defBody st_answers) (defScope st_answers) .none kv_answers dc_answers pm_answers an_answers cd_answers ct_answers), sl_answers⟩) (c_answers : PySem.W.codeIn K cd_answers "answers" = true) (k_answers : PySem.W.keepIn K (.ref f_answers) = true)
    {C f0 : Addr} {oc0 : Value} {od0 an0 : Option Addr} {sl0 : Array (Option Value)} {kv0 dc0 pm0 cd0 ct0 : Value} (aC : PySem.W.nsIn K mainGlobals "Table" = some (some (.ref C))) (a0 : PySem.W.findIn K (.ref C) "__init__" = some (some (.ref f0))) (i0 : PySem.W.isFn K (.ref f0) = true) (l0 : K.lookup f0 = some ⟨oc0, od0, .func (PySem.W.fnOf "__init__" "Table.__init__" (defArgs st_Tableinit) (defBody st_Tableinit) (defScope st_Tableinit) .none kv0 dc0 pm0 an0 cd0 ct0), sl0⟩) (c0 : PySem.W.codeIn K cd0 "Table.__init__" = true) (k0 : PySem.W.keepIn K (.ref f0) = true) (pg : PySem.W.plainGet K C Str.empty = true) (hd : PySem.W.hasDictIn K C = true) (po : PySem.W.plainOver K C = true) (sa : PySem.W.findIn K (.ref C) "__setattr__" = some (some (.builtin "object.__setattr__"))) (mk : PySem.W.makesIn K C = true) (kc : PySem.W.keepIn K (.ref C) = true)
    (no_games : PySem.W.findIn K (.ref C) "games" = some none)
    (no_had : PySem.W.findIn K (.ref C) "had" = some none) :
    ∃ fd : FuncData, (∀ (s : Shared) (us : List Value), us.length = (["calls"] : List Str).length → BindsTo s fd ⟨us, []⟩ ((["calls"] : List Str).zip us)) ∧ ∀ base : Heap, K.In base → base.Ns mainGlobals mg → FnOk P w K mg base CX0 9 fa fd ["calls"] (spAns K) := by
  have e := hfa.symm.trans (PySem.W.mg_of X G a_answers)
  cases e
  have T : Txt K mg (fun z => if z = "NUMBERS" then A_NUMBERS else if z = "WITH_ROW" then A_WITH_ROW else 0) := ⟨PySem.W.mg_none_of X G z_abs, PySem.W.mg_none_of X G z_range, PySem.W.mg_none_of X G z_sum, PySem.W.mg_none_of X G z_len, PySem.W.mg_none_of X G z_all, PySem.W.mg_none_of X G z_any, PySem.W.mg_none_of X G z_tuple, PySem.W.mg_none_of X G z_list, PySem.W.mg_none_of X G z_max, PySem.W.mg_none_of X G z_min, PySem.W.mg_none_of X G z_sorted, ⟨_, PySem.W.mg_of X G i_GAME⟩, ⟨_, PySem.W.mg_of X G i_DROP⟩, ⟨_, PySem.W.mg_of X G i_HAVE⟩, ⟨_, PySem.W.mg_of X G i_PLAY⟩, ⟨_, PySem.W.mg_of X G i_SHOWS⟩, ⟨_, PySem.W.mg_of X G i_GAIN⟩, ⟨_, PySem.W.mg_of X G i_RESTS⟩, ⟨_, PySem.W.mg_of X G i_MIX⟩, ⟨_, PySem.W.mg_of X G i_BEST⟩, ⟨_, PySem.W.mg_of X G i_AFTER⟩, ⟨_, PySem.W.mg_of X G i_LOSES⟩, ⟨_, PySem.W.mg_of X G i_MOST_GAMES⟩, ⟨_, PySem.W.mg_of X G i_MOST_IN_ROW⟩, ⟨_, PySem.W.mg_of X G i_LEAST_V⟩, ⟨_, PySem.W.mg_of X G i_MOST_V⟩, ⟨_, PySem.W.mg_of X G i_MOST_HAD⟩, ⟨_, PySem.W.mg_of X G i_MOST_WEIGHT⟩, ⟨_, PySem.W.mg_of X G i_MOST_IN_BEST⟩, ⟨_, PySem.W.mg_of X G i_MOST_ROUNDS⟩, PySem.W.mg_of X G r_NUMBERS, (fun _ => .inr ⟨O_NUMBERS, I_NUMBERS, N_NUMBERS, s_NUMBERS, t_NUMBERS, u_NUMBERS, v_NUMBERS, w_NUMBERS⟩), PySem.W.mg_of X G r_WITH_ROW, (fun _ => .inr ⟨O_WITH_ROW, I_WITH_ROW, N_WITH_ROW, s_WITH_ROW, t_WITH_ROW, u_WITH_ROW, v_WITH_ROW, w_WITH_ROW⟩)⟩
  have D_lowest_terms : Def K mg "lowest_terms" st_lowest_terms ps_of_lowest_terms := def_of X G a_lowest_terms l_lowest_terms c_lowest_terms k_lowest_terms (fun _ _ _ _ _ _ us hl => match us, hl with | [_, _], _ => rfl)
  have D_shares_behind : Def K mg "shares_behind" st_shares_behind ps_of_shares_behind := def_of X G a_shares_behind l_shares_behind c_shares_behind k_shares_behind (fun _ _ _ _ _ _ us hl => match us, hl with | [_, _], _ => rfl)
  have D_won_in_round : Def K mg "won_in_round" st_won_in_round ps_of_won_in_round := def_of X G a_won_in_round l_won_in_round c_won_in_round k_won_in_round (fun _ _ _ _ _ _ us hl => match us, hl with | [_, _], _ => rfl)
  have D_moves_of_row : Def K mg "moves_of_row" st_moves_of_row ps_of_moves_of_row := def_of X G a_moves_of_row l_moves_of_row c_moves_of_row k_moves_of_row (fun _ _ _ _ _ _ us hl => match us, hl with | [_], _ => rfl)
  have D_lasting_shares : Def K mg "lasting_shares" st_lasting_shares ps_of_lasting_shares := def_of X G a_lasting_shares l_lasting_shares c_lasting_shares k_lasting_shares (fun _ _ _ _ _ _ us hl => match us, hl with | [_], _ => rfl)
  have D_won_in_rounds : Def K mg "won_in_rounds" st_won_in_rounds ps_of_won_in_rounds := def_of X G a_won_in_rounds l_won_in_rounds c_won_in_rounds k_won_in_rounds (fun _ _ _ _ _ _ us hl => match us, hl with | [_, _], _ => rfl)
  have D_gain_of_row : Def K mg "gain_of_row" st_gain_of_row ps_of_gain_of_row := def_of X G a_gain_of_row l_gain_of_row c_gain_of_row k_gain_of_row (fun _ _ _ _ _ _ us hl => match us, hl with | [_], _ => rfl)
  have D_rests_of_row : Def K mg "rests_of_row" st_rests_of_row ps_of_rests_of_row := def_of X G a_rests_of_row l_rests_of_row c_rests_of_row k_rests_of_row (fun _ _ _ _ _ _ us hl => match us, hl with | [_], _ => rfl)
  have D_mixed_game : Def K mg "mixed_game" st_mixed_game ps_of_mixed_game := def_of X G a_mixed_game l_mixed_game c_mixed_game k_mixed_game (fun _ _ _ _ _ _ us hl => match us, hl with | [_, _], _ => rfl)
  have D_rows_of_length : Def K mg "rows_of_length" st_rows_of_length ps_of_rows_of_length := def_of X G a_rows_of_length l_rows_of_length c_rows_of_length k_rows_of_length (fun _ _ _ _ _ _ us hl => match us, hl with | [_, _], _ => rfl)
  have D_is_greater : Def K mg "is_greater" st_is_greater ps_of_is_greater := def_of X G a_is_greater l_is_greater c_is_greater k_is_greater (fun _ _ _ _ _ _ us hl => match us, hl with | [_, _], _ => rfl)
  have D_rounds_of_row : Def K mg "rounds_of_row" st_rounds_of_row ps_of_rounds_of_row := def_of X G a_rounds_of_row l_rounds_of_row c_rounds_of_row k_rounds_of_row (fun _ _ _ _ _ _ us hl => match us, hl with | [_, _], _ => rfl)
  have D_average_behind : Def K mg "average_behind" st_average_behind ps_of_average_behind := def_of X G a_average_behind l_average_behind c_average_behind k_average_behind (fun _ _ _ _ _ _ us hl => match us, hl with | [_, _], _ => rfl)
  have D_parts_by_wins : Def K mg "parts_by_wins" st_parts_by_wins ps_of_parts_by_wins := def_of X G a_parts_by_wins l_parts_by_wins c_parts_by_wins k_parts_by_wins (fun _ _ _ _ _ _ us hl => match us, hl with | [_, _], _ => rfl)
  have D_chance_of_more : Def K mg "chance_of_more" st_chance_of_more ps_of_chance_of_more := def_of X G a_chance_of_more l_chance_of_more c_chance_of_more k_chance_of_more (fun _ _ _ _ _ _ us hl => match us, hl with | [_, _, _], _ => rfl)
  have D_can_be_game : Def K mg "can_be_game" st_can_be_game ps_of_can_be_game := def_of X G a_can_be_game l_can_be_game c_can_be_game k_can_be_game (fun _ _ _ _ _ _ us hl => match us, hl with | [_], _ => rfl)
  have D_make_game : Def K mg "make_game" st_make_game ps_of_make_game := def_of X G a_make_game l_make_game c_make_game k_make_game (fun _ _ _ _ _ _ us hl => match us, hl with | [_, _], _ => rfl)
  have D_drop_game : Def K mg "drop_game" st_drop_game ps_of_drop_game := def_of X G a_drop_game l_drop_game c_drop_game k_drop_game (fun _ _ _ _ _ _ us hl => match us, hl with | [_], _ => rfl)
  have D_have : Def K mg "have" st_have ps_of_have := def_of X G a_have l_have c_have k_have (fun _ _ _ _ _ _ us hl => match us, hl with | [_, _], _ => rfl)
  have D_play : Def K mg "play" st_play ps_of_play := def_of X G a_play l_play c_play k_play (fun _ _ _ _ _ _ us hl => match us, hl with | [_, _], _ => rfl)
  have D_shows : Def K mg "shows" st_shows ps_of_shows := def_of X G a_shows l_shows c_shows k_shows (fun _ _ _ _ _ _ us hl => match us, hl with | [_], _ => rfl)
  have D_is_row : Def K mg "is_row" st_is_row ps_of_is_row := def_of X G a_is_row l_is_row c_is_row k_is_row (fun _ _ _ _ _ _ us hl => match us, hl with | [_, _], _ => rfl)
  have D_sign_told : Def K mg "sign_told" st_sign_told ps_of_sign_told := def_of X G a_sign_told l_sign_told c_sign_told k_sign_told (fun _ _ _ _ _ _ us hl => match us, hl with | [_], _ => rfl)
  have D_gain_told : Def K mg "gain_told" st_gain_told ps_of_gain_told := def_of X G a_gain_told l_gain_told c_gain_told k_gain_told (fun _ _ _ _ _ _ us hl => match us, hl with | [_], _ => rfl)
  have D_rests : Def K mg "rests" st_rests ps_of_rests := def_of X G a_rests l_rests c_rests k_rests (fun _ _ _ _ _ _ us hl => match us, hl with | [_], _ => rfl)
  have D_loses : Def K mg "loses" st_loses ps_of_loses := def_of X G a_loses l_loses c_loses k_loses (fun _ _ _ _ _ _ us hl => match us, hl with | [_], _ => rfl)
  have D_mix : Def K mg "mix" st_mix ps_of_mix := def_of X G a_mix l_mix c_mix k_mix (fun _ _ _ _ _ _ us hl => match us, hl with | [_, _], _ => rfl)
  have D_best : Def K mg "best" st_best ps_of_best := def_of X G a_best l_best c_best k_best (fun _ _ _ _ _ _ us hl => match us, hl with | [_, _], _ => rfl)
  have D_answer_on_row : Def K mg "answer_on_row" st_answer_on_row ps_of_answer_on_row := def_of X G a_answer_on_row l_answer_on_row c_answer_on_row k_answer_on_row (fun _ _ _ _ _ _ us hl => match us, hl with | [_, _, _, _], _ => rfl)
  have D_answer : Def K mg "answer" st_answer ps_of_answer := def_of X G a_answer l_answer c_answer k_answer (fun _ _ _ _ _ _ us hl => match us, hl with | [_, _, _, _], _ => rfl)
  have D_answers : Def K mg "answers" st_answers ps_of_answers := def_of X G a_answers l_answers c_answers k_answers (fun _ _ _ _ _ _ us hl => match us, hl with | [_], _ => rfl)
  have TC : TabC K C := ⟨⟨pg, hd, po, sa⟩, no_games, no_had⟩
  have F0 := fun_mk (st := st_Tableinit) l0 c0 k0
  have b0 := F0.binds (ps := ["self"]) fun _ _ _ _ _ _ us hl => match us, hl with | [_], _ => rfl
  refine ⟨PySem.W.fnOf "answers" "answers" (defArgs st_answers) (defBody st_answers) (defScope st_answers) .none kv_answers dc_answers pm_answers an_answers cd_answers ct_answers, fun s us hu => match us, hu with | [_], _ => .of_eq rfl, fun base _ _ => ?_⟩
  have H0 : HasC P w K mg base "Table" C 1 ["self"] (spInit C) := ⟨f0, _, ⟨mk, a0, i0, kc⟩, ok_init TC F0, PySem.W.mg_of X G aC, b0⟩
  have H_lowest_terms := ok_lowest_terms (P := P) (w := w) (base := base) T D_lowest_terms
  have H_shares_behind := ok_shares_behind (P := P) (w := w) (base := base) T D_shares_behind
  have H_won_in_round := ok_won_in_round (P := P) (w := w) (base := base) T D_won_in_round
  have H_moves_of_row := ok_moves_of_row T D_moves_of_row H_shares_behind
  have H_lasting_shares := ok_lasting_shares T D_lasting_shares H_moves_of_row
  have H_won_in_rounds := ok_won_in_rounds T D_won_in_rounds H_shares_behind H_won_in_round
  have H_gain_of_row := ok_gain_of_row T D_gain_of_row H_lasting_shares H_won_in_rounds H_lowest_terms
  have H_rests_of_row := ok_rests_of_row T D_rests_of_row H_lasting_shares H_lowest_terms
  have H_mixed_game := ok_mixed_game (P := P) (w := w) (base := base) T D_mixed_game
  have H_rows_of_length := ok_rows_of_length (P := P) (w := w) (base := base) T D_rows_of_length
  have H_is_greater := ok_is_greater (P := P) (w := w) (base := base) T D_is_greater
  have H_rounds_of_row := ok_rounds_of_row (P := P) (w := w) (base := base) T D_rounds_of_row
  have H_average_behind := ok_average_behind T D_average_behind H_won_in_rounds H_lowest_terms
  have H_parts_by_wins := ok_parts_by_wins (P := P) (w := w) (base := base) T D_parts_by_wins
  have H_chance_of_more := ok_chance_of_more T D_chance_of_more H_parts_by_wins H_lowest_terms
  have H_can_be_game := ok_can_be_game (P := P) (w := w) (base := base) T D_can_be_game
  have H_make_game := ok_make_game T TC D_make_game H_can_be_game
  have H_drop_game := ok_drop_game (P := P) (w := w) (base := base) T TC D_drop_game
  have H_have := ok_have (P := P) (w := w) (base := base) T TC D_have
  have H_play := ok_play (P := P) (w := w) (base := base) T TC D_play
  have H_shows := ok_shows (P := P) (w := w) (base := base) T TC D_shows
  have H_is_row := ok_is_row (P := P) (w := w) (base := base) T TC D_is_row
  have H_sign_told := ok_sign_told (P := P) (w := w) (base := base) T D_sign_told
  have H_gain_told := ok_gain_told T D_gain_told H_gain_of_row H_sign_told
  have H_rests := ok_rests T D_rests H_rests_of_row
  have H_loses := ok_loses T D_loses H_gain_of_row
  have H_mix := ok_mix T TC D_mix H_mixed_game H_gain_told
  have H_best := ok_best T TC D_best H_rows_of_length H_gain_of_row H_is_greater
  have H_answer_on_row := ok_answer_on_row T TC D_answer_on_row H_is_row H_gain_told H_rests H_loses H_rounds_of_row H_average_behind H_chance_of_more
  have H_answer := ok_answer T D_answer H_make_game H_drop_game H_have H_play H_shows H_mix H_best H_answer_on_row
  exact ok_answers T TC (fun_mk (st := st_answers) l_answers c_answers k_answers) H0 H_answer
end
end Lg
end

open PySem PySem.W PyProof.Rows Lg
set_option maxRecDepth 100000 in
set_option maxHeartbeats 0 in
theorem PySem.Challenge.cw_losinggames_s01_answers_holds : PySem.Challenge.rw_losinggames_s01_answers.Holds := by
  w_on; k_headS; (case hw => exact ⟨[.list [.int 4]], by decide +kernel, by decide +kernel⟩)
  k_fillS
  refine L2.walk_specK (r := PySem.Challenge.rw_losinggames_s01_answers) (k := 9) (CX := L2.CX0) (ps := ["calls"]) (sp := Lg.spAns) (by decide +kernel) rfl rfl ⟨rfl, by decide, by decide⟩ (fun w h Y => PySem.W.kIn_of Y) ?F ?S (fun _ _ _ _ z => z)
  case F =>
    intro w mg fa h Y KX G hmg
    refine' Lg.all_mk KX G hmg ?z_abs ?z_range ?z_sum ?z_len ?z_all ?z_any ?z_tuple ?z_list ?z_max ?z_min ?z_sorted ?i_GAME ?i_DROP ?i_HAVE ?i_PLAY ?i_SHOWS ?i_GAIN ?i_RESTS ?i_MIX ?i_BEST ?i_AFTER ?i_LOSES ?i_MOST_GAMES ?i_MOST_IN_ROW ?i_LEAST_V ?i_MOST_V ?i_MOST_HAD ?i_MOST_WEIGHT ?i_MOST_IN_BEST ?i_MOST_ROUNDS ?r_NUMBERS ?s_NUMBERS ?t_NUMBERS ?u_NUMBERS ?v_NUMBERS ?w_NUMBERS ?r_WITH_ROW ?s_WITH_ROW ?t_WITH_ROW ?u_WITH_ROW ?v_WITH_ROW ?w_WITH_ROW ?a_lowest_terms ?l_lowest_terms ?c_lowest_terms ?k_lowest_terms ?a_shares_behind ?l_shares_behind ?c_shares_behind ?k_shares_behind ?a_won_in_round ?l_won_in_round ?c_won_in_round ?k_won_in_round ?a_moves_of_row ?l_moves_of_row ?c_moves_of_row ?k_moves_of_row ?a_lasting_shares ?l_lasting_shares ?c_lasting_shares ?k_lasting_shares ?a_won_in_rounds ?l_won_in_rounds ?c_won_in_rounds ?k_won_in_rounds ?a_gain_of_row ?l_gain_of_row ?c_gain_of_row ?k_gain_of_row ?a_rests_of_row ?l_rests_of_row ?c_rests_of_row ?k_rests_of_row ?a_mixed_game ?l_mixed_game ?c_mixed_game ?k_mixed_game ?a_rows_of_length ?l_rows_of_length ?c_rows_of_length ?k_rows_of_length ?a_is_greater ?l_is_greater ?c_is_greater ?k_is_greater ?a_rounds_of_row ?l_rounds_of_row ?c_rounds_of_row ?k_rounds_of_row ?a_average_behind ?l_average_behind ?c_average_behind ?k_average_behind ?a_parts_by_wins ?l_parts_by_wins ?c_parts_by_wins ?k_parts_by_wins ?a_chance_of_more ?l_chance_of_more ?c_chance_of_more ?k_chance_of_more ?a_can_be_game ?l_can_be_game ?c_can_be_game ?k_can_be_game ?a_make_game ?l_make_game ?c_make_game ?k_make_game ?a_drop_game ?l_drop_game ?c_drop_game ?k_drop_game ?a_have ?l_have ?c_have ?k_have ?a_play ?l_play ?c_play ?k_play ?a_shows ?l_shows ?c_shows ?k_shows ?a_is_row ?l_is_row ?c_is_row ?k_is_row ?a_sign_told ?l_sign_told ?c_sign_told ?k_sign_told ?a_gain_told ?l_gain_told ?c_gain_told ?k_gain_told ?a_rests ?l_rests ?c_rests ?k_rests ?a_loses ?l_loses ?c_loses ?k_loses ?a_mix ?l_mix ?c_mix ?k_mix ?a_best ?l_best ?c_best ?k_best ?a_answer_on_row ?l_answer_on_row ?c_answer_on_row ?k_answer_on_row ?a_answer ?l_answer ?c_answer ?k_answer ?a_answers ?l_answers ?c_answers ?k_answers ?aC ?a0 ?i0 ?l0 ?c0 ?k0 ?pg ?hd ?po ?sa ?mk ?kc ?no_games ?no_had
    (case z_abs => k_is)
    (case z_range => k_is)
    (case z_sum => k_is)
    (case z_len => k_is)
    (case z_all => k_is)
    (case z_any => k_is)
    (case z_tuple => k_is)
    (case z_list => k_is)
    (case z_max => k_is)
    (case z_min => k_is)
    (case z_sorted => k_is)
    (case i_GAME => k_is)
    (case i_DROP => k_is)
    (case i_HAVE => k_is)
    (case i_PLAY => k_is)
    (case i_SHOWS => k_is)
    (case i_GAIN => k_is)
    (case i_RESTS => k_is)
    (case i_MIX => k_is)
    (case i_BEST => k_is)
    (case i_AFTER => k_is)
    (case i_LOSES => k_is)
    (case i_MOST_GAMES => k_is)
    (case i_MOST_IN_ROW => k_is)
    (case i_LEAST_V => k_is)
    (case i_MOST_V => k_is)
    (case i_MOST_HAD => k_is)
    (case i_MOST_WEIGHT => k_is)
    (case i_MOST_IN_BEST => k_is)
    (case i_MOST_ROUNDS => k_is)
    (case r_NUMBERS => k_is); (case s_NUMBERS => k_is); (case t_NUMBERS => rfl); (case u_NUMBERS => rfl); (case v_NUMBERS => decide)
    (case w_NUMBERS => exact .cons ⟨_, rfl⟩ (.cons ⟨_, rfl⟩ (.cons ⟨_, rfl⟩ (.cons ⟨_, rfl⟩ (.cons ⟨_, rfl⟩ (.cons ⟨_, rfl⟩ (.cons ⟨_, rfl⟩ (.cons ⟨_, rfl⟩ (.cons ⟨_, rfl⟩ (.cons ⟨_, rfl⟩ (.cons ⟨_, rfl⟩ (.cons ⟨_, rfl⟩ (.nil)))))))))))))
    (case r_WITH_ROW => k_is); (case s_WITH_ROW => k_is); (case t_WITH_ROW => rfl); (case u_WITH_ROW => rfl); (case v_WITH_ROW => decide)
    (case w_WITH_ROW => exact .cons rfl (.cons rfl (.cons rfl (.cons rfl (.cons rfl (.cons rfl (.cons rfl (.cons rfl (.cons rfl (.cons rfl (.cons rfl (.cons rfl (.nil)))))))))))))
    (case a_lowest_terms => k_is); (case l_lowest_terms => k_is); (case c_lowest_terms => k_is); (case k_lowest_terms => k_is)
    (case a_shares_behind => k_is); (case l_shares_behind => k_is); (case c_shares_behind => k_is); (case k_shares_behind => k_is)
    (case a_won_in_round => k_is); (case l_won_in_round => k_is); (case c_won_in_round => k_is); (case k_won_in_round => k_is)
    (case a_moves_of_row => k_is); (case l_moves_of_row => k_is); (case c_moves_of_row => k_is); (case k_moves_of_row => k_is)
    (case a_lasting_shares => k_is); (case l_lasting_shares => k_is); (case c_lasting_shares => k_is); (case k_lasting_shares => k_is)
    (case a_won_in_rounds => k_is); (case l_won_in_rounds => k_is); (case c_won_in_rounds => k_is); (case k_won_in_rounds => k_is)
    (case a_gain_of_row => k_is); (case l_gain_of_row => k_is); (case c_gain_of_row => k_is); (case k_gain_of_row => k_is)
    (case a_rests_of_row => k_is); (case l_rests_of_row => k_is); (case c_rests_of_row => k_is); (case k_rests_of_row => k_is)
    (case a_mixed_game => k_is); (case l_mixed_game => k_is); (case c_mixed_game => k_is); (case k_mixed_game => k_is)
    (case a_rows_of_length => k_is); (case l_rows_of_length => k_is); (case c_rows_of_length => k_is); (case k_rows_of_length => k_is)
    (case a_is_greater => k_is); (case l_is_greater => k_is); (case c_is_greater => k_is); (case k_is_greater => k_is)
    (case a_rounds_of_row => k_is); (case l_rounds_of_row => k_is); (case c_rounds_of_row => k_is); (case k_rounds_of_row => k_is)
    (case a_average_behind => k_is); (case l_average_behind => k_is); (case c_average_behind => k_is); (case k_average_behind => k_is)
    (case a_parts_by_wins => k_is); (case l_parts_by_wins => k_is); (case c_parts_by_wins => k_is); (case k_parts_by_wins => k_is)
    (case a_chance_of_more => k_is); (case l_chance_of_more => k_is); (case c_chance_of_more => k_is); (case k_chance_of_more => k_is)
    (case a_can_be_game => k_is); (case l_can_be_game => k_is); (case c_can_be_game => k_is); (case k_can_be_game => k_is)
    (case a_make_game => k_is); (case l_make_game => k_is); (case c_make_game => k_is); (case k_make_game => k_is)
    (case a_drop_game => k_is); (case l_drop_game => k_is); (case c_drop_game => k_is); (case k_drop_game => k_is)
    (case a_have => k_is); (case l_have => k_is); (case c_have => k_is); (case k_have => k_is)
    (case a_play => k_is); (case l_play => k_is); (case c_play => k_is); (case k_play => k_is)
    (case a_shows => k_is); (case l_shows => k_is); (case c_shows => k_is); (case k_shows => k_is)
    (case a_is_row => k_is); (case l_is_row => k_is); (case c_is_row => k_is); (case k_is_row => k_is)
    (case a_sign_told => k_is); (case l_sign_told => k_is); (case c_sign_told => k_is); (case k_sign_told => k_is)
    (case a_gain_told => k_is); (case l_gain_told => k_is); (case c_gain_told => k_is); (case k_gain_told => k_is)
    (case a_rests => k_is); (case l_rests => k_is); (case c_rests => k_is); (case k_rests => k_is)
    (case a_loses => k_is); (case l_loses => k_is); (case c_loses => k_is); (case k_loses => k_is)
    (case a_mix => k_is); (case l_mix => k_is); (case c_mix => k_is); (case k_mix => k_is)
    (case a_best => k_is); (case l_best => k_is); (case c_best => k_is); (case k_best => k_is)
    (case a_answer_on_row => k_is); (case l_answer_on_row => k_is); (case c_answer_on_row => k_is); (case k_answer_on_row => k_is)
    (case a_answer => k_is); (case l_answer => k_is); (case c_answer => k_is); (case k_answer => k_is)
    (case a_answers => k_is); (case l_answers => k_is); (case c_answers => k_is); (case k_answers => k_is)
    (case aC => k_is); (case a0 => k_is); (case i0 => k_is); (case l0 => k_is); (case c0 => k_is); (case k0 => k_is); (case pg => k_is); (case hd => k_is); (case po => k_is); (case sa => k_is); (case mk => k_is); (case kc => k_is)
    (case no_games => k_is)
    (case no_had => k_is)
  case S =>
    intro K H xs a hO hwi hask hx
    cases hx with
    | cons h1 h2 =>
      cases h2
      cases h1 with
      | lst hs ha =>
        have e := L2.ints_dw a.1 _ ha
        subst e
        have q : ((Codec.inLen 0 520 a.1 && a.1.all (Codec.inInt 0 4294967295)) && true) = true := hwi
        rw [Bool.and_eq_true, Bool.and_eq_true] at q
        exact ⟨_, a.1, rfl, hs, (Codec.inNat_iff.mp q.1.1).2, hask, fun H' p hp => .lst (L2.SqL.of hp) (L2.dw_ints _)⟩
