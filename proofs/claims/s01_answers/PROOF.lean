import PyProof.Rows.All
import Wide.All
import OpenK.AllK
import Wide.FinOn
import PyProof.EqAt
import PyProof.EqKinds
import PyProof.TupleCall
import KE.BitLaws
import PySa69
import PyProof.ZipIter
import PyProof.Draws
import PyProof.TupleIter
import PyProof.WalksMore
import PyProof.SliceList
import PyProof.EnumMake
import PySem.Challenge.RW0_twobands_s01_answers
import KE.OsGo
import Open.SpecLaws
import PySem.Challenge.RW_twobands_s01_answers
set_option Elab.async false
set_option linter.all false
set_option maxRecDepth 100000
namespace L2
open PySem PySem.Spec PyProof.Rows
/-- a key: an int or a str -/
abbrev Key := Sum Int Str
def keyIs : Key → Value → Bool
  | .inl k, v => Value.isInt k v
  | .inr x, v => Value.isStrOf x v
def keyH (w : World) : Key → Int
  | .inl k => hashInt k
  | .inr x => hashStr w x
theorem keyIs_shape : ∀ {k : Key} {v : Value}, keyIs k v = true → (∃ i t, k = Sum.inl i ∧ v = Value.int i t) ∨ (∃ x t, k = Sum.inr x ∧ v = Value.str x t)
  | .inl i, v, h => by
    obtain ⟨t, e⟩ := Value.isInt_shape (k := i) (v := v) h
    exact .inl ⟨i, t, rfl, e⟩
  | .inr x, v, h => by
    obtain ⟨t, e⟩ := Value.isStrOf_shape (x := x) (v := v) h
    exact .inr ⟨x, t, rfl, e⟩
theorem key_ll (a b : Int) : decide ((Sum.inl a : Key) = Sum.inl b) = (a == b) := by
  by_cases e : a = b
  · subst e; simp
  · have h : ¬ (Sum.inl a : Key) = Sum.inl b := fun q => e (Sum.inl.inj q)
    rw [decide_eq_false h]
    exact (beq_eq_false_iff_ne.mpr e).symm
theorem key_rr (a b : Str) : decide ((Sum.inr a : Key) = Sum.inr b) = decide (a = b) := by
  by_cases e : a = b
  · subst e; simp
  · have h : ¬ (Sum.inr a : Key) = Sum.inr b := fun q => e (Sum.inr.inj q)
    rw [decide_eq_false h, decide_eq_false e]
theorem key_lr (a : Int) (b : Str) : decide ((Sum.inl a : Key) = Sum.inr b) = false := decide_eq_false (fun q => nomatch q)
theorem key_rl (a : Str) (b : Int) : decide ((Sum.inr a : Key) = Sum.inl b) = false := decide_eq_false (fun q => nomatch q)
def mixKind (prog : Program) (w : World) : PySem.KeyKind prog w Key where
  is := keyIs
  hash := keyH w
  inj := fun v a b ha hb => by
    rcases keyIs_shape ha with ⟨i, t, rfl, rfl⟩ | ⟨x, t, rfl, rfl⟩
    · rcases keyIs_shape hb with ⟨j, u, rfl, e⟩ | ⟨y, u, rfl, e⟩
      · injection e with e1 _; rw [e1]
      · exact nomatch e
    · rcases keyIs_shape hb with ⟨j, u, rfl, e⟩ | ⟨y, u, rfl, e⟩
      · exact nomatch e
      · injection e with e1 _; rw [e1]
  byValue := fun k v h => by
    rcases keyIs_shape h with ⟨i, t, rfl, rfl⟩ | ⟨x, t, rfl, rfl⟩ <;> rfl
  pyHash := fun hv h => by
    rcases keyIs_shape hv with ⟨i, t, rfl, rfl⟩ | ⟨x, t, rfl, rfl⟩
    · exact wpAny_pyHash_int h
    · exact wpAny_pyHash_str h
  eqBool := fun hu hv h => by
    rcases keyIs_shape hu with ⟨i, t, rfl, rfl⟩ | ⟨x, t, rfl, rfl⟩
    · rcases keyIs_shape hv with ⟨j, u, rfl, rfl⟩ | ⟨y, u, rfl, rfl⟩
      · rw [key_ll] at h; exact wpAny_eqBool_int h
      · rw [key_lr] at h; exact SeqAt.EqAt.int_str i t y u _ _ _ _ h
    · rcases keyIs_shape hv with ⟨j, u, rfl, rfl⟩ | ⟨y, u, rfl, rfl⟩
      · rw [key_rl] at h; exact SeqAt.EqAt.str_int x t j u _ _ _ _ h
      · rw [key_rr] at h; exact wpAny_eqBool_str h
  «strs» := fun k x t v h => by
    rcases keyIs_shape h with ⟨i, u, rfl, e⟩ | ⟨y, u, rfl, e⟩
    · exact nomatch e
    · injection e with e1 _
      subst e1
      cases v <;> rfl
end L2
namespace L2
open PySem PySem.Spec PyProof.Rows
/-- a value, without the heap -/
inductive V where
  | non | bl (b : Bool) | int (i : Int) | str (x : Str) | byt (b : Array UInt8) | flt (b : UInt64) | ref (a : Addr) | ty (n : String)
  deriving DecidableEq
def RelV : V → Value → Prop
  | .non, u => u = Value.none
  | .bl b, u => u = Value.bool b
  | .int i, u => ∃ t, u = Value.int i t
  | .str x, u => ∃ t, u = Value.str x t
  | .byt b, u => ∃ t, u = Value.bytes b t
  | .flt b, u => ∃ t, u = Value.float b t
  | .ref a, u => u = Value.ref a
  | .ty n, u => u = Value.type n
abbrev Vals : List V → List Value → Prop := Paired RelV
theorem Vals.length {xs : List V} {us : List Value} (r : Vals xs us) : xs.length = us.length := Paired.length r
theorem Vals.get : ∀ {xs : List V} {us : List Value} {i : Nat} {x : V}, Vals xs us → xs[i]? = some x → ∃ u, us[i]? = some u ∧ RelV x u
  | _, _, _, _, .nil, e => by simp at e
  | _, _, 0, _, .cons r _, e => by simp at e; subst e; exact ⟨_, rfl, r⟩
  | _, _, i + 1, x, .cons _ t, e => by
    obtain ⟨u, h1, h2⟩ := Vals.get (i := i) (x := x) t (by simpa using e)
    exact ⟨u, by simpa using h1, h2⟩
theorem Vals.append : ∀ {xs ys : List V} {us ws : List Value}, Vals xs us → Vals ys ws → Vals (xs ++ ys) (us ++ ws)
  | _, _, _, _, .nil, s => s
  | _, _, _, _, .cons r t, s => .cons r (Vals.append t s)
theorem Vals.take : ∀ {xs : List V} {us : List Value} (n : Nat), Vals xs us → Vals (xs.take n) (us.take n)
  | _, _, 0, _ => .nil
  | _, _, _ + 1, .nil => .nil
  | _, _, n + 1, .cons r t => .cons r (Vals.take n t)
theorem Vals.drop : ∀ {xs : List V} {us : List Value} (n : Nat), Vals xs us → Vals (xs.drop n) (us.drop n)
  | _, _, 0, r => r
  | _, _, _ + 1, .nil => .nil
  | _, _, n + 1, .cons _ t => Vals.drop n t
theorem Vals.none_of : ∀ {xs : List V} {us : List Value} {i : Nat}, Vals xs us → xs[i]? = none → us[i]? = none := fun {xs us i} r e => by
  have h1 := r.length
  have h2 : xs.length ≤ i := List.getElem?_eq_none_iff.mp e
  exact List.getElem?_eq_none_iff.mpr (by omega)
def RelO : Option V → Option Value → Prop
  | some v, some u => RelV v u
  | none, none => True
  | _, _ => False
def KV {κ : Type} : List (κ × V) → List (κ × Value) → Prop := Paired fun (p : κ × V) (q : κ × Value) => p.1 = q.1 ∧ RelV p.2 q.2
/-- a key of a dict (00_mix): an int or a text -/
def kV : Key → V
  | .inl i => .int i
  | .inr x => .str x
/-- what stands at a tracked address -/
inductive HO where
  /-- a list -/
  | lst (xs : List V)
  /-- a tuple (never changes) -/
  | tup (xs : List V)
  /-- a dict whose keys are ints and texts; one whose keys are tuples of ints and texts (the empty one is both) -/
  | dK (kvs : List (Key × V)) | dT (kvs : List (List Key × V))
  /-- a set of ints: its members, its size -/
  | set (S : Int → Bool) (n : Nat)
  /-- an instance of the class at C, its dict at dx, its attributes -/
  | ins (C dx : Addr) (fs : List (Str × V))
  /-- the dict of the instance at x -/
  | own (x : Addr)
  /-- the dict of an exception -/
  | xd (fs : List (Str × V))
  /-- a bound method, f of x -/
  | met (f x : Addr)
  /-- a range object lo, lo + 1, .. below hi -/
  | rng (lo hi : Int)
  /-- a thing that is known to the object (the script; a dict while a loop walks it): read, never written while it is so -/
  | frz (o : Obj) (u : HO)
  /-- a code object's table -/
  | tbl (ps : Array Value)
  /-- any other thing, by what is true of its one object (a def of one's own: SetO a S n := HO.ext fun h => ..) -/
  | ext (φ : Heap → Prop)
abbrev Hp := Addr → Option HO
def upd (H : Hp) (a : Addr) (o : HO) : Hp := fun b => if b = a then some o else H b
theorem upd_same {H : Hp} {a : Addr} {o : HO} : upd H a o a = some o := by unfold upd; rw [if_pos rfl]
theorem upd_ne {H : Hp} {a b : Addr} {o : HO} (h : b ≠ a) : upd H a o b = H b := by unfold upd; rw [if_neg h]
theorem upd_upd {H : Hp} {a : Addr} {o u : HO} : upd (upd H a o) a u = upd H a u := by
  funext b; unfold upd; split <;> rfl
/-- two objects of different content stand apart -/
theorem ne_of {H : Hp} {a b : Addr} {o u : HO} (h : H a = some o) (h' : H b = some u) (d : o ≠ u) : a ≠ b := by
  intro e; subst e; rw [h] at h'; exact d (Option.some.inj h')
theorem ne_of_none {H : Hp} {a b : Addr} {o : HO} (h : H a = some o) (h' : H b = none) : a ≠ b := by
  intro e; subst e; rw [h] at h'; cases h'
section
variable (P : Program) (w : World)
def ObjOk (H : Hp) (h : Heap) (a : Addr) : HO → Prop
  | .lst xs => xs.length ≤ sizeLine ∧ ∃ (its : List Value) (n : Nat), Vals xs its ∧ h.get? a = some { cls := .type "list", data := .seq its.toArray n }
  | .tup xs => xs.length ≤ sizeLine ∧ ∃ its : List Value, Vals xs its ∧ IsTup h a its.toArray
  | .dK kvs => kvs.length ≤ sizeLine ∧ (a == sysModules) = false ∧ ∃ vs, KV kvs vs ∧ h.DictOf (mixKind P w) a vs
  | .dT kvs => kvs.length ≤ sizeLine ∧ (a == sysModules) = false ∧ ∃ xs : List (List Key × Addr × Value),
      Paired (fun (p : List Key × V) (q : List Key × Addr × Value) => p.1 = q.1 ∧ H q.2.1 = some (.tup (p.1.map kV)) ∧ RelV p.2 q.2.2) kvs xs ∧
      ∃ o es ep, h.get? a = some o ∧ o.ExactDict ∧ o.data = .dict es ep ∧ es.toList = xs.map (entryOfKey (tupleKind (mixKind P w))) ∧ (xs.map (·.1)).Nodup
  | .set S n => h.SetOf (intKind P w) a S n
  | .ins C dx fs => H dx = some (.own a) ∧ fs.length ≤ 1000 ∧ dx ≠ a ∧ h.get? a = some (PySem.W.instObj C dx) ∧
      ∃ mA, h.Ns1 dx mA ∧ (∀ f, RelO (fs.lookup f) (mA f)) ∧ PySem.Within mA (fs.map (·.1))
  | .own _ => ∃ o, h.get? a = some o
  | .xd fs => ∃ mA, h.Ns1 a mA ∧ ∀ f, RelO (fs.lookup f) (mA f)
  | .rng lo hi => ∃ t u v, h.get? a = some { cls := .type "range", data := .fields #[.int lo t, .int hi u, .int 1 v] }
  | .frz o u => h.get? a = some o ∧ ObjOk H h a u
  | .tbl ps => h.get? a = some { cls := .none, data := .fields ps }
  | .met f x => h.get? a = some (PySem.W.methodObj (.ref f) (.ref x))
  | .ext φ => φ h ∧ (∃ o, h.get? a = some o) ∧ ∀ h1 h2 : Heap, φ h1 → (∀ o, h1.get? a = some o → h2.get? a = some o) → φ h2
/-- the abstract heap is held -/
def HOk (H : Hp) (h : Heap) : Prop := ∀ a o, H a = some o → ObjOk P w H h a o
end
section
variable {P : Program} {w : World} {H H' : Hp} {h h' : Heap} {a : Addr} {o : HO}
theorem ObjOk.lt (x : ObjOk P w H h a o) : a < h.objs.size := by
  cases o with
  | lst xs => obtain ⟨_, _, _, _, e⟩ := x; exact Heap.lt_size e
  | tup xs => obtain ⟨_, _, _, p⟩ := x; exact p.lt
  | dK kvs => obtain ⟨_, _, _, _, o, _, _, e, _⟩ := x; exact Heap.lt_size e
  | dT kvs => obtain ⟨_, _, _, _, o, _, _, e, _⟩ := x; exact Heap.lt_size e
  | set S n => obtain ⟨o, _, _, _, e, _⟩ := x; exact Heap.lt_size e
  | ins C dx fs => obtain ⟨_, _, _, e, _⟩ := x; exact Heap.lt_size e
  | own y => obtain ⟨_, e⟩ := x; exact Heap.lt_size e
  | xd fs => obtain ⟨_, ⟨_, _, _, e, _⟩, _⟩ := x; exact Heap.lt_size e
  | rng lo hi => obtain ⟨_, _, _, e⟩ := x; exact Heap.lt_size e
  | frz ob u => obtain ⟨e, _⟩ := x; exact Heap.lt_size e
  | tbl ps => exact Heap.lt_size (show h.get? a = some _ from x)
  | met f y => exact Heap.lt_size (show h.get? a = some _ from x)
  | ext φ => obtain ⟨_, ⟨_, e⟩, _⟩ := x; exact Heap.lt_size e
theorem Paired.mapP {α β : Type} {F G : α → β → Prop} : ∀ {l₁ : List α} {l₂ : List β}, Paired F l₁ l₂ → (∀ a b, F a b → G a b) → Paired G l₁ l₂
  | _, _, .nil, _ => .nil
  | _, _, .cons r t, f => .cons (f _ _ r) (Paired.mapP t f)
/-- what an object's description leans on: its own object, its own dict, the tuples -/
theorem ObjOk.stay (x : ObjOk P w H h a o) (k : ∀ b u, (b = a ∨ H b = some (.own a)) → h.get? b = some u → h'.get? b = some u)
    (ho : ∀ b, H b = some (.own a) → H' b = some (.own a)) (ht : ∀ b xs, H b = some (.tup xs) → H' b = some (.tup xs)) : ObjOk P w H' h' a o := by
  induction o with
  | lst xs => obtain ⟨z, its, n, r, e⟩ := x; exact ⟨z, its, n, r, k _ _ (.inl rfl) e⟩
  | tup xs => obtain ⟨z, its, r, ob, e, c⟩ := x; exact ⟨z, its, r, ob, k _ _ (.inl rfl) e, c⟩
  | dK kvs => obtain ⟨z, y, vs, r, ob, es, ep, e, c⟩ := x; exact ⟨z, y, vs, r, ob, es, ep, k _ _ (.inl rfl) e, c⟩
  | dT kvs =>
    obtain ⟨z, y, xs, r, ob, es, ep, e, c⟩ := x
    exact ⟨z, y, xs, Paired.mapP r fun p q z => ⟨z.1, ht _ _ z.2.1, z.2.2⟩, ob, es, ep, k _ _ (.inl rfl) e, c⟩
  | set S n => obtain ⟨ob, es, ep, t, e, c⟩ := x; exact ⟨ob, es, ep, t, k _ _ (.inl rfl) e, c⟩
  | ins C dx fs =>
    obtain ⟨d, z, ne, e, mA, ⟨od, es, ep, e2, c⟩, r⟩ := x
    exact ⟨ho _ d, z, ne, k _ _ (.inl rfl) e, mA, ⟨od, es, ep, k _ _ (.inr d) e2, c⟩, r⟩
  | own y => obtain ⟨ob, e⟩ := x; exact ⟨ob, k _ _ (.inl rfl) e⟩
  | xd fs => obtain ⟨mA, ⟨od, es, ep, e, c⟩, r⟩ := x; exact ⟨mA, ⟨od, es, ep, k _ _ (.inl rfl) e, c⟩, r⟩
  | rng lo hi => obtain ⟨t, u, v, e⟩ := x; exact ⟨t, u, v, k _ _ (.inl rfl) e⟩
  | frz ob u ih => obtain ⟨e, q⟩ := x; exact ⟨k _ _ (.inl rfl) e, ih q⟩
  | tbl ps =>
    have e : h.get? a = some { cls := .none, data := .fields ps } := x
    show h'.get? a = some { cls := .none, data := .fields ps }
    exact k a _ (.inl rfl) e
  | met f y =>
    have e : h.get? a = some (PySem.W.methodObj (.ref f) (.ref y)) := x
    show h'.get? a = some (PySem.W.methodObj (.ref f) (.ref y))
    exact k a _ (.inl rfl) e
  | ext φ => obtain ⟨p, ⟨o, e⟩, st⟩ := x; exact ⟨st _ _ p fun o q => k _ _ (.inl rfl) q, ⟨o, k _ _ (.inl rfl) e⟩, st⟩
theorem HOk.lt (x : HOk P w H h) (e : H a = some o) : a < h.objs.size := (x a o e).lt
theorem HOk.fresh (x : HOk P w H h) (e : h.objs.size ≤ a) : H a = none := by
  cases q : H a with
  | none => rfl
  | some u => exact absurd (Nat.lt_of_lt_of_le (x.lt q) e) (Nat.lt_irrefl _)
/-- every object of the heap is kept -/
theorem HOk.kept (x : HOk P w H h) (k : ∀ b u, h.get? b = some u → h'.get? b = some u) : HOk P w H h' := fun a o e =>
  (x a o e).stay (fun b u _ q => k b u q) (fun _ q => q) fun _ _ q => q
/-- a new object is laid and tracked -/
theorem HOk.laid (x : HOk P w H h) (k : ∀ b u, h.get? b = some u → h'.get? b = some u) (hp : h.objs.size ≤ a) (new : ObjOk P w (upd H a o) h' a o) : HOk P w (upd H a o) h' := fun b u e => by
  have hn := x.fresh hp
  by_cases hb : b = a
  · subst hb; rw [upd_same] at e; cases e; exact new
  · rw [upd_ne hb] at e
    exact (x b u e).stay (fun c v _ q => k c v q) (fun c q => by rw [upd_ne (ne_of_none q hn)]; exact q) fun c xs q => by rw [upd_ne (ne_of_none q hn)]; exact q
end
/-- what may be read as u: it is u, or a known u -/
def Rd (H : Hp) (a : Addr) (u : HO) : Prop := H a = some u ∨ ∃ o, H a = some (.frz o u)
theorem Rd.ok {P : Program} {w : World} {H : Hp} {h : Heap} {a : Addr} {u : HO} (r : Rd H a u) (x : HOk P w H h) : ObjOk P w H h a u := by
  rcases r with r | ⟨o, r⟩
  · exact x a u r
  · obtain ⟨_, q⟩ := x a _ r
    exact q
/-- what may be written -/
def Mut : Option HO → Prop
  | some (.lst _) => True
  | some (.dK _) => True
  | some (.dT _) => True
  | some (.set _ _) => True
  | some (.ins _ _ _) => True
  | some (.ext _) => True
  | _ => False
section
variable {P : Program} {w : World} {H : Hp} {h h' : Heap} {x e : Addr} {o' : HO}
/-- the object at e is changed: x itself, or the dict of the instance x -/
theorem HOk.write (ok : HOk P w H h) (mu : Mut (H x)) (he : e = x ∨ H e = some (.own x)) (k : ∀ b u, b ≠ e → h.get? b = some u → h'.get? b = some u) (heo : ∃ u, h'.get? e = some u)
    (new : ObjOk P w (upd H x o') h' x o') : HOk P w (upd H x o') h' := fun b u q => by
  have nown : ∀ c y, H c = some (.own y) → c ≠ x := fun c y r z => by subst z; rw [r] at mu; exact mu
  have ntup : ∀ c xs, H c = some (.tup xs) → c ≠ x := fun c xs r z => by subst z; rw [r] at mu; exact mu
  by_cases hb : b = x
  · subst hb; rw [upd_same] at q; cases q; exact new
  · rw [upd_ne hb] at q
    by_cases hbe : b = e
    · have q' : H b = some (.own x) := by
        rcases he with z | z
        · exact absurd (hbe.trans z) hb
        · rw [hbe]; exact z
      rw [q] at q'; cases q'
      obtain ⟨v, hv⟩ := heo
      exact ⟨v, by rw [hbe]; exact hv⟩
    · refine (ok b u q).stay (fun c v hc r => k c v ?_ r) (fun c r => by rw [upd_ne (nown c b r)]; exact r) fun c xs r => by rw [upd_ne (ntup c xs r)]; exact r
      rcases hc with rfl | hc
      · exact hbe
      · rintro rfl
        rcases he with z | z
        · exact nown c b hc z
        · rw [hc] at z; cases z; exact hb rfl
end
structure Un (fs ex : List Addr) (H H' : Hp) (h h' : Heap) : Prop where
  keep : ∀ b o, h.get? b = some o → H b = none → b ∉ fs → b ∉ ex → h'.get? b = some o
  slot : ∀ b o, h.get? b = some o → H b = none → b ∈ fs → b ∉ ex → ∃ sl, h'.get? b = some { o with slots := sl }
  free : ∀ b o, h.get? b = some o → H b = none → b ∉ ex → H' b = none
  there : ∀ b o, h.get? b = some o → b ∉ ex → ∃ o', h'.get? b = some o'
  tups : ∀ b xs, H b = some (.tup xs) → H' b = some (.tup xs)
  frzs : ∀ b o u, H b = some (.frz o u) → H' b = some (.frz o u)
  tbls : ∀ b ps, H b = some (.tbl ps) → ∃ more, H' b = some (.tbl (ps ++ more))
section
variable {fs fs' ex ex' : List Addr} {H H1 H2 : Hp} {h h1 h2 h' : Heap} {a x e : Addr} {o : HO}
theorem Un.any (u : Un fs ex H H1 h h1) {b : Addr} {ob : Obj} (q : h.get? b = some ob) (n : H b = none) (hx : b ∉ ex) : ∃ sl, h1.get? b = some { ob with slots := sl } := by
  by_cases hb : b ∈ fs
  · exact u.slot b ob q n hb hx
  · exact ⟨ob.slots, u.keep b ob q n hb hx⟩
theorem Un.kept (k : ∀ b u, h.get? b = some u → h'.get? b = some u) : Un fs ex H H h h' :=
  ⟨fun b ob q _ _ _ => k b ob q, fun b ob q _ _ _ => ⟨ob.slots, k b ob q⟩, fun _ _ _ n _ => n, fun b ob q _ => ⟨ob, k b ob q⟩, fun _ _ q => q, fun _ _ _ q => q, fun _ ps q => ⟨#[], by rw [q]; simp⟩⟩
theorem Un.refl : Un fs ex H H h h := Un.kept fun _ _ q => q
theorem Un.laid (k : ∀ b u, h.get? b = some u → h'.get? b = some u) (hp : h.objs.size ≤ a) (hn : H a = none) : Un fs ex H (upd H a o) h h' where
  keep := fun b u q _ _ _ => k b u q
  slot := fun b u q _ _ _ => ⟨u.slots, k b u q⟩
  free := fun b u q n _ => by rw [upd_ne (Nat.ne_of_lt (Nat.lt_of_lt_of_le (Heap.lt_size q) hp))]; exact n
  there := fun b u q _ => ⟨u, k b u q⟩
  tups := fun b xs q => by rw [upd_ne (ne_of_none q hn)]; exact q
  frzs := fun b u xs q => by rw [upd_ne (ne_of_none q hn)]; exact q
  tbls := fun b ps q => ⟨#[], by rw [upd_ne (ne_of_none q hn), q]; simp⟩
theorem Un.write (mu : Mut (H x)) (he : e = x ∨ H e = some (.own x)) (k : ∀ b u, b ≠ e → h.get? b = some u → h'.get? b = some u) (heo : ∃ u, h'.get? e = some u) : Un fs ex H (upd H x o) h h' := by
  have hx : ∀ b, H b = none → b ≠ x := fun b n z => by subst z; rw [n] at mu; exact mu
  have hb : ∀ b, H b = none → b ≠ e := fun b n z => by
    subst z
    rcases he with r | r
    · exact hx b n r
    · rw [n] at r; cases r
  have hm : ∀ b u, H b = some u → ¬ Mut (some u) → b ≠ x := fun b u q nm z => by subst z; rw [q] at mu; exact nm mu
  refine ⟨fun b u q n _ _ => k b u (hb b n) q, fun b u q n _ _ => ⟨u.slots, k b u (hb b n) q⟩, fun b u q n _ => by rw [upd_ne (hx b n)]; exact n, fun b u q _ => ?_,
    fun b xs q => by rw [upd_ne (hm b _ q fun z => z)]; exact q, fun b u xs q => by rw [upd_ne (hm b _ q fun z => z)]; exact q, fun b ps q => ⟨#[], by rw [upd_ne (hm b _ q fun z => z), q]; simp⟩⟩
  by_cases hbe : b = e
  · subst hbe; exact heo
  · exact ⟨u, k b u hbe q⟩
end
def trk (h : Heap) (H : Hp) : List Addr := (List.range h.objs.size).filter fun a => (H a).isSome
def hidT (h : Heap) (H : Hp) : Heap := PySem.W.hideAll h (trk h H)
theorem hidT_size (h : Heap) (H : Hp) : (hidT h H).objs.size = h.objs.size := PySem.W.hideAll_size _ _
theorem hidT_get {h : Heap} {H : Hp} {b : Addr} {o : Obj} (e : h.get? b = some o) (n : H b = none) : (hidT h H).get? b = some o :=
  PySem.W.hideAll_get _ e fun hm => by
    have q : (H b).isSome = true := (List.mem_filter.mp hm).2
    rw [n] at q; simp at q
theorem of_hidT {h : Heap} {H : Hp} {b : Addr} {o : Obj} (e : (hidT h H).get? b = some o) : h.get? b = some o ∧ H b = none := by
  have e' : h.get? b = some o := PySem.W.of_hideAll (trk h H) e
  refine ⟨e', ?_⟩
  cases q : H b with
  | none => rfl
  | some x =>
    have hm : b ∈ trk h H := List.mem_filter.mpr ⟨List.mem_range.mpr (Heap.lt_size e'), by simp [q]⟩
    have z : (hidT h H).get? b = none := PySem.W.hideAll_none (trk h H) hm
    rw [z] at e; cases e
end L2
namespace L2
open PySem PySem.Spec PyProof.Rows
/-- the module's facts, over the base: the heap at the law's entry without what is tracked there -/
structure Mod (K : PySem.W.Frag) (mg : Str → Option Value) (base : Heap) : Prop where
  kin : K.In base
  glob : base.Ns mainGlobals mg
  blt : ∃ mb, base.Ns builtinsNs mb ∧ ∀ x : Str, x ≠ "__name__" → mb x = bootBuiltins x
  nolimit : base.NoLimit
/-- the context: a def's body (or a comprehension's block) running. base: fixed through the whole law; s₀, H₀: the entry; outer: the frames whose slots others may change (a def's callers); stack: all frames that run;
   ex: iterators that were made ahead of the entry and are walked here (a comprehension's); fn: the names whose cells were made at the entry (a def: all; a comprehension's block: its own); calm: not within an except suite; pn: pins that every state bears; xe: what is wanted of an exception that leaves the code -/
structure Cx where
  prog : Program
  w : World
  K : PySem.W.Frag
  mg : Str → Option Value
  base : Heap
  A : Around
  N : List Str
  s_0 : Shared
  H_0 : Hp
  env : Env
  outer : List Env
  stack : List Env
  ex : List Addr
  fn : Str → Bool
  calm : Bool
  pn : List (Addr × Obj)
  xe : Value → Shared → Prop
/-- the callers' frames -/
def frs (l : List Env) : List Addr := l.filterMap (·.frame)
abbrev Cx.fs (X : Cx) : List Addr := frs X.outer
def Vis (sc : Scope) (x : Str) : Prop := sc.names.lookup x = some .local ∨ sc.names.lookup x = some .cell ∨ sc.names.lookup x = some .free
def Loc (sc : Scope) (x : Str) : Prop := sc.names.lookup x = some .local ∨ sc.names.lookup x = some .cell
def Look (env : Env) (h : Heap) (m : Str → Option Value) (x : Str) (u : Value) : Prop :=
  (env.kindOf x = some .local ∧ m x = some u) ∨ ((env.kindOf x = some .cell ∨ env.kindOf x = some .free) ∧ ∃ c, env.cells.lookup x = some c ∧ h.IsCell c (some u))
structure Cx.Ok (X : Cx) : Prop where
  mod : Mod X.K X.mg X.base
  kind : X.env.scope.kind = .function
  glob : X.env.globals = mainGlobals
  blt : X.env.builtins = builtinsNs
  above : X.s_0.heap.objs.size ≤ X.env.locals
  inj : ∀ x y c, X.env.cells.lookup x = some c → X.env.cells.lookup y = some c → x = y
  has : ∀ x, (X.env.kindOf x = some .cell ∨ X.env.kindOf x = some .free) → ∃ c, X.env.cells.lookup x = some c
  cab : ∀ x c, X.fn x = true → X.env.cells.lookup x = some c → X.s_0.heap.objs.size ≤ c
  hd : X.calm = true → X.A.handled = none
  frames : X.A.frames = some X.stack
  stk : X.stack = X.outer ∨ (X.stack = X.env :: X.outer ∧ X.env.frame = some X.env.locals)
  exf : ∀ b ∈ X.ex, b ≠ X.env.locals ∧ ∀ x c, X.env.cells.lookup x = some c → c ≠ b
  bs : ∀ b o, X.base.get? b = some o → X.s_0.heap.get? b = some o ∧ X.H_0 b = none
  bsz : X.base.objs.size ≤ X.s_0.heap.objs.size
  noex : ∀ b o, X.base.get? b = some o → b ∉ X.ex
  exfs : ∀ b ∈ X.ex, b ∉ X.fs
  funs : X.s_0.heap.FunFrames X.base X.outer
  frf : ∀ b ∈ X.fs, X.H_0 b = none
structure Inv (X : Cx) (pins : List (Addr × Obj)) (σ : List (Option V)) (H : Hp) (s : Shared) : Prop where
  ok : X.Ok
  os : s.os = X.s_0.os
  bare : AllBare s.gens
  base : Un X.fs X.ex X.H_0 H X.s_0.heap s.heap
  loc : ∃ m, s.heap.Ns X.env.locals m ∧ ∀ (i : Nat) (x : Str) (v : V), X.N[i]? = some x → σ[i]? = some (some v) → Vis X.env.scope x → ∃ u, RelV v u ∧ Look X.env s.heap m x u
  cell : ∀ x c, X.env.cells.lookup x = some c → ∃ v, s.heap.IsCell c v
  free : H X.env.locals = none
  freeC : ∀ x c, X.env.cells.lookup x = some c → H c = none
  pin : ∀ p ∈ X.pn ++ pins, s.heap.get? p.1 = some p.2 ∧ H p.1 = none ∧ p.1 ≠ X.env.locals ∧ p.1 ∉ X.fs ∧ ∀ v, p.2.data ≠ .cell v
  hok : HOk X.prog X.w H s.heap
  len : σ.length = X.N.length
section
variable {X : Cx} {pins : List (Addr × Obj)} {σ : List (Option V)} {H H' : Hp} {s : Shared} {h' : Heap}
theorem Cx.Ok.nofr (ok : X.Ok) {b : Addr} {o : Obj} (e : X.base.get? b = some o) : b ∉ X.fs := fun hb => by
  have := (ok.funs.mem hb).1
  rw [e] at this; cases this
theorem Inv.bs (I : Inv X pins σ H s) : ∀ b o, X.base.get? b = some o → s.heap.get? b = some o ∧ H b = none := fun b o e =>
  ⟨I.base.keep b o (I.ok.bs b o e).1 (I.ok.bs b o e).2 (I.ok.nofr e) (I.ok.noex b o e), I.base.free b o (I.ok.bs b o e).1 (I.ok.bs b o e).2 (I.ok.noex b o e)⟩
theorem Inv.bk (I : Inv X pins σ H s) : ∀ b o, X.base.get? b = some o → s.heap.get? b = some o := fun b o e => (I.bs b o e).1
theorem Inv.mod (I : Inv X pins σ H s) : Mod X.K X.mg X.base := I.ok.mod
theorem Inv.kIn (I : Inv X pins σ H s) : X.K.In s.heap := I.ok.mod.kin.keeps I.bk
theorem Inv.lt (I : Inv X pins σ H s) : X.env.locals < s.heap.objs.size := let ⟨_, hn, _⟩ := I.loc; hn.lt
theorem Inv.sz (I : Inv X pins σ H s) : X.s_0.heap.objs.size ≤ s.heap.objs.size := Nat.le_trans I.ok.above (Nat.le_of_lt I.lt)
theorem Inv.nofs (I : Inv X pins σ H s) {a : Addr} (h : s.heap.objs.size ≤ a) : a ∉ X.fs := fun hb => by
  obtain ⟨_, o, ho, _⟩ := I.ok.funs.mem hb
  exact absurd (Nat.lt_of_lt_of_le (Heap.lt_size ho) (Nat.le_trans I.sz h)) (Nat.lt_irrefl _)
theorem Inv.cne (I : Inv X pins σ H s) : ∀ x c, X.env.cells.lookup x = some c → c ≠ X.env.locals := fun x c e z => by
  obtain ⟨v, o, ho, hd⟩ := I.cell x c e
  obtain ⟨m, ⟨o', es, ep, ho', hd', _⟩, _⟩ := I.loc
  rw [z, ho'] at ho; cases ho; rw [hd'] at hd; cases hd
theorem Inv.funs (I : Inv X pins σ H s) : s.heap.FunFrames X.base X.outer := by
  have all : ∀ (l : List Env), (∀ b ∈ frs l, b ∈ X.fs) → X.s_0.heap.FunFrames X.base l → s.heap.FunFrames X.base l := by
    intro l
    induction l with
    | nil => intro _ _; trivial
    | cons env r ih =>
      intro hs hl
      obtain ⟨hk, ⟨L, o, hf, hn, ho, hd⟩, hr⟩ := hl
      have hL : L ∈ X.fs := hs L (by unfold frs; rw [List.filterMap_cons, hf]; exact List.mem_cons_self)
      obtain ⟨sl, e⟩ := I.base.slot L o ho (I.ok.frf L hL) hL fun z => I.ok.exfs L z hL
      exact ⟨hk, ⟨L, _, hf, hn, e, hd⟩, ih (fun b hb => hs b (by unfold frs; rw [List.filterMap_cons, hf]; exact List.mem_cons_of_mem _ hb)) hr⟩
  exact all X.outer (fun _ hb => hb) I.ok.funs
/-- the frames that run, for a call -/
theorem Inv.stack (I : Inv X pins σ H s) : s.heap.FunFrames X.base X.stack := by
  rcases I.ok.stk with e | ⟨e, hf⟩
  · rw [e]; exact I.funs
  · rw [e]
    obtain ⟨m, hn, _⟩ := I.loc
    refine .cons (by rw [I.ok.kind]; decide) hf hn ?_ I.funs
    exact Heap.get?_none_of_le (Nat.le_trans I.ok.bsz I.ok.above)
theorem Inv.stkSub (I : Inv X pins σ H s) : ∀ b ∈ frs X.stack, b ∈ X.env.locals :: X.fs := fun b hb => by
  rcases I.ok.stk with e | ⟨e, hf⟩
  · rw [e] at hb; exact List.mem_cons_of_mem _ hb
  · rw [e] at hb
    unfold frs at hb
    rw [List.filterMap_cons, hf] at hb
    exact hb
theorem Inv.stkFree (I : Inv X pins σ H s) : ∀ b ∈ frs X.stack, H b = none := fun b hb => by
  rcases List.mem_cons.mp (I.stkSub b hb) with e | hb
  · rw [e]; exact I.free
  · obtain ⟨_, o, ho, _⟩ := I.ok.funs.mem hb
    exact I.base.free b o ho (I.ok.frf b hb) fun z => I.ok.exfs b z hb
/-- THE STEP: the untracked objects but the frame and the records at ch are kept (the callers' frames up to slots), the frame's map is kept, the new abstract heap is held -/
theorem Inv.step {g' : Array GenState} {t' : Nat} {d' : Drawn} {ch : List Addr} (I : Inv X pins σ H s)
    (hch : ∀ b ∈ ch, (b ∈ X.ex ∨ X.s_0.heap.objs.size ≤ b) ∧ b ≠ X.env.locals ∧ (∀ x c, X.env.cells.lookup x = some c → c ≠ b) ∧ ∀ p ∈ X.pn ++ pins, p.1 ≠ b)
    (keep : ∀ b o, b ≠ X.env.locals → b ∉ X.fs → b ∉ ch → s.heap.get? b = some o → H b = none → h'.get? b = some o)
    (slot : ∀ b o, b ≠ X.env.locals → b ∈ X.fs → b ∉ ch → s.heap.get? b = some o → H b = none → ∃ sl, h'.get? b = some { o with slots := sl }) (free : ∀ b o, b ∉ ch → s.heap.get? b = some o → H b = none → H' b = none)
    (there : ∀ b o, b ∉ ch → s.heap.get? b = some o → ∃ o', h'.get? b = some o')
    (tups : ∀ b xs, H b = some (.tup xs) → H' b = some (.tup xs)) (frzs : ∀ b o u, H b = some (.frz o u) → H' b = some (.frz o u)) (tbls : ∀ b ps, H b = some (.tbl ps) → ∃ more, H' b = some (.tbl (ps ++ more)))
    (ns : ∀ m, s.heap.Ns X.env.locals m → h'.Ns X.env.locals m) (hok : HOk X.prog X.w H' h') (hg : AllBare g') :
    Inv X pins σ H' { s with heap := h', gens := g', drawn := d', toks := t' } := by
  have neL : ∀ b o, X.s_0.heap.get? b = some o → b ≠ X.env.locals := fun b o e => Nat.ne_of_lt (Nat.lt_of_lt_of_le (Heap.lt_size e) I.ok.above)
  have neC : ∀ b o, X.s_0.heap.get? b = some o → b ∉ X.ex → b ∉ ch := fun b o e hx hb => by
    rcases (hch b hb).1 with z | z
    · exact hx z
    · exact absurd (Nat.lt_of_lt_of_le (Heap.lt_size e) z) (Nat.lt_irrefl _)
  have cellK : ∀ x c, X.env.cells.lookup x = some c → ∀ v, s.heap.IsCell c v → h'.IsCell c v := fun x c e v ⟨o, ho, hd⟩ => by
    have nch : c ∉ ch := fun z => (hch c z).2.2.1 x c e rfl
    by_cases hc : c ∈ X.fs
    · obtain ⟨sl, q⟩ := slot c o (I.cne x c e) hc nch ho (I.freeC x c e)
      exact ⟨_, q, hd⟩
    · exact ⟨o, keep c o (I.cne x c e) hc nch ho (I.freeC x c e), hd⟩
  refine ⟨I.ok, I.os, hg, ⟨fun b o e n hb hx => ?_, fun b o e n hb hx => ?_, fun b o e n hx => ?_, fun b o e hx => ?_, fun b xs e => tups b xs (I.base.tups b xs e), fun b o xs e => frzs b o xs (I.base.frzs b o xs e), fun b ps e => ?_⟩, ?_, fun x c e => ?_, ?_, fun x c e => ?_, fun p hp => ?_, hok, I.len⟩
  · exact keep b o (neL b o e) hb (neC b o e hx) (I.base.keep b o e n hb hx) (I.base.free b o e n hx)
  · obtain ⟨sl, e1⟩ := I.base.slot b o e n hb hx
    obtain ⟨sl', e2⟩ := slot b _ (neL b o e) hb (neC b o e hx) e1 (I.base.free b o e n hx)
    exact ⟨sl', e2⟩
  · obtain ⟨o', e1⟩ := I.base.there b o e hx
    exact free b o' (neC b o e hx) e1 (I.base.free b o e n hx)
  · obtain ⟨o', e1⟩ := I.base.there b o e hx
    exact there b o' (neC b o e hx) e1
  · obtain ⟨m1, e1⟩ := I.base.tbls b ps e
    obtain ⟨m2, e2⟩ := tbls b _ e1
    exact ⟨m1 ++ m2, by rw [e2, Array.append_assoc]⟩
  · obtain ⟨m, hn, hl⟩ := I.loc
    refine ⟨m, ns m hn, fun i x v e1 e2 e3 => ?_⟩
    obtain ⟨u, r, l⟩ := hl i x v e1 e2 e3
    refine ⟨u, r, ?_⟩
    rcases l with l | ⟨k, c, e, z⟩
    · exact .inl l
    · exact .inr ⟨k, c, e, cellK x c e _ z⟩
  · obtain ⟨v, z⟩ := I.cell x c e
    exact ⟨v, cellK x c e v z⟩
  · obtain ⟨m, ⟨o, _, _, ho, _⟩, _⟩ := I.loc
    exact free _ o (fun z => (hch _ z).2.1 rfl) ho I.free
  · obtain ⟨v, o, ho, hd⟩ := I.cell x c e
    exact free c o (fun z => (hch c z).2.2.1 x c e rfl) ho (I.freeC x c e)
  · obtain ⟨e, n, ne, nf, d⟩ := I.pin p hp
    have nch : p.1 ∉ ch := fun z => (hch p.1 z).2.2.2 p hp rfl
    exact ⟨keep p.1 p.2 ne nf nch e n, free p.1 p.2 nch e n, ne, nf, d⟩
/-- .. where the frame's own object is kept too -/
theorem Inv.un {t' : Nat} (I : Inv X pins σ H s) (u : Un X.fs [] H H' s.heap h') (hok : HOk X.prog X.w H' h') : Inv X pins σ H' { s with heap := h', toks := t' } := by
  obtain ⟨m, ⟨o, es, ep, ho, r⟩, _⟩ := id I.loc
  obtain ⟨sl, hL⟩ := u.any ho I.free (by simp)
  exact I.step (g' := s.gens) (d' := s.drawn) (ch := []) (fun _ z => nomatch z) (fun b o _ hb _ e n => u.keep b o e n hb (by simp)) (fun b o _ hb _ e n => u.slot b o e n hb (by simp)) (fun b o _ e n => u.free b o e n (by simp)) (fun b o _ e => u.there b o e (by simp)) u.tups u.frzs u.tbls (fun m' hm => by
    obtain ⟨o', es', ep', ho', r'⟩ := hm
    rw [ho] at ho'; cases ho'
    exact ⟨_, es', ep', hL, r'⟩) hok I.bare
/-- behind a call (or a comprehension's block): the slots of this frame may have changed too, the records at ch may have turned -/
theorem Inv.call {g' : Array GenState} {t' : Nat} {d' : Drawn} {ch : List Addr} (I : Inv X pins σ H s) (u : Un (frs X.stack) ch H H' s.heap h') (hok : HOk X.prog X.w H' h') (hg : AllBare g')
    (hch : ∀ b ∈ ch, (b ∈ X.ex ∨ X.s_0.heap.objs.size ≤ b) ∧ b ≠ X.env.locals ∧ (∀ x c, X.env.cells.lookup x = some c → c ≠ b) ∧ ∀ p ∈ X.pn ++ pins, p.1 ≠ b) :
    Inv X pins σ H' { s with heap := h', gens := g', drawn := d', toks := t' } := by
  obtain ⟨m, ⟨o, es, ep, ho, r⟩, _⟩ := id I.loc
  obtain ⟨sl, hL⟩ := u.any ho I.free fun z => (hch _ z).2.1 rfl
  exact I.step (ch := ch) hch (fun b o hL hb hc e n => u.keep b o e n (fun z => (List.mem_cons.mp (I.stkSub b z)).elim hL hb) hc) (fun b o _ _ hc e n => u.any e n hc) (fun b o hc e n => u.free b o e n hc) (fun b o hc e => u.there b o e hc) u.tups u.frzs u.tbls (fun m' hm => by
    obtain ⟨o', es', ep', ho', r'⟩ := hm
    rw [ho] at ho'; cases ho'
    exact ⟨_, es', ep', hL, r'⟩) hok hg
/-- an untracked record of ours (an iterator) has turned -/
theorem Inv.turned {t' : Nat} {it : Addr} (I : Inv X pins σ H s) (k : ∀ b o, b ≠ it → s.heap.get? b = some o → h'.get? b = some o) (hn : H it = none) (hL : it ≠ X.env.locals)
    (h1 : it ∈ X.ex ∨ X.s_0.heap.objs.size ≤ it) (h2 : ∀ x c, X.env.cells.lookup x = some c → c ≠ it) (h3 : ∀ p ∈ X.pn ++ pins, p.1 ≠ it) : Inv X pins σ H { s with heap := h', toks := t' } := by
  have nit : ∀ b u, H b = some u → b ≠ it := fun b u e z => by rw [z, hn] at e; cases e
  refine I.step (g' := s.gens) (d' := s.drawn) (ch := [it]) (fun b hb => ?_) (fun b o _ _ hc e _ => k b o (fun z => hc (by simp [z])) e) (fun b o _ _ hc e _ => ⟨o.slots, k b o (fun z => hc (by simp [z])) e⟩) (fun _ _ _ _ n => n)
    (fun b o hc e => ⟨o, k b o (fun z => hc (by simp [z])) e⟩) (fun _ _ e => e) (fun _ _ _ e => e) (fun b ps e => ⟨#[], by rw [e]; simp⟩) (fun m hm => ?_) (fun b u e => ?_) I.bare
  · have e : b = it := by simpa using hb
    subst e
    exact ⟨h1, hL, h2, h3⟩
  · obtain ⟨o, es, ep, ho, r⟩ := hm
    exact ⟨o, es, ep, k _ o (Ne.symm hL) ho, r⟩
  · refine (I.hok b u e).stay (fun c v hc q => k c v ?_ q) (fun _ q => q) fun _ _ q => q
    rcases hc with z | z
    · rw [z]; exact nit b u e
    · exact nit c _ z
theorem Inv.tok (I : Inv X pins σ H s) (t : Nat) : Inv X pins σ H { s with toks := t } := I.un (h' := s.heap) (t' := t) Un.refl I.hok
/-- all objects kept -/
theorem Inv.kept {t' : Nat} (I : Inv X pins σ H s) (k : ∀ b u, s.heap.get? b = some u → h'.get? b = some u) : Inv X pins σ H { s with heap := h', toks := t' } := I.un (Un.kept k) (I.hok.kept k)
/-- a new object laid and tracked -/
theorem Inv.laid {a : Addr} {o : HO} {t' : Nat} (I : Inv X pins σ H s) (k : ∀ b u, s.heap.get? b = some u → h'.get? b = some u) (hp : s.heap.objs.size ≤ a) (new : ObjOk X.prog X.w (upd H a o) h' a o) :
    Inv X pins σ (upd H a o) { s with heap := h', toks := t' } := I.un (Un.laid k hp (I.hok.fresh hp)) (I.hok.laid k hp new)
/-- an object written -/
theorem Inv.write {x e : Addr} {o : HO} {t' : Nat} (I : Inv X pins σ H s) (mu : Mut (H x)) (he : e = x ∨ H e = some (.own x)) (k : ∀ b u, b ≠ e → s.heap.get? b = some u → h'.get? b = some u) (heo : ∃ u, h'.get? e = some u)
    (new : ObjOk X.prog X.w (upd H x o) h' x o) : Inv X pins σ (upd H x o) { s with heap := h', toks := t' } := I.un (Un.write mu he k heo) (I.hok.write mu he k heo new)
/-- forgetting slots, pins -/
theorem Inv.weak {σ' : List (Option V)} (I : Inv X pins σ H s) (hl : σ'.length = σ.length) (w : ∀ (i : Nat) v, σ'[i]? = some (some v) → σ[i]? = some (some v)) : Inv X pins σ' H s :=
  ⟨I.ok, I.os, I.bare, I.base, let ⟨m, hn, hl'⟩ := I.loc; ⟨m, hn, fun i x v e1 e2 e3 => hl' i x v e1 (w i v e2) e3⟩, I.cell, I.free, I.freeC, I.pin, I.hok, hl.trans I.len⟩
theorem Inv.pins_of {pins' : List (Addr × Obj)} (I : Inv X pins σ H s) (h : ∀ p ∈ pins', s.heap.get? p.1 = some p.2 ∧ H p.1 = none ∧ p.1 ≠ X.env.locals ∧ p.1 ∉ X.fs ∧ ∀ v, p.2.data ≠ .cell v) : Inv X pins' σ H s :=
  ⟨I.ok, I.os, I.bare, I.base, I.loc, I.cell, I.free, I.freeC, fun p hp => (List.mem_append.mp hp).elim (fun z => I.pin p (List.mem_append_left _ z)) (h p), I.hok, I.len⟩
theorem nodup_ix {N : List Str} (hN : N.Nodup) {i j : Nat} {x : Str} (a : N[i]? = some x) (b : N[j]? = some x) : i = j := by
  obtain ⟨h1, e1⟩ := List.getElem?_eq_some_iff.mp a
  obtain ⟨h2, e2⟩ := List.getElem?_eq_some_iff.mp b
  exact (List.getElem_inj hN).mp (e1.trans e2.symm)
/-- a name is stored; what changed -/
theorem store_ok2 {M : Model} {A : Around} {E : Value → Shared → Prop} {i : Nat} {x : Str} {v : V} {u : Value} {Q : Unit → Shared → Prop} (I : Inv X pins σ H s) (hN : X.N.Nodup) (hi : X.N[i]? = some x) (hx : Loc X.env.scope x) (r : RelV v u)
    (h : ∀ s', Inv X pins (σ.set i (some v)) H s' → (∃ a, Heap.SameBut a s.heap s'.heap ∧ (a = X.env.locals ∨ X.env.cells.lookup x = some a)) → Q () s') (hf : X.fn x = true ∨ X.env.scope.names.lookup x = some .local := by first | exact .inl rfl | exact .inr rfl | assumption) : wpAny M A (storeName X.env x u) Q E s := by
  obtain ⟨m, hn, hl⟩ := id I.loc
  have hcls : (X.env.scope.kind == .class || (X.env.scope.kind == .module && X.env.locals != X.env.globals)) = false := by rw [I.ok.kind]; rfl
  have hiσ : i < σ.length := by rw [I.len]; exact (List.getElem?_eq_some_iff.mp hi).1
  have cne := I.cne
  have tracked : ∀ {a : Addr} {h' : Heap}, (∃ o, s.heap.get? a = some o ∧ H a = none) → Heap.SameBut a s.heap h' → HOk X.prog X.w H h' := fun {a h'} ha hs b ob e => by
    obtain ⟨_, _, hfree⟩ := ha
    refine (I.hok b ob e).stay (fun c w' hc q => (hs.2 c ?_).trans q) (fun _ q => q) fun _ _ q => q
    rintro rfl
    rcases hc with rfl | hc
    · rw [hfree] at e; cases e
    · rw [hfree] at hc; cases hc
  rcases hx with hk | hk
  · refine wpAny_storeName_local hk hn (fun h' hn' hs => ?_) hcls
    obtain ⟨oL, _, _, hoL, _⟩ := id hn
    refine h _ ⟨I.ok, I.os, I.bare, ⟨fun b o e n hb hx => ?_, fun b o e n hb hx => ?_, I.base.free, fun b o e hx => ?_, I.base.tups, I.base.frzs, I.base.tbls⟩, ⟨_, hn', fun j y v' e1 e2 e3 => ?_⟩, fun y c e => ?_, I.free, I.freeC, fun p hp => ?_, tracked ⟨oL, hoL, I.free⟩ hs, by simpa using I.len⟩ ⟨_, hs, .inl rfl⟩
    · exact (hs.2 b (Nat.ne_of_lt (Nat.lt_of_lt_of_le (Heap.lt_size e) I.ok.above))).trans (I.base.keep b o e n hb hx)
    · obtain ⟨sl, e1⟩ := I.base.slot b o e n hb hx
      exact ⟨sl, (hs.2 b (Nat.ne_of_lt (Nat.lt_of_lt_of_le (Heap.lt_size e) I.ok.above))).trans e1⟩
    · obtain ⟨o', e1⟩ := I.base.there b o e hx
      exact ⟨o', (hs.2 b (Nat.ne_of_lt (Nat.lt_of_lt_of_le (Heap.lt_size e) I.ok.above))).trans e1⟩
    · by_cases hj : j = i
      · subst hj
        rw [hi] at e1; cases e1
        rw [List.getElem?_set_self hiσ] at e2
        cases e2
        exact ⟨u, r, .inl ⟨hk, by simp⟩⟩
      · rw [List.getElem?_set_ne (Ne.symm hj)] at e2
        obtain ⟨u', r', q⟩ := hl j y v' e1 e2 e3
        refine ⟨u', r', ?_⟩
        rcases q with ⟨k, e⟩ | ⟨k, c, e, z⟩
        · refine .inl ⟨k, ?_⟩
          have : y ≠ x := fun e => hj (nodup_ix hN e1 (e ▸ hi))
          simp [this, e]
        · exact .inr ⟨k, c, e, z.sameBut hs (cne y c e)⟩
    · obtain ⟨w', z⟩ := I.cell y c e
      exact ⟨w', z.sameBut hs (cne y c e)⟩
    · obtain ⟨e, n, ne, nf, d⟩ := I.pin p hp
      exact ⟨(hs.2 p.1 ne).trans e, n, ne, nf, d⟩
  · have hfn : X.fn x = true := by
      rcases hf with z | z
      · exact z
      · rw [z] at hk; cases hk
    obtain ⟨c, hc⟩ := I.ok.has x (.inl hk)
    obtain ⟨w', z⟩ := I.cell x c hc
    refine wpAny_storeName_cell I.ok.kind hk hc z (fun h' hc' hs => ?_)
    obtain ⟨oc, hoc, hocd⟩ := id z
    refine h { s with heap := h' } ⟨I.ok, I.os, I.bare, ⟨fun b o e n hb hx => ?_, fun b o e n hb hx => ?_, I.base.free, fun b o e hx => ?_, I.base.tups, I.base.frzs, I.base.tbls⟩, ⟨m, hn.sameBut hs (Ne.symm (cne x c hc)), fun j y v' e1 e2 e3 => ?_⟩, fun y c' e => ?_, I.free, I.freeC, fun p hp => ?_, tracked ⟨oc, hoc, I.freeC x c hc⟩ hs, by simpa using I.len⟩ ⟨c, hs, .inr hc⟩
    · exact (hs.2 b (Nat.ne_of_lt (Nat.lt_of_lt_of_le (Heap.lt_size e) (I.ok.cab x c hfn hc)))).trans (I.base.keep b o e n hb hx)
    · obtain ⟨sl, e1⟩ := I.base.slot b o e n hb hx
      exact ⟨sl, (hs.2 b (Nat.ne_of_lt (Nat.lt_of_lt_of_le (Heap.lt_size e) (I.ok.cab x c hfn hc)))).trans e1⟩
    · obtain ⟨o', e1⟩ := I.base.there b o e hx
      exact ⟨o', (hs.2 b (Nat.ne_of_lt (Nat.lt_of_lt_of_le (Heap.lt_size e) (I.ok.cab x c hfn hc)))).trans e1⟩
    · by_cases hj : j = i
      · subst hj
        rw [hi] at e1; cases e1
        rw [List.getElem?_set_self hiσ] at e2
        cases e2
        exact ⟨u, r, .inr ⟨.inl hk, c, hc, hc'⟩⟩
      · rw [List.getElem?_set_ne (Ne.symm hj)] at e2
        obtain ⟨u', r', q⟩ := hl j y v' e1 e2 e3
        refine ⟨u', r', ?_⟩
        rcases q with q | ⟨k, c', e, z'⟩
        · exact .inl q
        · refine .inr ⟨k, c', e, z'.sameBut hs ?_⟩
          rintro rfl
          exact hj (nodup_ix hN e1 (I.ok.inj _ _ _ e hc ▸ hi))
    · by_cases hcc : c' = c
      · subst hcc; exact ⟨_, hc'⟩
      · obtain ⟨w2, z2⟩ := I.cell y c' e
        exact ⟨w2, z2.sameBut hs hcc⟩
    · obtain ⟨e, n, ne, nf, d⟩ := I.pin p hp
      refine ⟨(hs.2 p.1 ?_).trans e, n, ne, nf, d⟩
      intro q
      rw [q, hoc] at e
      have q' : oc = p.2 := Option.some.inj e
      exact d w' (by rw [← q']; exact hocd)
theorem store_ok {M : Model} {A : Around} {E : Value → Shared → Prop} {i : Nat} {x : Str} {v : V} {u : Value} {Q : Unit → Shared → Prop} (I : Inv X pins σ H s) (hN : X.N.Nodup) (hi : X.N[i]? = some x) (hx : Loc X.env.scope x) (r : RelV v u)
    (h : ∀ s', Inv X pins (σ.set i (some v)) H s' → Q () s') (hf : X.fn x = true ∨ X.env.scope.names.lookup x = some .local := by first | exact .inl rfl | exact .inr rfl | assumption) : wpAny M A (storeName X.env x u) Q E s :=
  store_ok2 I hN hi hx r (fun s' I' _ => h s' I') hf
/-- behind a call or a block, the state as it is -/
theorem Inv.call' {s' : Shared} {ch : List Addr} (I : Inv X pins σ H s) (ho : s'.os = s.os) (u : Un (frs X.stack) ch H H' s.heap s'.heap) (hok : HOk X.prog X.w H' s'.heap) (hg : AllBare s'.gens)
    (hch : ∀ b ∈ ch, (b ∈ X.ex ∨ X.s_0.heap.objs.size ≤ b) ∧ b ≠ X.env.locals ∧ (∀ x c, X.env.cells.lookup x = some c → c ≠ b) ∧ ∀ p ∈ X.pn ++ pins, p.1 ≠ b) : Inv X pins σ H' s' := by
  obtain ⟨h', g', d', t', o'⟩ := s'
  have e : o' = s.os := ho
  subst e
  exact I.call (g' := g') (t' := t') (d' := d') u hok hg hch
end
/-- an exception: its class, its own dict's address (where it has one), the abstract heap behind it -/
abbrev XK := Value → Option Addr → Hp → Prop
abbrev St := List (Option V)
abbrev VK := V → Hp → Prop
/-- an expression's reading; a test's; an argument list's -/
abbrev TE := St → Hp → VK → Prop
abbrev TT := St → Hp → (Bool → Hp → Prop) → Prop
abbrev TA := St → Hp → (List V → Hp → Prop) → Prop
/-- what is wanted behind a statement -/
structure Ends where
  nx : St → Hp → Prop
  rt : VK
  bk : St → Hp → Prop := fun _ _ => False
  ct : St → Hp → Prop := fun _ _ => False
abbrev TS := Ends → St → Hp → Prop
def EP (X : Cx) (pins : List (Addr × Obj)) (σ : St) (Q : VK) (u : Value) (s' : Shared) : Prop := ∃ v H', Inv X pins σ H' s' ∧ RelV v u ∧ Q v H'
def TP (X : Cx) (pins : List (Addr × Obj)) (σ : St) (Q : Bool → Hp → Prop) (b : Bool) (s' : Shared) : Prop := ∃ H', Inv X pins σ H' s' ∧ Q b H'
def AP (X : Cx) (pins : List (Addr × Obj)) (σ : St) (Q : List V → Hp → Prop) (us : List Value) (s' : Shared) : Prop := ∃ vs H', Inv X pins σ H' s' ∧ Vals vs us ∧ Q vs H'
def SP (X : Cx) (pins : List (Addr × Obj)) (D : Ends) (f : Flow) (s' : Shared) : Prop :=
  match f with
  | .next => ∃ σ' H', Inv X pins σ' H' s' ∧ D.nx σ' H'
  | .brk => ∃ σ' H', Inv X pins σ' H' s' ∧ D.bk σ' H'
  | .cont => ∃ σ' H', Inv X pins σ' H' s' ∧ D.ct σ' H'
  | .ret u => ∃ v σ' H', Inv X pins σ' H' s' ∧ RelV v u ∧ D.rt v H'
def PE (X : Cx) (e : Expr) (t : TE) : Prop :=
  ∀ (pins : List (Addr × Obj)) (s : Shared) (σ : St) (H : Hp) (Q : VK), Inv X pins σ H s → t σ H Q → wpAny (model X.prog X.w) X.A (eval e X.env) (EP X pins σ Q) X.xe s
def PT (X : Cx) (e : Expr) (t : TT) : Prop :=
  ∀ (pins : List (Addr × Obj)) (s : Shared) (σ : St) (H : Hp) (Q : Bool → Hp → Prop), Inv X pins σ H s → t σ H Q → wpAny (model X.prog X.w) X.A (isTrue e X.env (eval e X.env)) (TP X pins σ Q) X.xe s
/-- a test whatever its 'whole' is (and, or) -/
def PW (X : Cx) (e : Expr) (t : TT) : Prop :=
  ∀ (whole : Sem Value) (pins : List (Addr × Obj)) (s : Shared) (σ : St) (H : Hp) (Q : Bool → Hp → Prop), Inv X pins σ H s → t σ H Q → wpAny (model X.prog X.w) X.A (isTrue e X.env whole) (TP X pins σ Q) X.xe s
theorem PW.pt {X : Cx} {e : Expr} {t : TT} (h : PW X e t) : PT X e t := h _
/-- an argument list (no star), from the left -/
def PA (X : Cx) (es : List Expr) (t : TA) : Prop :=
  ∀ (pos : Pos) (pins : List (Addr × Obj)) (s : Shared) (σ : St) (H : Hp) (Q : List V → Hp → Prop), Inv X pins σ H s → t σ H Q → wpAny (model X.prog X.w) X.A (spliced (backTo pos (starEach es X.env))) (AP X pins σ Q) X.xe s
def PS (X : Cx) (st : Stmt) (t : TS) : Prop :=
  ∀ (pins : List (Addr × Obj)) (s : Shared) (σ : St) (H : Hp) (D : Ends), Inv X pins σ H s → t D σ H → wpAny (model X.prog X.w) X.A (exec st X.env) (SP X pins D) X.xe s
def PSs (X : Cx) (st : List Stmt) (t : TS) : Prop :=
  ∀ (pins : List (Addr × Obj)) (s : Shared) (σ : St) (H : Hp) (D : Ends), Inv X pins σ H s → t D σ H → wpAny (model X.prog X.w) X.A (execs st X.env) (SP X pins D) X.xe s
/-- weaken the end -/
theorem thn {α : Type} {t : Sem α} {Q Q' : α → Shared → Prop} {M : Model} {A : Around} {E : Value → Shared → Prop} {s : Shared} (h : wpAny M A t Q E s) (hQ : ∀ a s, Q a s → Q' a s) : wpAny M A t Q' E s := wpAny_mono h hQ fun _ _ x => x
end L2
namespace L2
open PySem PySem.Spec PyProof.Rows
section
variable {X : Cx}
def tVar (i : Nat) : TE := fun σ H Q => ∃ v, σ[i]? = some (some v) ∧ Q v H
def tC (v : V) : TE := fun _ H Q => Q v H
theorem pe_var {i : Nat} {x : Str} {pos : Pos} (hN : X.N[i]? = some x) (hv : Vis X.env.scope x) (hd : (x == ("__debug__" : Str)) = false := by decide) (hcd : (x == ("__classdict__" : Str)) = false := by decide) : PE X (.Name x pos) (tVar i) := by
  intro pins s σ H Q I h
  obtain ⟨v, e, h⟩ := h
  obtain ⟨m, hn, hl⟩ := I.loc
  obtain ⟨u, r, l⟩ := hl i x v hN e hv
  have fin : EP X pins σ Q u s := ⟨v, H, I, r, h⟩
  rcases l with ⟨hk, hm⟩ | ⟨hk, c, hc, hcell⟩
  · exact wpAny_Name (wpAny_loadName_local I.ok.kind hk hn hm fin) hd
  · rcases hk with hk | hk
    · exact wpAny_Name (wpAny_loadName_cell I.ok.kind hk hc hcell fin) hd
    · exact wpAny_Name (wpAny_loadName_free I.ok.kind hk hc hcell fin hcd) hd
theorem pe_int {i j pos} : PE X (.Constant (.int i) j pos) (tC (.int i)) := fun _ _ _ H _ I h => wpAny_Constant_int ⟨.int i, H, I.tok _, ⟨_, rfl⟩, h⟩
/-- a global name of the def -/
def Gl (X : Cx) (x : Str) : Prop := X.env.kindOf x = some .globalImplicit
theorem ld_glob {E : Value → Shared → Prop} {pins : List (Addr × Obj)} {s : Shared} {σ : St} {H : Hp} {x : Str} {u : Value} {pos : Pos} {Q : Value → Shared → Prop} (I : Inv X pins σ H s) (hg : Gl X x) (hm : X.mg x = some u) (h : Q u s)
    (hd : (x == ("__debug__" : Str)) = false := by decide) : wpAny (model X.prog X.w) X.A (eval (.Name x pos) X.env) Q E s :=
  Calls.Name_function_global I.ok.kind hg (Calls.loadGlobal_global (by rw [I.ok.glob]; exact I.mod.glob.keeps I.bk) hm h) hd
theorem ld_blt {E : Value → Shared → Prop} {pins : List (Addr × Obj)} {s : Shared} {σ : St} {H : Hp} {x : Str} {u : Value} {pos : Pos} {Q : Value → Shared → Prop} (I : Inv X pins σ H s) (hg : Gl X x) (hm : X.mg x = none) (hv : bootBuiltins x = some u) (h : Q u s)
    (hn : x ≠ "__name__" := by decide) (hd : (x == ("__debug__" : Str)) = false := by decide) : wpAny (model X.prog X.w) X.A (eval (.Name x pos) X.env) Q E s := by
  obtain ⟨mb, h1, h2⟩ := I.mod.blt
  exact Calls.Name_function_global I.ok.kind hg (Calls.loadGlobal_builtin (by rw [I.ok.glob]; exact I.mod.glob.keeps I.bk) hm (by rw [I.ok.blt]; exact h1.keeps I.bk) ((h2 x hn).trans hv) h) hd
/-- a module's constant, a class, a function, as a value -/
theorem pe_glob {x : Str} {v : V} {u : Value} {pos : Pos} (hg : Gl X x) (hm : X.mg x = some u) (r : RelV v u) (hd : (x == ("__debug__" : Str)) = false := by decide) : PE X (.Name x pos) (tC v) :=
  fun _ _ _ H _ I h => ld_glob I hg hm ⟨v, H, I, r, h⟩ hd
variable {a b : Expr} {ta tb : TE} {pos : Pos}
variable {tA tB' : TT} {rest : List Expr}
def tOr (t u : TT) : TT := fun σ H Q => t σ H fun c H1 => if c = true then Q true H1 else u σ H1 Q
theorem pw_or1 (ha : PT X a tA) : PW X (.BoolOp .Or [a] pos) tA := by
  intro wh pins s σ H Q I h
  refine isTrue_or (thn (ha pins s σ H Q I h) fun c s1 e => ?_)
  cases c with
  | false => exact isTrue_or_nil e
  | true => exact e
theorem pw_or (ha : PT X a tA) (hb : PW X (.BoolOp .Or (b :: rest) pos) tB') : PW X (.BoolOp .Or (a :: b :: rest) pos) (tOr tA tB') := by
  intro wh pins s σ H Q I h
  refine isTrue_or (thn (ha pins s σ H _ I h) fun c s1 ⟨H1, I1, q1⟩ => ?_)
  cases c with
  | true => exact ⟨H1, I1, q1⟩
  | false => exact hb wh pins s1 σ H1 Q I1 q1
/-- a if t else b -/
def tIf (t : TT) (ta tb : TE) : TE := fun σ H Q => t σ H fun c H1 => if c = true then ta σ H1 Q else tb σ H1 Q
theorem pe_ifExp {c : Expr} (hc : PT X c tA) (ha : PE X a ta) (hb : PE X b tb) : PE X (.IfExp c a b pos) (tIf tA ta tb) := by
  intro pins s σ H Q I h
  refine wpAny_IfExp (thn (hc pins s σ H _ I h) fun d s1 ⟨H1, I1, q1⟩ => ?_)
  cases d with
  | true => exact ha pins s1 σ H1 Q I1 q1
  | false => exact hb pins s1 σ H1 Q I1 q1
end
end L2
namespace L2
open PySem PySem.Spec PyProof.Rows
def SqL (K : PySem.W.Frag) (H : Hp) (a : Addr) (xs : List V) : Prop :=
  Rd H a (.lst xs) ∨
    ∃ (o : Obj) (its : Array Value) (n : Nat), K.lookup a = some o ∧ o.cls = .type "list" ∧ o.dict = none ∧ o.data = .seq its n ∧ its.size ≤ sizeLine ∧ Vals xs its.toList
def SqT (K : PySem.W.Frag) (H : Hp) (a : Addr) (xs : List V) : Prop :=
  Rd H a (.tup xs) ∨
    ∃ (o : Obj) (its : Array Value) (n : Nat), K.lookup a = some o ∧ o.cls = .type "tuple" ∧ o.data = .seq its n ∧ its.size ≤ sizeLine ∧ Vals xs its.toList
def absV : Value → Option V
  | .none => some .non
  | .bool b => some (.bl b)
  | .int i _ => some (.int i)
  | .str x _ => some (.str x)
  | .bytes b _ => some (.byt b)
  | .float b _ => some (.flt b)
  | .ref a => some (.ref a)
  | .type n => some (.ty n)
  | _ => none
theorem RelV.abs {x : V} {u : Value} (r : RelV x u) : absV u = some x := by
  cases x with
  | non => cases r; rfl
  | bl _ => cases r; rfl
  | int _ => obtain ⟨t, rfl⟩ := r; rfl
  | str _ => obtain ⟨t, rfl⟩ := r; rfl
  | byt _ => obtain ⟨t, rfl⟩ := r; rfl
  | flt _ => obtain ⟨t, rfl⟩ := r; rfl
  | ref _ => cases r; rfl
  | ty _ => cases r; rfl
theorem RelV.inj {x y : V} {u : Value} (r : RelV x u) (q : RelV y u) : x = y := Option.some.inj (r.abs.symm.trans q.abs)
theorem Vals.inj : ∀ {xs ys : List V} {us : List Value}, Vals xs us → Vals ys us → xs = ys
  | _, _, _, .nil, .nil => rfl
  | _, _, _, .cons r t, .cons r' t' => by rw [r.inj r', Vals.inj t t']
section
variable {X : Cx} {pins : List (Addr × Obj)} {σ : St} {H : Hp} {s : Shared} {a : Addr} {xs ys : List V}
theorem SqL.of {K : PySem.W.Frag} (h : H a = some (.lst xs)) : SqL K H a xs := .inl (.inl h)
theorem SqT.of {K : PySem.W.Frag} (h : H a = some (.tup xs)) : SqT K H a xs := .inl (.inl h)
theorem Inv.list (I : Inv X pins σ H s) (h : SqL X.K H a xs) : ∃ its : List Value, Vals xs its ∧ PlainL s.heap a its.toArray ∧ xs.length ≤ sizeLine := by
  rcases h with h | ⟨o, its, n, hk, hc, hd, hs, hz, r⟩
  · obtain ⟨z, its, n, r, e⟩ := h.ok I.hok
    exact ⟨its, r, ⟨_, n, e, rfl, rfl, rfl⟩, z⟩
  · refine ⟨its.toList, r, ⟨o, n, I.kIn a o hk, hc, hd, by simpa using hs⟩, ?_⟩
    have e := r.length
    simp only [Array.length_toList] at e
    omega
theorem Inv.tuple (I : Inv X pins σ H s) (h : SqT X.K H a xs) : ∃ its : List Value, Vals xs its ∧ IsTup s.heap a its.toArray ∧ xs.length ≤ sizeLine := by
  rcases h with h | ⟨o, its, n, hk, hc, hs, hz, r⟩
  · obtain ⟨z, its, r, p⟩ := h.ok I.hok
    exact ⟨its, r, p, z⟩
  · refine ⟨its.toList, r, ⟨o, I.kIn a o hk, hc, n, by simpa using hs⟩, ?_⟩
    have e := r.length
    simp only [Array.length_toList] at e
    omega
theorem Inv.list_inj (I : Inv X pins σ H s) (h : SqL X.K H a xs) (h' : SqL X.K H a ys) : xs = ys := by
  obtain ⟨its, r, ⟨o, n, e, _, _, d⟩, _⟩ := I.list h
  obtain ⟨its', r', ⟨o', n', e', _, _, d'⟩, _⟩ := I.list h'
  rw [e] at e'; cases e'
  rw [d] at d'
  injection d' with d1 _
  have : its = its' := by simpa using congrArg Array.toList d1
  subst this
  exact r.inj r'
theorem Inv.tuple_inj (I : Inv X pins σ H s) (h : SqT X.K H a xs) (h' : SqT X.K H a ys) : xs = ys := by
  obtain ⟨its, r, ⟨o, e, _, n, d⟩, _⟩ := I.tuple h
  obtain ⟨its', r', ⟨o', e', _, n', d'⟩, _⟩ := I.tuple h'
  rw [e] at e'; cases e'
  rw [d] at d'
  injection d' with d1 _
  have : its = its' := by simpa using congrArg Array.toList d1
  subst this
  exact r.inj r'
end
abbrev Cx.wish (X : Cx) (E : Value → Shared → Prop) : Cx := { X with xe := E }
/-- no exception leaves -/
abbrev Cx.nox (X : Cx) : Cx := X.wish fun _ _ => False
theorem Cx.Ok.wish {X : Cx} (ok : X.Ok) (E : Value → Shared → Prop) : (X.wish E).Ok :=
  ⟨ok.mod, ok.kind, ok.glob, ok.blt, ok.above, ok.inj, ok.has, ok.cab, ok.hd, ok.frames, ok.stk, ok.exf, ok.bs, ok.bsz, ok.noex, ok.exfs, ok.funs, ok.frf⟩
theorem Cx.Ok.unwish {X : Cx} {E : Value → Shared → Prop} (ok : (X.wish E).Ok) : X.Ok :=
  ⟨ok.mod, ok.kind, ok.glob, ok.blt, ok.above, ok.inj, ok.has, ok.cab, ok.hd, ok.frames, ok.stk, ok.exf, ok.bs, ok.bsz, ok.noex, ok.exfs, ok.funs, ok.frf⟩
section
variable {X : Cx} {pins : List (Addr × Obj)} {σ : St} {H : Hp} {s : Shared} {E : Value → Shared → Prop}
theorem Inv.wish (I : Inv X pins σ H s) (E : Value → Shared → Prop) : Inv (X.wish E) pins σ H s := ⟨I.ok.wish E, I.os, I.bare, I.base, I.loc, I.cell, I.free, I.freeC, I.pin, I.hok, I.len⟩
theorem Inv.unwish (I : Inv (X.wish E) pins σ H s) : Inv X pins σ H s := ⟨I.ok.unwish, I.os, I.bare, I.base, I.loc, I.cell, I.free, I.freeC, I.pin, I.hok, I.len⟩
theorem SP.unwish {D : Ends} {f : Flow} {s' : Shared} (h : SP (X.wish E) pins D f s') : SP X pins D f s' := by
  cases f with
  | next => obtain ⟨σ', H', I, q⟩ := h; exact ⟨σ', H', I.unwish, q⟩
  | brk => obtain ⟨σ', H', I, q⟩ := h; exact ⟨σ', H', I.unwish, q⟩
  | cont => obtain ⟨σ', H', I, q⟩ := h; exact ⟨σ', H', I.unwish, q⟩
  | ret u => obtain ⟨v, σ', H', I, r, q⟩ := h; exact ⟨v, σ', H', I.unwish, r, q⟩
theorem PSs.nox {st : List Stmt} {t : TS} (h : PSs X.nox st t) : PSs X st t := fun pins s σ H D I hw =>
  wpAny_mono (h pins s σ H D (I.wish _) hw) (fun _ _ q => q.unwish) fun _ _ z => False.elim z
end
section
variable {X : Cx} {st : Stmt} {rest : List Stmt} {t u : TS} {e : Expr} {te : TE} {pos : Pos}
def tNext : TS := fun D σ H => D.nx σ H
def tSeq (t u : TS) : TS := fun D σ H => t { D with nx := u D } σ H
theorem pss_nil : PSs X [] tNext := fun _ _ σ H _ I h => wpAny_execs_nil ⟨σ, H, I, h⟩
theorem pss_cons (h1 : PS X st t) (h2 : PSs X rest u) : PSs X (st :: rest) (tSeq t u) := by
  intro pins s σ H D I h
  refine wpAny_execs_cons (thn (h1 pins s σ H { D with nx := u D } I h) fun f s1 q => ?_)
  cases f with
  | next =>
    obtain ⟨σ', H', I', q⟩ := q
    exact h2 pins s1 σ' H' D I' q
  | ret v => exact q
  | brk => exact q
  | cont => exact q
theorem pss_one (h1 : PS X st t) : PSs X [st] t := by
  intro pins s σ H D I h
  refine wpAny_execs_cons (thn (h1 pins s σ H D I h) fun f s1 q => ?_)
  cases f with
  | next => exact wpAny_execs_nil q
  | ret v => exact q
  | brk => exact q
  | cont => exact q
/-- in a def's body nothing is shown -/
theorem Inv.quiet {pins : List (Addr × Obj)} {σ : St} {H : Hp} {s : Shared} (I : Inv X pins σ H s) : interactive X.env = false := by simp [interactive, I.ok.kind]
/-- an expression whose value is dropped -/
def tDrop (te : TE) : TS := fun D σ H => te σ H fun _ H1 => D.nx σ H1
theorem ps_expr (he : PE X e te) (hs : swapsWith e none pos.line X.env = pure false := by rfl) : PS X (.Expr e pos) (tDrop te) := by
  intro pins s σ H D I h
  exact wpAny_Expr_any (thn (he pins s σ H _ I h) fun v s1 ⟨x, H1, I1, r1, q1⟩ => ⟨σ, H1, I1, q1⟩) I.quiet hs
def tRet (te : TE) : TS := fun D σ H => te σ H D.rt
theorem ps_ret (he : PE X e te) : PS X (.Return (some e) pos) (tRet te) := by
  intro pins s σ H D I h
  exact wpAny_Return_some (thn (he pins s σ H _ I h) fun v s1 ⟨x, H1, I1, r1, q1⟩ => ⟨x, σ, H1, I1, r1, q1⟩)
def tIfS (c : TT) (t u : TS) : TS := fun D σ H => c σ H fun b H1 => if b = true then t D σ H1 else u D σ H1
theorem ps_if {c : Expr} {a b : List Stmt} {tc : TT} (hc : PT X c tc) (ha : PSs X a t) (hb : PSs X b u) : PS X (.If c a b pos) (tIfS tc t u) := by
  intro pins s σ H D I h
  refine wpAny_If (thn (hc pins s σ H _ I h) fun d s1 ⟨H1, I1, q1⟩ => ?_)
  cases d with
  | true => exact ha pins s1 σ H1 D I1 q1
  | false => exact hb pins s1 σ H1 D I1 q1
end
abbrev TG := V → St → Hp → (St → Hp → Prop) → Prop
abbrev TGs := List V → St → Hp → (St → Hp → Prop) → Prop
def PG (X : Cx) (target : Expr) (t : TG) : Prop :=
  ∀ (pins : List (Addr × Obj)) (s : Shared) (σ : St) (H : Hp) (v : V) (u : Value) (Q : St → Hp → Prop), Inv X pins σ H s → RelV v u → t v σ H Q →
    wpAny (model X.prog X.w) X.A (assign target X.env u) (fun _ s' => ∃ σ' H', Inv X pins σ' H' s' ∧ Q σ' H') X.xe s
/-- several targets, one after another -/
def PGs (X : Cx) (ts : List Expr) (t : TGs) : Prop :=
  ∀ (pins : List (Addr × Obj)) (s : Shared) (σ : St) (H : Hp) (vs : List V) (us : List Value) (Q : St → Hp → Prop), Inv X pins σ H s → Vals vs us → t vs σ H Q →
    wpAny (model X.prog X.w) X.A (assignInOrder ((assignEach ts X.env).map (·.2)) us) (fun _ s' => ∃ σ' H', Inv X pins σ' H' s' ∧ Q σ' H') X.xe s
/-- a op= b, by values -/
abbrev TIp := V → V → Hp → VK → Prop
def PIp (X : Cx) (op : Operator) (t : TIp) : Prop :=
  ∀ (pins : List (Addr × Obj)) (s : Shared) (σ : St) (H : Hp) (x y : V) (v u : Value) (Q : VK), Inv X pins σ H s → RelV x v → RelV y u → t x y H Q →
    wpAny (model X.prog X.w) X.A (inplaceOp op v u) (EP X pins σ Q) X.xe s
section
variable {X : Cx} {pos : Pos}
def gName (i : Nat) : TG := fun v σ H Q => Q (σ.set i (some v)) H
theorem pg_name {i : Nat} {x : Str} (hN : X.N.Nodup) (hi : X.N[i]? = some x) (hx : Loc X.env.scope x) (hf : X.fn x = true ∨ X.env.scope.names.lookup x = some .local := by first | exact .inl rfl | exact .inr rfl | assumption) : PG X (.Name x pos) (gName i) := by
  intro pins s σ H v u Q I r h
  exact wpAny_assign_Name (store_ok I hN hi hx r (fun s' I' => ⟨_, H, I', h⟩) hf)
def gNil : TGs := fun vs σ H Q => vs = [] ∧ Q σ H
def gCons (t : TG) (u : TGs) : TGs := fun vs σ H Q => ∃ v r, vs = v :: r ∧ t v σ H fun σ' H' => u r σ' H' Q
theorem pgs_nil : PGs X [] gNil := by
  intro pins s σ H vs us Q I r h
  obtain ⟨e, h⟩ := h
  subst e
  cases r
  exact assignInOrder_nil ⟨σ, H, I, h⟩
theorem pgs_cons {e : Expr} {es : List Expr} {t : TG} {u : TGs} (h1 : PG X e t) (h2 : PGs X es u)
    (hs : (assignEach (e :: es) X.env).map (·.2) = assign e X.env :: (assignEach es X.env).map (·.2) := by rfl) : PGs X (e :: es) (gCons t u) := by
  intro pins s σ H vs us Q I r h
  obtain ⟨v, vr, e1, h⟩ := h
  subst e1
  cases r with
  | cons r rr =>
    rw [hs]
    refine assignInOrder_cons (thn (h1 pins s σ H _ _ _ I r h) fun _ s1 ⟨σ1, H1, I1, q1⟩ => ?_)
    exact h2 pins s1 σ1 H1 _ _ Q I1 rr q1
/-- (a, b, ..) = a tuple of that length -/
def gTup (K : PySem.W.Frag) (n : Nat) (t : TGs) : TG := fun v σ H Q => ∃ a xs, v = .ref a ∧ SqT K H a xs ∧ xs.length = n ∧ t xs σ H Q
theorem pg_tup {es : List Expr} {k : Nat} {t : TGs} {n : Nat} (hc : X.calm = true) (h : PGs X es t)
    (hn : (assignEach es X.env).length = n := by rfl) (hst : (assignEach es X.env).findIdx? (·.1) = none := by rfl) : PG X (.Tuple es k pos) (gTup X.K n t) := by
  intro pins s σ H v u Q I r hw
  obtain ⟨a, xs, e1, hq, hl, hw⟩ := hw
  subst e1
  cases r
  obtain ⟨its, rv, ht, hz⟩ := I.tuple hq
  refine assign_Tuple_tuple (I.ok.hd hc) ht (by simp [hn, ← hl, rv.length]) hst fun h' hx => ?_
  have I1 : Inv X pins σ H { s with heap := h' } := I.kept (t' := s.toks) fun b o e => hx b o (Nat.ne_of_lt (Heap.lt_size e)) e
  exact h pins _ σ H xs _ Q I1 (by simpa using rv) hw
/-- target = value -/
def tAsg (te : TE) (g : TG) : TS := fun D σ H => te σ H fun x H1 => g x σ H1 D.nx
/-- name = value -/
theorem ps_set {i : Nat} {x : Str} {e : Expr} {te : TE} {pos' : Pos} (hN : X.N.Nodup) (hi : X.N[i]? = some x) (hx : Loc X.env.scope x) (he : PE X e te) (hs : swapsWith e (some (.Name x pos')) pos.line X.env = pure false := by rfl) (hf : X.fn x = true ∨ X.env.scope.names.lookup x = some .local := by first | exact .inl rfl | exact .inr rfl | assumption) :
    PS X (.Assign [.Name x pos'] e pos) (tAsg te (gName i)) := by
  intro pins s σ H D I h
  refine wpAny_Assign_Name (thn (he pins s σ H _ I h) fun v s1 ⟨y, H1, I1, r1, q1⟩ => ?_) hs
  exact store_ok I1 hN hi hx r1 (fun s2 I2 => ⟨_, H1, I2, q1⟩) hf
/-- name op= e -/
def tAug (i : Nat) (te : TE) (ti : TIp) : TS := fun D σ H => ∃ x, σ[i]? = some (some x) ∧ te σ H fun y H1 => ti x y H1 fun z H2 => D.nx (σ.set i (some z)) H2
theorem ps_aug {i : Nat} {x : Str} {e : Expr} {te : TE} {op : Operator} {ti : TIp} {pos' : Pos} (hN : X.N.Nodup) (hi : X.N[i]? = some x) (hx : Loc X.env.scope x) (he : PE X e te) (ho : PIp X op ti) (hf : X.fn x = true ∨ X.env.scope.names.lookup x = some .local := by first | exact .inl rfl | exact .inr rfl | assumption) :
    PS X (.AugAssign (.Name x pos') op e pos) (tAug i te ti) := by
  intro pins s σ H D I h
  obtain ⟨v, e1, h⟩ := h
  obtain ⟨m, hn, hl⟩ := I.loc
  have vis : Vis X.env.scope x := by rcases hx with k | k; exact .inl k; exact .inr (.inl k)
  obtain ⟨u, r, l⟩ := hl i x v hi e1 vis
  refine wpAny_AugAssign_Name ?_
  have go : wpAny (model X.prog X.w) X.A (eval e X.env) (fun w s₂ => wpAny (model X.prog X.w) X.A (inplaceOp op u w) (fun r s₃ => wpAny (model X.prog X.w) X.A (storeName X.env x r) (fun _ => SP X pins D .next) X.xe s₃) X.xe s₂) X.xe s := by
    refine thn (he pins s σ H _ I h) fun w s1 ⟨y, H1, I1, r1, q1⟩ => ?_
    refine thn (ho pins s1 σ H1 v y u w _ I1 r r1 q1) fun z s2 ⟨zv, H2, I2, r2, q2⟩ => ?_
    exact store_ok I2 hN hi hx r2 (fun s3 I3 => ⟨_, H2, I3, q2⟩) hf
  rcases l with ⟨hk, hm⟩ | ⟨hk, c, hc, hcell⟩
  · exact wpAny_loadName_local I.ok.kind hk hn hm go
  · rcases hk with hk | hk
    · exact wpAny_loadName_cell I.ok.kind hk hc hcell go
    · rcases hx with k | k
      · have : X.env.scope.names.lookup x = some .free := hk
        rw [k] at this; cases this
      · have : X.env.scope.names.lookup x = some .free := hk
        rw [k] at this; cases this
/-- ints -/
def ipI (f : Int → Int → Int) : TIp := fun x y H Q => ∃ i j, x = .int i ∧ y = .int j ∧ Q (.int (f i j)) H
theorem ip_add : PIp X .Add (ipI fun i j => i + j) := by
  intro pins s σ H x y v u Q I r1 r2 h
  obtain ⟨i, j, e1, e2, q⟩ := h
  subst e1; subst e2
  obtain ⟨t, rfl⟩ := r1
  obtain ⟨t', rfl⟩ := r2
  exact iadd_int ⟨.int _, H, I.tok _, ⟨_, rfl⟩, q⟩
end
section
variable {X : Cx} {pos : Pos}
/-- the invariant W with its measure -/
def tWhile (c : TT) (tb : TS) : TS := fun D σ H => ∃ W : Nat → St → Hp → Prop, (∃ m, W m σ H) ∧ ∀ m σ H, W m σ H →
  c σ H fun b H1 => if b = true then ∃ N : St → Hp → Prop, (∀ σ' H', N σ' H' → ∃ m', m' < m ∧ W m' σ' H') ∧ tb { D with nx := N, ct := N, bk := D.nx } σ H1 else D.nx σ H1
theorem ps_while {c : Expr} {body : List Stmt} {tc : TT} {tb : TS} (hp : PassesOwn (model X.prog X.w) X.A X.env X.xe) (hc : PT X c tc) (hb : PSs X body tb) : PS X (.While c body [] pos) (tWhile tc tb) := by
  intro pins s σ H D I h
  obtain ⟨W, ⟨m0, w0⟩, turn⟩ := h
  refine wpAny_While (codeAny_whileLoop (fun n s' => ∃ σ' H', Inv X pins σ' H' s' ∧ W n σ' H') ?_ m0 ⟨σ, H, I, w0⟩)
  rintro n s1 ⟨σ1, H1, I1, w1⟩
  refine wpAny_passesOwn hp (thn (hc pins s1 σ1 H1 _ I1 (turn n σ1 H1 w1)) fun b s2 ⟨H2, I2, q2⟩ => ?_)
  cases b with
  | true =>
    obtain ⟨N, hN, q2⟩ := q2
    rw [if_pos rfl]
    refine wpAny_passesOwn hp (thn (hb pins s2 σ1 H2 _ I2 q2) fun f s3 q3 => ?_)
    cases f with
    | next =>
      obtain ⟨σ3, H3, I3, n3⟩ := q3
      obtain ⟨m', hm, w3⟩ := hN σ3 H3 n3
      exact ⟨m', hm, σ3, H3, I3, w3⟩
    | cont =>
      obtain ⟨σ3, H3, I3, n3⟩ := q3
      obtain ⟨m', hm, w3⟩ := hN σ3 H3 n3
      exact ⟨m', hm, σ3, H3, I3, w3⟩
    | brk => exact q3
    | ret v => exact q3
  | false =>
    rw [if_neg Bool.false_ne_true]
    exact wpAny_execs_nil ⟨σ1, H2, I2, q2⟩
end
/-- at turn i: it yields x (the heap may grow), or it stops -/
structure It where
  go : Nat → Hp → Prop
  yld : Nat → Hp → V → Hp → Prop
  stop : Nat → Hp → Prop
/-- the iterator's own objects may turn: they are not the frame's, not pinned, younger than the entry (or a comprehension's own) -/
def FpOk (X : Cx) (pins : List (Addr × Obj)) (H : Hp) (b : Addr) : Prop :=
  H b = none ∧ b ≠ X.env.locals ∧ b ∉ X.fs ∧ (b ∈ X.ex ∨ X.s_0.heap.objs.size ≤ b) ∧ (∀ x c, X.env.cells.lookup x = some c → c ≠ b) ∧ ∀ p ∈ X.pn ++ pins, p.1 ≠ b
theorem Inv.fpOk {X : Cx} {pins : List (Addr × Obj)} {σ : St} {H H' : Hp} {s : Shared} {b : Addr} (I : Inv X pins σ H s) (hb : s.heap.objs.size ≤ b) (hn : H' b = none) : FpOk X pins H' b := by
  refine ⟨hn, Nat.ne_of_gt (Nat.lt_of_lt_of_le I.lt hb), I.nofs hb, .inr (Nat.le_trans I.sz hb), fun x c e z => ?_, fun p hp z => ?_⟩
  · obtain ⟨v, q⟩ := I.cell x c e
    exact absurd (Nat.lt_of_lt_of_le q.lt (by rw [z]; exact hb)) (Nat.lt_irrefl _)
  · exact absurd (Nat.lt_of_lt_of_le (Heap.lt_size (I.pin p hp).1) (by rw [z]; exact hb)) (Nat.lt_irrefl _)
structure Turn (P : Program) (w : World) (K : PySem.W.Frag) (tg : Expr) (J : It) (fp : List Addr) (it : Addr) (tn : Nat → Heap → Prop) : Prop where
  mem : it ∈ fp
  obj : ∀ i h, tn i h → ∀ b ∈ fp, ∃ o, h.get? b = some o ∧ ∀ v, o.data ≠ .cell v
  keep : ∀ i h h', tn i h → (∀ b ∈ fp, ∀ o, h.get? b = some o → h'.get? b = some o) → tn i h'
  item : ∀ (X : Cx), X.prog = P → X.w = w → X.K = K → X.calm = true → ∀ (i : Nat) (pins : List (Addr × Obj)) (s : Shared) (σ : St) (H : Hp) (E : Value → Shared → Prop), Inv X pins σ H s → (∀ b ∈ fp, FpOk X pins H b) → tn i s.heap → J.go i H →
    wpAny (model P w) X.A (pyNext (.ref it)) (fun r s1 => ∃ u, r = some u ∧
      wpAny (model P w) X.A (letOwnedTupleGo tg (.ref it) u) (fun _ s2 => ∃ x H', Inv X pins σ H' s2 ∧ RelV x u ∧ J.yld i H x H' ∧ tn (i + 1) s2.heap ∧ ∀ b ∈ fp, H' b = none) E s1) E s
  done : ∀ (X : Cx), X.prog = P → X.w = w → X.K = K → X.calm = true → ∀ (i : Nat) (pins : List (Addr × Obj)) (s : Shared) (σ : St) (H : Hp) (E : Value → Shared → Prop), Inv X pins σ H s → (∀ b ∈ fp, FpOk X pins H b) → tn i s.heap → J.stop i H →
    wpAny (model P w) X.A (pyNext (.ref it)) (fun r s1 => r = none ∧ Inv X pins σ H s1) E s
  self : ∀ (A : Around) (i : Nat) (s : Shared) (Q : Value → Shared → Prop) (E : Value → Shared → Prop), tn i s.heap → Q (.ref it) s → wpAny (model P w) A (pyIter (.ref it)) Q E s
abbrev TI := St → Hp → (It → Hp → Prop) → Prop
/-- an iterator has come -/
def PIE (X : Cx) (pins : List (Addr × Obj)) (σ : St) (tg : Expr) (R : It → Hp → Prop) (itv : Value) (s2 : Shared) : Prop :=
  ∃ (it : Addr) (fp : List Addr) (tn : Nat → Heap → Prop) (J : It) (H' : Hp), itv = .ref it ∧ Inv X pins σ H' s2 ∧ Turn X.prog X.w X.K tg J fp it tn ∧ tn 0 s2.heap ∧ (∀ b ∈ fp, FpOk X pins H' b) ∧ R J H'
def PI (X : Cx) (tg iter : Expr) (wi : TI) : Prop :=
  ∀ (pins : List (Addr × Obj)) (s : Shared) (σ : St) (H : Hp) (R : It → Hp → Prop), Inv X pins σ H s → wi σ H R →
    wpAny (model X.prog X.w) X.A (eval iter X.env) (fun v s1 => wpAny (model X.prog X.w) X.A (pyIter v) (PIE X pins σ tg R) X.xe s1) X.xe s
/-- the step ahead of the store is nothing for an iterator that keeps no tuple -/
theorem go_of {M : Model} {A : Around} {E : Value → Shared → Prop} {s : Shared} {tg : Expr} {it : Addr} {u : Value} {o : Obj} {n : String} {vs : Array Value} {Q : Unit → Shared → Prop} (ho : s.heap.get? it = some o) (hc : o.cls = .type n) (hd : o.data = .fields vs)
    (hn : ["enumerate", "zip", "dict_itemiterator", "dict_reverseitemiterator", "odict_iterator", "itertools.zip_longest", "itertools.pairwise"].contains n = false) (hQ : Q () s) : wpAny M A (letOwnedTupleGo tg (.ref it) u) Q E s := by
  unfold letOwnedTupleGo
  cases tg <;> first
    | exact wpAny_pure hQ
    | (cases u <;> first
        | exact wpAny_pure hQ
        | (refine wpAny_bind (wpAny_load ho ?_)
           rw [hc, hd]
           show wpAny M A (if (["enumerate", "zip", "dict_itemiterator", "dict_reverseitemiterator", "odict_iterator", "itertools.zip_longest", "itertools.pairwise"].contains n && vs[0]? == some (rawInt _)) = true then _ else _) Q E s
           rw [if_neg (by intro h; rw [hn, Bool.false_and] at h; cases h)]
           exact wpAny_pure hQ))
/-- the list at a, as it stands at each turn (a loop may append to it) -/
def Itl (K : PySem.W.Frag) (a : Addr) : It :=
  ⟨fun i H => ∃ xs x, SqL K H a xs ∧ xs[i]? = some x, fun i H x H' => H' = H ∧ ∀ xs, SqL K H a xs → xs[i]? = some x, fun i H => ∃ xs, SqL K H a xs ∧ xs.length ≤ i⟩
/-- lo, lo + 1, .. (n of them) -/
def Itr (lo : Int) (n : Nat) : It := ⟨fun i _ => i < n, fun i H x H' => H' = H ∧ x = .int (lo + i), fun i _ => n ≤ i⟩
theorem turn_list {P : Program} {w : World} {K : PySem.W.Frag} {tg : Expr} (a it : Addr) : Turn P w K tg (Itl K a) [it] it (fun i h => h.IsListIter it a i) where
  mem := by simp
  obj := fun i h st b hb => by
    have e : b = it := by simpa using hb
    subst e
    obtain ⟨o, e, c, d⟩ := st
    exact ⟨o, e, fun v z => by rw [d] at z; cases z⟩
  keep := fun i h h' st k => st.at fun o e => k it (by simp) o e
  item := by
    intro X hP hw hK hc i pins s σ H E I hf st hg
    subst hP hw hK
    obtain ⟨xs, x, hq, hx⟩ := hg
    obtain ⟨its, rv, p, hz⟩ := I.list hq
    obtain ⟨u, hu, ru⟩ := rv.get hx
    obtain ⟨f0, f1, f2, f3, f4, f5⟩ := hf it (by simp)
    refine wpAny_pyNext_list_item st p.isList (x := u) (by simpa using hu) fun h' st' sb => ?_
    have I1 : Inv X pins σ H { s with heap := h' } := I.turned (t' := s.toks) (fun b o hb e => (sb.2 b hb).trans e) f0 f1 f3 f4 f5
    obtain ⟨o, e, c, d⟩ := id st'
    exact ⟨u, rfl, go_of (s := { s with heap := h' }) e c d (by decide) ⟨x, H, I1, ru, ⟨rfl, fun ys hy => by rw [I.list_inj hy hq]; exact hx⟩, st', fun b hb => (hf b hb).1⟩⟩
  done := by
    intro X hP hw hK hc i pins s σ H E I hf st hg
    subst hP hw hK
    obtain ⟨xs, hq, hx⟩ := hg
    obtain ⟨its, rv, p, hz⟩ := I.list hq
    obtain ⟨f0, f1, f2, f3, f4, f5⟩ := hf it (by simp)
    have hl := rv.length
    exact wpAny_pyNext_list_end (I.ok.hd hc) st p.isList (by simp; omega) fun h' eb => ⟨rfl, I.turned (t' := s.toks) (fun b o hb e => eb b o hb e) f0 f1 f3 f4 f5⟩
  self := fun _ _ _ _ _ st h => wpAny_pyIter_listiter st h
theorem turn_range {P : Program} {w : World} {K : PySem.W.Frag} {tg : Expr} (it : Addr) (lo : Int) (n : Nat) : Turn P w K tg (Itr lo n) [it] it (fun i h => IsRangeIter h it (lo + (i : Nat) * 1) ((n : Int) - (i : Nat)) 1) where
  mem := by simp
  obj := fun i h st b hb => by
    have e : b = it := by simpa using hb
    subst e
    exact ⟨_, st, fun v z => by
      have z' : Data.fields _ = Data.cell v := z
      cases z'⟩
  keep := fun i h h' st k => k it (by simp) _ st
  item := by
    intro X hP hw hK hc i pins s σ H E I hf st hg
    subst hP hw hK
    obtain ⟨f0, f1, f2, f3, f4, f5⟩ := hf it (by simp)
    have W := Walks.range (prog := X.prog) (w := X.w) (I.ok.hd hc) it lo 1 n
    refine W.item i s _ _ hg st fun v h' tk hv st' kk => ?_
    obtain ⟨t, rfl⟩ := hv
    have I1 : Inv X pins σ H { s with heap := h', toks := tk } := I.turned (fun b o hb e => kk b o (by simpa using hb) e) f0 f1 f3 f4 f5
    refine ⟨_, rfl, go_of (s := { s with heap := h', toks := tk }) (n := "range_iterator") st' rfl rfl (by decide) ⟨.int (lo + i), H, I1, ⟨t, ?_⟩, ⟨rfl, rfl⟩, st', fun b hb => (hf b hb).1⟩⟩
    rw [Int.mul_one]
  done := by
    intro X hP hw hK hc i pins s σ H E I hf st hg
    subst hP hw hK
    obtain ⟨f0, f1, f2, f3, f4, f5⟩ := hf it (by simp)
    exact wpAny_pyNext_range_end (I.ok.hd hc) st (by have : n ≤ i := hg; omega) fun h' eb => ⟨rfl, I.turned (t' := s.toks) (fun b o hb e => eb b o hb e) f0 f1 f3 f4 f5⟩
  self := fun _ _ _ _ _ st h => wpAny_pyIter_rangeiter st h
end L2
namespace L2
open PySem PySem.Spec PyProof.Rows
section
variable {X : Cx} {tg : Expr}
def iList (K : PySem.W.Frag) (tl : TE) : TI := fun σ H R => tl σ H fun x H1 => ∃ a, x = .ref a ∧ (∃ xs, SqL K H1 a xs) ∧ R (Itl K a) H1
theorem pi_list {l : Expr} {tl : TE} (hl : PE X l tl) : PI X tg l (iList X.K tl) := by
  intro pins s σ H R I h
  refine thn (hl pins s σ H _ I h) fun v s1 ⟨x, H1, I1, r1, q1⟩ => ?_
  obtain ⟨a, e, ⟨xs, hq⟩, q⟩ := q1
  subst e
  cases r1
  obtain ⟨its, rv, p, hz⟩ := I1.list hq
  refine wpAny_pyIter_list p.isList ?_
  refine ⟨s1.heap.objs.size, [s1.heap.objs.size], _, _, H1, rfl, I1.kept (t' := s1.toks) fun b o e => Heap.get?_push_of_some _ e, turn_list a _, ⟨_, Heap.get?_push_size _ rfl, rfl, rfl⟩, fun b hb => ?_, q⟩
  have e : b = s1.heap.objs.size := by simpa using hb
  subst e
  exact I1.fpOk (Nat.le_refl _) (I1.hok.fresh (Nat.le_refl _))
/-- a range object just made, walked -/
theorem range_it {pins : List (Addr × Obj)} {σ : St} {H : Hp} {s : Shared} {R : It → Hp → Prop} {E : Value → Shared → Prop} {lo hi : Int} {t u v : Tok} {tk : Nat} (I : Inv X pins σ H s) (h1 : -(2 ^ 62) ≤ lo) (h2 : lo < 2 ^ 62) (h3 : -(2 ^ 62) ≤ hi) (h4 : hi < 2 ^ 62)
    (q : R (Itr lo (hi - lo).toNat) H) : wpAny (model X.prog X.w) X.A (pyIter (.ref s.heap.objs.size)) (PIE X pins σ tg R) E { s with heap := s.heap.push { cls := .type "range", data := .fields #[.int lo t, .int hi u, .int 1 v] }, toks := tk } := by
  refine wpAny_pyIter_range (IsRange.new ..) (small_one h1 h2 h3 h4) ?_
  have I1 : Inv X pins σ H { s with heap := s.heap.push { cls := .type "range", data := .fields #[.int lo t, .int hi u, .int 1 v] }, toks := tk } := I.kept fun b o e => Heap.get?_push_of_some _ e
  refine ⟨(s.heap.push { cls := .type "range", data := .fields #[.int lo t, .int hi u, .int 1 v] }).objs.size, [(s.heap.push { cls := .type "range", data := .fields #[.int lo t, .int hi u, .int 1 v] }).objs.size], _, _, H, rfl,
    I1.kept (t' := tk) fun b o e => Heap.get?_push_of_some _ e, turn_range _ lo (hi - lo).toNat, ?_, fun b hb => ?_, q⟩
  · have e1 : lo + ((0 : Nat) : Int) * 1 = lo := by simp
    have e2 : (((hi - lo).toNat : Nat) : Int) - ((0 : Nat) : Int) = Builtin.Range.rangeSize lo hi 1 := by rw [rangeSize_one]; split <;> omega
    show IsRangeIter _ _ (lo + ((0 : Nat) : Int) * 1) ((((hi - lo).toNat : Nat) : Int) - ((0 : Nat) : Int)) 1
    rw [e1, e2]
    exact Heap.get?_push_size _ rfl
  · have e : b = (s.heap.push { cls := .type "range", data := .fields #[.int lo t, .int hi u, .int 1 v] }).objs.size := by simpa using hb
    subst e
    exact I1.fpOk (Nat.le_refl _) (I1.hok.fresh (Nat.le_refl _))
def iRng1 (ta : TA) : TI := fun σ H R => ta σ H fun vs H1 => ∃ j : Int, vs = [.int j] ∧ -(2 ^ 62) ≤ j ∧ j < 2 ^ 62 ∧ R (Itr 0 j.toNat) H1
theorem pi_range1 {a : Expr} {ta : TA} {p pos : Pos} (hg : Gl X "range") (hm : X.mg "range" = none) (ha : PA X [a] ta) (hs : starEach [a] X.env = [(false, eval a X.env)] := by rfl) : PI X tg (.Call (.Name "range" p) [a] [] pos) (iRng1 ta) := by
  intro pins s σ H R I h
  refine Call_ (ld_blt I hg hm boot_range (PyProof.Rows.callWith_type1 (thn (ha pos pins s σ H _ I h) fun us s1 ⟨vs, H1, I1, r1, q1⟩ => ?_) hs rfl))
  obtain ⟨j, e, q1, q2, q⟩ := q1
  subst e
  cases r1 with
  | cons r rr =>
    cases rr
    obtain ⟨t, rfl⟩ := r
    exact call_range_1 (range_it I1 (by omega) (by omega) q1 q2 (by simpa using q))
/-- W: the invariant by the turn and a measure; N: what the body is to reach -/
def tFor (wi : TI) (g : TG) (tb : TS) : TS := fun D σ H => wi σ H fun J H1 => ∃ W : Nat → Nat → St → Hp → Prop, (∃ m, W 0 m σ H1) ∧ ∀ i m σ H, W i m σ H →
  (J.stop i H ∧ D.nx σ H) ∨ (J.go i H ∧ ∃ N : St → Hp → Prop, (∀ σ' H', N σ' H' → ∃ m', m' < m ∧ W (i + 1) m' σ' H') ∧ ∀ x H', J.yld i H x H' → g x σ H' fun σ2 H2 => tb { D with nx := N, ct := N, bk := D.nx } σ2 H2)
/-- the records at fp as they stand -/
def pinsAt (fp : List Addr) (h : Heap) : List (Addr × Obj) := fp.filterMap fun b => (h.get? b).map fun o => (b, o)
theorem mem_pinsAt {fp : List Addr} {h : Heap} {b : Addr} {o : Obj} (hb : b ∈ fp) (e : h.get? b = some o) : (b, o) ∈ pinsAt fp h := List.mem_filterMap.mpr ⟨b, hb, by rw [e]; rfl⟩
theorem of_pinsAt {fp : List Addr} {h : Heap} {p : Addr × Obj} (hp : p ∈ pinsAt fp h) : p.1 ∈ fp ∧ h.get? p.1 = some p.2 := by
  obtain ⟨b, hb, e⟩ := List.mem_filterMap.mp hp
  cases q : h.get? b with
  | none => rw [q] at e; cases e
  | some o =>
    rw [q] at e
    have e' : (b, o) = p := Option.some.inj e
    subst e'
    exact ⟨hb, q⟩
theorem Inv.pinned {pins : List (Addr × Obj)} {σ : St} {H : Hp} {s : Shared} {fp : List Addr} (I : Inv X pins σ H s) (hf : ∀ b ∈ fp, FpOk X pins H b) (ho : ∀ b ∈ fp, ∃ o, s.heap.get? b = some o ∧ ∀ v, o.data ≠ .cell v) : Inv X (pins ++ pinsAt fp s.heap) σ H s :=
  I.pins_of fun p hp => (List.mem_append.mp hp).elim (fun z => I.pin p (List.mem_append_right _ z)) fun z => by
    obtain ⟨hb, e⟩ := of_pinsAt z
    obtain ⟨f0, f1, f2, _⟩ := hf p.1 hb
    obtain ⟨o, e', d⟩ := ho p.1 hb
    rw [e] at e'; cases e'
    exact ⟨e, f0, f1, f2, d⟩
theorem Inv.unpinned {pins pl : List (Addr × Obj)} {σ : St} {H : Hp} {s : Shared} (I : Inv X (pins ++ pl) σ H s) : Inv X pins σ H s := I.pins_of fun p hp => I.pin p (List.mem_append_right _ (List.mem_append_left _ hp))
theorem ps_for {iter : Expr} {body : List Stmt} {wi : TI} {g : TG} {tb : TS} {pos : Pos} (hp : PassesOwn (model X.prog X.w) X.A X.env X.xe) (hc : X.calm = true) (hi : PI X tg iter wi) (hg : PG X tg g) (hb : PSs X body tb)
    (hs : ∀ x, foldedSetIterable iter X.env x = pure x := by intro _; rfl) : PS X (.For tg iter body [] pos) (tFor wi g tb) := by
  intro pins s σ H D I h
  refine wpAny_For (thn (hi pins s σ H _ I h) fun v s1 h1 => thn h1 fun itv s2 h2 => ?_) hs
  obtain ⟨it, fp, tn, J, H2, e, I2, T, st2, f2, W, ⟨m0, w0⟩, turn⟩ := h2
  subst e
  -- what stays true of the iterator's objects through the loop
  have stat : ∀ {H' : Hp}, (∀ b ∈ fp, H' b = none) → ∀ b ∈ fp, FpOk X pins H' b := fun hn b hb => ⟨hn b hb, (f2 b hb).2⟩
  refine codeAny_forLoop_any (fun n s' => ∃ i σ' H', Inv X pins σ' H' s' ∧ tn i s'.heap ∧ (∀ b ∈ fp, H' b = none) ∧ W i n σ' H') ?_ m0 ⟨0, σ, H2, I2, st2, fun b hb => (f2 b hb).1, w0⟩
  rintro n s3 ⟨i, σ3, H3, I3, st3, fr3, w3⟩
  rcases turn i n σ3 H3 w3 with ⟨stop, qn⟩ | ⟨go, N, hN, step⟩
  · refine wpAny_passesOwn hp (thn (T.done X rfl rfl rfl hc i pins s3 σ3 H3 X.xe I3 (stat fr3) st3 stop) fun r s4 ⟨hr, I4⟩ => ?_)
    subst hr
    exact wpAny_execs_nil ⟨σ3, H3, I4, qn⟩
  · refine wpAny_passesOwn hp (thn (T.item X rfl rfl rfl hc i pins s3 σ3 H3 X.xe I3 (stat fr3) st3 go) fun r s4 ⟨u, hr, h4⟩ => ?_)
    subst hr
    refine wpAny_passesOwn hp (thn h4 fun _ s5 ⟨x, H5, I5, r5, y5, st5, fr5⟩ => ?_)
    have I5' := I5.pinned (stat fr5) (T.obj _ _ st5)
    refine wpAny_passesOwn hp (thn (hg _ s5 σ3 H5 x u _ I5' r5 (step x H5 y5)) fun _ s6 ⟨σ6, H6, I6, q6⟩ => ?_)
    refine wpAny_passesOwn hp (thn (hb _ s6 σ6 H6 _ I6 q6) fun f s7 q7 => ?_)
    have again : ∀ {σ7 : St} {H7 : Hp}, Inv X (pins ++ pinsAt fp s5.heap) σ7 H7 s7 → N σ7 H7 → ∃ m, m < n ∧ ∃ i σ' H', Inv X pins σ' H' s7 ∧ tn i s7.heap ∧ (∀ b ∈ fp, H' b = none) ∧ W i m σ' H' := fun {σ7 H7} I7 n7 => by
      obtain ⟨m', hm, w7⟩ := hN σ7 H7 n7
      refine ⟨m', hm, i + 1, σ7, H7, I7.unpinned, T.keep _ _ _ st5 fun b hb o e => (I7.pin (b, o) (List.mem_append_right _ (List.mem_append_right _ (mem_pinsAt hb e)))).1, fun b hb => ?_, w7⟩
      obtain ⟨o, e, d⟩ := T.obj _ _ st5 b hb
      exact (I7.pin (b, o) (List.mem_append_right _ (List.mem_append_right _ (mem_pinsAt hb e)))).2.1
    cases f with
    | next => obtain ⟨σ7, H7, I7, n7⟩ := q7; exact again I7 n7
    | cont => obtain ⟨σ7, H7, I7, n7⟩ := q7; exact again I7 n7
    | brk => obtain ⟨σ7, H7, I7, q7⟩ := q7; exact ⟨σ7, H7, I7.unpinned, q7⟩
    | ret v => obtain ⟨x7, σ7, H7, I7, r7, q7⟩ := q7; exact ⟨x7, σ7, H7, I7.unpinned, r7, q7⟩
end
/-- over a list that the body leaves as it is -/
theorem for_list {K : PySem.W.Frag} {a : Addr} {xs : List V} {g : TG} {tb : TS} {D : Ends} {σ : St} {H : Hp} (Pv : Nat → St → Hp → Prop) (h0 : Pv 0 σ H) (hl : ∀ i σ H, i ≤ xs.length → Pv i σ H → SqL K H a xs)
    (hs : ∀ i x σ H, xs[i]? = some x → Pv i σ H → g x σ H fun σ2 H2 => tb { D with nx := Pv (i + 1), ct := Pv (i + 1), bk := D.nx } σ2 H2) (hd : ∀ σ H, Pv xs.length σ H → D.nx σ H) :
    ∃ W : Nat → Nat → St → Hp → Prop, (∃ m, W 0 m σ H) ∧ ∀ i m σ H, W i m σ H →
      ((Itl K a).stop i H ∧ D.nx σ H) ∨ ((Itl K a).go i H ∧ ∃ N : St → Hp → Prop, (∀ σ' H', N σ' H' → ∃ m', m' < m ∧ W (i + 1) m' σ' H') ∧ ∀ x H', (Itl K a).yld i H x H' → g x σ H' fun σ2 H2 => tb { D with nx := N, ct := N, bk := D.nx } σ2 H2) := by
  refine ⟨fun i m σ H => m = xs.length - i ∧ i ≤ xs.length ∧ Pv i σ H, ⟨xs.length, by simp, Nat.zero_le _, h0⟩, ?_⟩
  rintro i m σ H ⟨rfl, hi, p⟩
  have q := hl i σ H hi p
  by_cases hlt : i < xs.length
  · refine .inr ⟨⟨xs, xs[i], q, by simp [hlt]⟩, Pv (i + 1), fun σ' H' p' => ⟨xs.length - (i + 1), by omega, rfl, hlt, p'⟩, fun x H' y => ?_⟩
    obtain ⟨e, y⟩ := y
    subst e
    exact hs i x σ _ (y xs q) p
  · have e : i = xs.length := by omega
    subst e
    exact .inl ⟨⟨xs, q, Nat.le_refl _⟩, hd σ H p⟩
theorem for_range {lo : Int} {n : Nat} {g : TG} {tb : TS} {D : Ends} {σ : St} {H : Hp} (Pv : Nat → St → Hp → Prop) (h0 : Pv 0 σ H)
    (hs : ∀ i σ H, i < n → Pv i σ H → g (.int (lo + i)) σ H fun σ2 H2 => tb { D with nx := Pv (i + 1), ct := Pv (i + 1), bk := D.nx } σ2 H2) (hd : ∀ σ H, Pv n σ H → D.nx σ H) :
    ∃ W : Nat → Nat → St → Hp → Prop, (∃ m, W 0 m σ H) ∧ ∀ i m σ H, W i m σ H →
      ((Itr lo n).stop i H ∧ D.nx σ H) ∨ ((Itr lo n).go i H ∧ ∃ N : St → Hp → Prop, (∀ σ' H', N σ' H' → ∃ m', m' < m ∧ W (i + 1) m' σ' H') ∧ ∀ x H', (Itr lo n).yld i H x H' → g x σ H' fun σ2 H2 => tb { D with nx := N, ct := N, bk := D.nx } σ2 H2) := by
  refine ⟨fun i m σ H => m = n - i ∧ i ≤ n ∧ Pv i σ H, ⟨n, by simp, Nat.zero_le _, h0⟩, ?_⟩
  rintro i m σ H ⟨rfl, hi, p⟩
  by_cases hlt : i < n
  · refine .inr ⟨hlt, Pv (i + 1), fun σ' H' p' => ⟨n - (i + 1), by omega, rfl, hlt, p'⟩, fun x H' y => ?_⟩
    obtain ⟨e, y⟩ := y
    subst e y
    exact hs i σ _ hlt p
  · have e : i = n := by omega
    subst e
    exact .inl ⟨Nat.le_refl _, hd σ H p⟩
/-- while, by a word and a measure of the state -/
theorem while_by {c : TT} {tb : TS} {D : Ends} {σ : St} {H : Hp} (Pv : St → Hp → Prop) (μ : St → Hp → Nat) (h0 : Pv σ H)
    (hs : ∀ σ H, Pv σ H → c σ H fun b H1 => if b = true then tb { D with nx := fun σ' H' => Pv σ' H' ∧ μ σ' H' < μ σ H, ct := fun σ' H' => Pv σ' H' ∧ μ σ' H' < μ σ H, bk := D.nx } σ H1 else D.nx σ H1)
    (mono : ∀ σ H Q Q', (∀ b H1, Q b H1 → Q' b H1) → c σ H Q → c σ H Q') : tWhile c tb D σ H := by
  refine ⟨fun m σ H => m = μ σ H ∧ Pv σ H, ⟨_, rfl, h0⟩, ?_⟩
  rintro m σ H ⟨rfl, p⟩
  refine mono σ H _ _ (fun b H1 q => ?_) (hs σ H p)
  cases b with
  | true => exact ⟨_, fun σ' H' ⟨p', l⟩ => ⟨_, l, rfl, p'⟩, q⟩
  | false => exact q
end L2
namespace L2
open PySem PySem.Spec PyProof.Rows
abbrev R2 := V → V → Hp → VK → Prop
/-- a two-place operation on values: f is binaryOp op, inplaceOp op or compareOp op -/
def OpR (X : Cx) (f : Value → Value → Sem Value) (r : R2) : Prop :=
  ∀ (pins : List (Addr × Obj)) (s : Shared) (σ : St) (H : Hp) (x y : V) (v u : Value) (Q : VK), Inv X pins σ H s → RelV x v → RelV y u → r x y H Q →
    wpAny (model X.prog X.w) X.A (f v u) (EP X pins σ Q) X.xe s
/-- a one-place operation -/
def UnR (X : Cx) (f : Value → Sem Value) (r : V → Hp → VK → Prop) : Prop :=
  ∀ (pins : List (Addr × Obj)) (s : Shared) (σ : St) (H : Hp) (x : V) (v : Value) (Q : VK), Inv X pins σ H s → RelV x v → r x H Q →
    wpAny (model X.prog X.w) X.A (f v) (EP X pins σ Q) X.xe s
/-- a call of a value that is known (a builtin, a type) with values -/
def CallR (X : Cx) (f : Value) (r : List V → Hp → VK → Prop) : Prop :=
  ∀ (pins : List (Addr × Obj)) (s : Shared) (σ : St) (H : Hp) (xs : List V) (us : List Value) (Q : VK), Inv X pins σ H s → Vals xs us → r xs H Q →
    wpAny (model X.prog X.w) X.A (call f us) (EP X pins σ Q) X.xe s
/-- a value's truth -/
def TruR (X : Cx) (r : V → Hp → (Bool → Hp → Prop) → Prop) : Prop :=
  ∀ (pins : List (Addr × Obj)) (s : Shared) (σ : St) (H : Hp) (x : V) (v : Value) (Q : Bool → Hp → Prop), Inv X pins σ H s → RelV x v → r x H Q →
    wpAny (model X.prog X.w) X.A (truthy v) (TP X pins σ Q) X.xe s
def tOp (r : R2) (ta tb : TE) : TE := fun σ H Q => ta σ H fun x H1 => tb σ H1 fun y H2 => r x y H2 Q
def tUn (r : V → Hp → VK → Prop) (ta : TE) : TE := fun σ H Q => ta σ H fun x H1 => r x H1 Q
/-- ints in, under C, and a value out -/
def rI (C : Int → Int → Prop) (g : Int → Int → V) : R2 := fun x y H Q => ∃ i j, x = .int i ∧ y = .int j ∧ C i j ∧ Q (g i j) H
def rI0 (g : Int → Int → V) : R2 := fun x y H Q => ∃ i j, x = .int i ∧ y = .int j ∧ Q (g i j) H
def rU (g : Int → V) : V → Hp → VK → Prop := fun x H Q => ∃ i, x = .int i ∧ Q (g i) H
section
variable {X : Cx} {a b c : Expr} {ta tb tc : TE} {pos : Pos}
theorem binT (ha : PE X a ta) (hb : PE X b tb) {pins : List (Addr × Obj)} {s : Shared} {σ : St} {H : Hp} {R : V → V → Hp → Prop} (I : Inv X pins σ H s)
    (h : ta σ H fun x H1 => tb σ H1 fun y H2 => R x y H2) {Q : Value → Shared → Prop} {f : Value → Value → Sem Value}
    (hf : ∀ v u s2 x y H2, Inv X pins σ H2 s2 → RelV x v → RelV y u → R x y H2 → wpAny (model X.prog X.w) X.A (f v u) Q X.xe s2) :
    wpAny (model X.prog X.w) X.A (eval a X.env) (fun v s₁ => wpAny (model X.prog X.w) X.A (eval b X.env) (fun u s₂ => wpAny (model X.prog X.w) X.A (f v u) Q X.xe s₂) X.xe s₁) X.xe s := by
  refine thn (ha pins s σ H _ I h) fun v s1 ⟨x, H1, I1, r1, q1⟩ => ?_
  refine thn (hb pins s1 σ H1 _ I1 q1) fun u s2 ⟨y, H2, I2, r2, q2⟩ => ?_
  exact hf v u s2 x y H2 I2 r1 r2 q2
theorem pe_op {op : Operator} {r : R2} (ho : OpR X (binaryOp op) r) (ha : PE X a ta) (hb : PE X b tb) : PE X (.BinOp a op b pos) (tOp r ta tb) := by
  intro pins s σ H Q I h
  exact wpAny_BinOp (binT ha hb I h fun v u s2 x y H2 I2 rx ry q => ho pins s2 σ H2 x y v u Q I2 rx ry q)
theorem pe_un {op : UnaryOp} {r : V → Hp → VK → Prop} (ho : UnR X (unaryOp op) r) (ha : PE X a ta) : PE X (.UnaryOp op a pos) (tUn r ta) := by
  intro pins s σ H Q I h
  exact UnaryOp_ (thn (ha pins s σ H _ I h) fun v s1 ⟨x, H1, I1, r1, q1⟩ => ho pins s1 σ H1 x v Q I1 r1 q1)
theorem opI {f : Value → Value → Sem Value} {C : Int → Int → Prop} {g : Int → Int → Int}
    (rule : ∀ (i j : Int) (t u : Tok) (s : Shared) (Q : Value → Shared → Prop) (E : Value → Shared → Prop), C i j → Q (.int (g i j) s.toks) { s with toks := s.toks + 1 } → wpAny (model X.prog X.w) X.A (f (.int i t) (.int j u)) Q E s) :
    OpR X f (rI C fun i j => .int (g i j)) := by
  intro pins s σ H x y v u Q I rx ry h
  obtain ⟨i, j, rfl, rfl, hc, q⟩ := h
  obtain ⟨t, rfl⟩ := rx
  obtain ⟨t', rfl⟩ := ry
  exact rule i j t t' s _ _ hc ⟨.int (g i j), H, I.tok _, ⟨_, rfl⟩, q⟩
theorem opI0 {f : Value → Value → Sem Value} {g : Int → Int → Int}
    (rule : ∀ (i j : Int) (t u : Tok) (s : Shared) (Q : Value → Shared → Prop) (E : Value → Shared → Prop), Q (.int (g i j) s.toks) { s with toks := s.toks + 1 } → wpAny (model X.prog X.w) X.A (f (.int i t) (.int j u)) Q E s) :
    OpR X f (rI0 fun i j => .int (g i j)) := by
  intro pins s σ H x y v u Q I rx ry h
  obtain ⟨i, j, rfl, rfl, q⟩ := h
  obtain ⟨t, rfl⟩ := rx
  obtain ⟨t', rfl⟩ := ry
  exact rule i j t t' s _ _ ⟨.int (g i j), H, I.tok _, ⟨_, rfl⟩, q⟩
theorem opB0 {f : Value → Value → Sem Value} {g : Int → Int → Bool}
    (rule : ∀ (i j : Int) (t u : Tok) (s : Shared) (Q : Value → Shared → Prop) (E : Value → Shared → Prop), Q (.bool (g i j)) s → wpAny (model X.prog X.w) X.A (f (.int i t) (.int j u)) Q E s) :
    OpR X f (rI0 fun i j => .bl (g i j)) := by
  intro pins s σ H x y v u Q I rx ry h
  obtain ⟨i, j, rfl, rfl, q⟩ := h
  obtain ⟨t, rfl⟩ := rx
  obtain ⟨t', rfl⟩ := ry
  exact rule i j t t' s _ _ ⟨.bl (g i j), H, I, rfl, q⟩
def CDiv (i j : Int) : Prop := 0 < j ∧ j < 1073741824
def CPow (i j : Int) : Prop := 0 ≤ j ∧ j ≤ 1000000 ∧ i.natAbs < 2 ^ 64
def CMul (i j : Int) : Prop := (-(2 ^ 64) < i ∧ i < 2 ^ 64) ∨ (-(2 ^ 64) < j ∧ j < 2 ^ 64)
theorem CMul.ok {i j : Int} (h : CMul i j) : IntMulOk i j := by
  rcases h with ⟨h1, h2⟩ | ⟨h1, h2⟩
  · exact .of_left (intBits_le_64 h1 h2)
  · exact .of_right (intBits_le_64 h1 h2)
theorem two_pow_nn (k : Nat) : (0 : Int) ≤ 2 ^ k := by
  rw [two_pow_cast]
  exact Int.natCast_nonneg _
theorem op_add : OpR X (binaryOp .Add) (rI0 fun i j => .int (i + j)) := opI0 fun _ _ _ _ _ _ _ q => add_int q
theorem op_sub : OpR X (binaryOp .Sub) (rI0 fun i j => .int (i - j)) := opI0 fun _ _ _ _ _ _ _ q => sub_int q
theorem op_mul : OpR X (binaryOp .Mult) (rI CMul fun i j => .int (i * j)) := opI fun _ _ _ _ _ _ _ hc q => mul_int q hc.ok
/-- // by a positive divisor -/
theorem op_fdiv : OpR X (binaryOp .FloorDiv) (rI CDiv fun i j => .int (i / j)) := opI fun i j _ _ _ _ _ hc q => by
  have h1 : (0 : Int) < j := hc.1
  have h2 : j < 1073741824 := hc.2
  exact floordiv_int (by omega) (by rw [Int.fdiv_eq_ediv_of_nonneg i (by omega)]; exact q) (.inl (PyProof.noPylong_small (by omega)))
/-- % by a positive divisor of any size -/
theorem op_mod : OpR X (binaryOp .Mod) (rI (fun _ j => 0 < j) fun i j => .int (i % j)) := opI fun i j _ _ _ _ _ hc q => by
  have h1 : (0 : Int) < j := hc
  exact mod_int' (by omega) (by rw [Int.fmod_eq_emod_of_nonneg i (by omega)]; exact q)
theorem op_shl : OpR X (binaryOp .LShift) (rI CPow fun i j => .int (i * 2 ^ j.toNat)) := opI fun _ _ _ _ _ _ _ hc q => lshift_int_small hc.1 hc.2.1 hc.2.2 q
theorem op_shr : OpR X (binaryOp .RShift) (rI (fun _ j => 0 ≤ j) fun i j => .int (i / 2 ^ j.toNat)) := opI fun i j _ _ _ _ _ hc q =>
  rshift_int hc (by rw [Int.fdiv_eq_ediv_of_nonneg i (two_pow_nn _)]; exact q)
theorem unI {f : Value → Sem Value} {g : Int → Int}
    (rule : ∀ (i : Int) (t : Tok) (s : Shared) (Q : Value → Shared → Prop) (E : Value → Shared → Prop), Q (.int (g i) s.toks) { s with toks := s.toks + 1 } → wpAny (model X.prog X.w) X.A (f (.int i t)) Q E s) :
    UnR X f (rU fun i => .int (g i)) := by
  intro pins s σ H x v Q I rx h
  obtain ⟨i, rfl, q⟩ := h
  obtain ⟨t, rfl⟩ := rx
  exact rule i t s _ _ ⟨.int (g i), H, I.tok _, ⟨_, rfl⟩, q⟩
theorem un_neg : UnR X (unaryOp .USub) (rU fun i => .int (-i)) := unI fun _ _ _ _ _ q => neg_int q
end
/-- the scalars that == tells apart as data does -/
def scal : V → V → Bool
  | .non, .non => true | .non, .int _ => true | .int _, .non => true | .non, .bl _ => true | .bl _, .non => true | .non, .str _ => true | .str _, .non => true
  | .int _, .int _ => true | .bl _, .bl _ => true | .str _, .str _ => true | .byt _, .byt _ => true
  | .int _, .str _ => true | .str _, .int _ => true | .bl _, .str _ => true | .str _, .bl _ => true
  | _, _ => false
def rEq : R2 := fun x y H Q => scal x y = true ∧ Q (.bl (decide (x = y))) H
theorem dec_int {i j : Int} : decide (V.int i = V.int j) = (i == j) := by
  rw [Bool.eq_iff_iff]
  simp
theorem dec_bl {i j : Bool} : decide (V.bl i = V.bl j) = (i == j) := by
  rw [Bool.eq_iff_iff]
  simp
theorem dec_str {i j : Str} : decide (V.str i = V.str j) = (i == j) := by
  rw [Bool.eq_iff_iff]
  simp
theorem dec_byt {i j : Array UInt8} : decide (V.byt i = V.byt j) = (i.toList == j.toList) := by
  rw [Bool.eq_iff_iff]
  cases i
  cases j
  simp
section
variable {X : Cx} {a b c : Expr} {ta tb tc : TE} {pos : Pos}
theorem fin_bl {pins : List (Addr × Obj)} {σ : St} {H : Hp} {s : Shared} {Q : VK} {k k' : Bool} (I : Inv X pins σ H s) (q : Q (.bl k) H) (e : k = k') : EP X pins σ Q (.bool k') s := by
  subst e
  exact ⟨.bl k, H, I, rfl, q⟩
theorem op_eq : OpR X (compareOp .Eq) rEq := by
  intro pins s σ H x y v u Q I rx ry h
  obtain ⟨hs, q⟩ := h
  cases x with
  | non =>
    cases rx
    cases y with
    | non => cases ry; exact PySem.EqNone.eq_none_none (fin_bl I q (by simp))
    | bl j => cases ry; exact PySem.EqNone.eq_none_bool (fin_bl I q (by simp))
    | int j => obtain ⟨t', rfl⟩ := ry; exact PySem.EqNone.eq_none_int (fin_bl I q (by simp))
    | str j => obtain ⟨t', rfl⟩ := ry; exact PySem.EqNone.eq_none_str (fin_bl I q (by simp))
    | _ => exact absurd (show false = true from hs) Bool.false_ne_true
  | bl i =>
    cases rx
    cases y with
    | non => cases ry; exact PySem.EqNone.eq_bool_none (fin_bl I q (by simp))
    | bl j => cases ry; exact eq_bool (fin_bl I q dec_bl)
    | str j => obtain ⟨t', rfl⟩ := ry; exact PySem.EqMixed.eq_bool_str (fin_bl I q (by simp))
    | _ => exact absurd (show false = true from hs) Bool.false_ne_true
  | int i =>
    obtain ⟨t, rfl⟩ := rx
    cases y with
    | non => cases ry; exact PySem.EqNone.eq_int_none (fin_bl I q (by simp))
    | int j => obtain ⟨t', rfl⟩ := ry; exact eq_int (fin_bl I q dec_int)
    | str j => obtain ⟨t', rfl⟩ := ry; exact PySem.EqMixed.eq_int_str (fin_bl I q (by simp))
    | _ => exact absurd (show false = true from hs) Bool.false_ne_true
  | str i =>
    obtain ⟨t, rfl⟩ := rx
    cases y with
    | non => cases ry; exact PySem.EqNone.eq_str_none (fin_bl I q (by simp))
    | bl j => cases ry; exact PySem.EqMixed.eq_str_bool (fin_bl I q (by simp))
    | int j => obtain ⟨t', rfl⟩ := ry; exact PySem.EqMixed.eq_str_int (fin_bl I q (by simp))
    | str j => obtain ⟨t', rfl⟩ := ry; exact eq_str (fin_bl I q dec_str)
    | _ => exact absurd (show false = true from hs) Bool.false_ne_true
  | byt i =>
    obtain ⟨t, rfl⟩ := rx
    cases y with
    | byt j => obtain ⟨t', rfl⟩ := ry; exact PySem.W.eq_bytes (fin_bl I q dec_byt)
    | _ => exact absurd (show false = true from hs) Bool.false_ne_true
  | _ => cases y <;> exact absurd (show false = true from hs) Bool.false_ne_true
theorem op_lt : OpR X (compareOp .Lt) (rI0 fun i j => .bl (decide (i < j))) := opB0 fun _ _ _ _ _ _ _ q => lt_int q
theorem op_le : OpR X (compareOp .LtE) (rI0 fun i j => .bl (decide (i ≤ j))) := opB0 fun _ _ _ _ _ _ _ q => le_int q
theorem op_gt : OpR X (compareOp .Gt) (rI0 fun i j => .bl (decide (j < i))) := opB0 fun _ _ _ _ _ _ _ q => gt_int q
theorem op_ge : OpR X (compareOp .GtE) (rI0 fun i j => .bl (decide (j ≤ i))) := opB0 fun _ _ _ _ _ _ _ q => ge_int q
theorem nomark (b : Expr) {op : CmpOp} (h : op ≠ .In := by decide) (h2 : op ≠ .NotIn := by decide) : behindInMarks op b = false := by
  have e1 : (op == CmpOp.In) = false := by cases op <;> first | rfl | exact absurd rfl h
  have e2 : (op == CmpOp.NotIn) = false := by cases op <;> first | rfl | exact absurd rfl h2
  cases b <;> simp [behindInMarks, e1, e2]
/-- a comparison as a value; hm: nomark b, or (for in, not in) by with_unfolding_all rfl -/
theorem pe_cmpR {op : CmpOp} {r : R2} (ho : OpR X (compareOp op) r) (ha : PE X a ta) (hb : PE X b tb) (hm : behindInMarks op b = false) : PE X (.Compare a [op] [b] pos) (tOp r ta tb) := by
  intro pins s σ H Q I h
  exact wpAny_Compare1 (binT ha hb I h fun v u s2 x y H2 I2 rx ry q => ho pins s2 σ H2 x y v u Q I2 rx ry q) hm
/-- a reading of a value as a test -/
def tTest (t : TE) : TT := fun σ H Q => t σ H fun x H' => ∃ k, x = .bl k ∧ Q k H'
theorem pt_cmpR {op : CmpOp} {r : R2} (ho : OpR X (compareOp op) r) (ha : PE X a ta) (hb : PE X b tb) (hm : behindInMarks op b = false) : PT X (.Compare a [op] [b] pos) (tTest (tOp r ta tb)) := by
  intro pins s σ H Q I h
  refine wpAny_isTrue_Compare1 (thn (ha pins s σ H _ I h) fun v s1 ⟨x, H1, I1, r1, q1⟩ => thn (hb pins s1 σ H1 _ I1 q1) fun u s2 ⟨y, H2, I2, r2, q2⟩ =>
    thn (ho pins s2 σ H2 x y v u _ I2 r1 r2 q2) fun c s3 ⟨z, H3, I3, r3, k, e, q3⟩ => ?_) hm
  subst e
  cases r3
  exact wpAny_truthy_bool ⟨H3, I3, q3⟩
/-- a value's truth by the abstract heap -/
def TruV (K : PySem.W.Frag) (x : V) (H : Hp) (k : Bool) : Prop :=
  match x with
  | .non => k = false
  | .bl b => k = b
  | .int i => k = (i != 0)
  | .str y => y.length ≤ sizeLine ∧ k = ((y.length : Int) != 0)
  | .byt y => y.size ≤ sizeLine ∧ k = ((y.size : Int) != 0)
  | .ref p => (∃ xs, SqL K H p xs ∧ k = !xs.isEmpty) ∨ (∃ xs, SqT K H p xs ∧ k = !xs.isEmpty) ∨ ∃ kvs, H p = some (.dK kvs) ∧ k = !kvs.isEmpty
  | _ => False
theorem isEmpty_kv {κ : Type} {kvs : List (κ × V)} {vs : List (κ × Value)} (r : KV kvs vs) : (!vs.isEmpty) = !kvs.isEmpty := by
  cases r <;> rfl
theorem isEmpty_of {xs : List V} {its : List Value} (r : Vals xs its) : (!its.toArray.isEmpty) = !xs.isEmpty := by
  cases r <;> simp
theorem line63 : (sizeLine : Nat) < 2 ^ 63 := by rw [sizeLine_eq]; decide
theorem tru_ok : TruR X (fun x H Q => ∃ k, TruV X.K x H k ∧ Q k H) := by
  intro pins s σ H x v Q I rx h
  obtain ⟨k, e, q⟩ := h
  have hl := line63
  have hs : sizeLine = 16777216 := sizeLine_eq
  cases x with
  | non =>
    cases rx
    have e' : k = false := e
    subst e'
    exact truthy_none ⟨H, I, q⟩
  | bl b =>
    cases rx
    have e' : k = b := e
    subst e'
    exact wpAny_truthy_bool ⟨H, I, q⟩
  | int i =>
    obtain ⟨t, rfl⟩ := rx
    have e' : k = (i != 0) := e
    subst e'
    exact PySem.P.truthy_int ⟨H, I, q⟩
  | str y =>
    obtain ⟨t, rfl⟩ := rx
    obtain ⟨hy, e'⟩ : y.length ≤ sizeLine ∧ k = ((y.length : Int) != 0) := e
    subst e'
    exact PySem.P.truthy_str (by omega) ⟨H, I.tok _, q⟩
  | byt y =>
    obtain ⟨t, rfl⟩ := rx
    obtain ⟨hy, e'⟩ : y.size ≤ sizeLine ∧ k = ((y.size : Int) != 0) := e
    subst e'
    exact PySem.W.truthy_bytes (by omega) ⟨H, I.tok _, q⟩
  | ref p =>
    cases rx
    have e' : (∃ xs, SqL X.K H p xs ∧ k = !xs.isEmpty) ∨ (∃ xs, SqT X.K H p xs ∧ k = !xs.isEmpty) ∨ ∃ kvs, H p = some (.dK kvs) ∧ k = !kvs.isEmpty := e
    rcases e' with ⟨xs, hx, e'⟩ | ⟨xs, hx, e'⟩ | ⟨kvs, hx, e'⟩
    · subst e'
      obtain ⟨its, r, pl, hz⟩ := I.list hx
      have hlen := r.length
      exact wpAny_truthy_list pl.isList (by simp only [List.size_toArray]; omega) ⟨H, I.tok _, by rw [isEmpty_of r]; exact q⟩
    · subst e'
      obtain ⟨its, r, pl, hz⟩ := I.tuple hx
      have hlen := r.length
      exact truthy_tuple pl (by simp only [List.size_toArray]; omega) ⟨H, I.tok _, by rw [isEmpty_of r]; exact q⟩
    · subst e'
      obtain ⟨hz, hS, vs, r, m⟩ : kvs.length ≤ sizeLine ∧ (p == sysModules) = false ∧ ∃ vs, KV kvs vs ∧ s.heap.DictOf (mixKind X.prog X.w) p vs := I.hok p _ hx
      have hlen : kvs.length = vs.length := Paired.length r
      exact wpAny_truthy_dict hS m (by omega) ⟨H, I.tok _, by rw [isEmpty_kv r]; exact q⟩
  | _ => exact (show False from e).elim
/-- any expression whose test is its value's truth (a name, a call, a subscript, a field ..: he by fun _ => rfl) -/
theorem pt_truth (ha : PE X a ta) (he : ∀ whole, isTrue a X.env whole = (do let v ← whole; standAt a.pos; holding [v] (truthy v))) :
    PT X a (fun σ H Q => ta σ H fun x H' => ∃ k, TruV X.K x H' k ∧ Q k H') := by
  intro pins s σ H Q I h
  exact isTrue_plain (thn (ha pins s σ H _ I h) fun v s1 ⟨x, H1, I1, r1, q1⟩ => tru_ok pins s1 σ H1 x v Q I1 r1 q1) (he _)
theorem vals1 {x : V} {us : List Value} (r : Vals [x] us) : ∃ u, us = [u] ∧ RelV x u := by
  cases r with
  | cons r1 r2 => cases r2; exact ⟨_, rfl, r1⟩
theorem vals2 {x y : V} {us : List Value} (r : Vals [x, y] us) : ∃ u w', us = [u, w'] ∧ RelV x u ∧ RelV y w' := by
  cases r with
  | cons r1 r2 =>
    cases r2 with
    | cons r3 r4 => cases r4; exact ⟨_, _, rfl, r1, r3⟩
theorem call_min2 (hc : X.calm = true) : CallR X (.builtin "min") (fun xs H Q => ∃ i j, xs = [.int i, .int j] ∧ Q (.int (if j < i then j else i)) H) := by
  intro pins s σ H xs us Q I r h
  obtain ⟨i, j, rfl, q⟩ := h
  obtain ⟨u, w', rfl, ⟨t, rfl⟩, ⟨t', rfl⟩⟩ := vals2 r
  refine min_two_ints (I.ok.hd hc) fun h' tk k => ⟨_, H, I.kept k, ?_, q⟩
  by_cases hj : j < i
  · rw [if_pos hj, if_pos hj]; exact ⟨_, rfl⟩
  · rw [if_neg hj, if_neg hj]; exact ⟨_, rfl⟩
end
end L2
namespace L2
open PySem PySem.Spec PyProof.Rows
structure ObjM (h : Heap) (x dx C : Addr) (mA : Str → Option Value) : Prop where
  obj : h.get? x = some (PySem.W.instObj C dx)
  ns : h.Ns1 dx mA
  ne : dx ≠ x
theorem lookIn_ns {h : Heap} {dx : Addr} {mA : Str → Option Value} (n : h.Ns1 dx mA) : ∃ od, h.get? dx = some od ∧ ∀ name, PySem.W.lookIn name od = some (mA name) := by
  obtain ⟨o, es, ep, ho, hd, hk, _, hm⟩ := n
  refine ⟨o, ho, fun name => ?_⟩
  have e := hm name
  unfold nsFind findBy at e
  rw [← Array.find?_toList] at e
  unfold PySem.W.lookIn
  rw [hd]
  dsimp only
  split
  · rename_i y q
    rw [q] at e
    exact congrArg some e
  · rename_i q
    rw [q] at e
    have a : es.toList.any (·.refKey) = false := by
      rw [List.any_eq_false]
      intro y hy
      obtain ⟨z, t, hkey⟩ := hk y (Array.mem_toList_iff.mp hy)
      simp [DictEntry.refKey, hkey]
    have a' : ¬ es.toList.any (·.refKey) = true := by rw [a]; exact Bool.false_ne_true
    rw [if_neg a']
    exact congrArg some e
theorem ObjM.look {h : Heap} {x dx C : Addr} {mA : Str → Option Value} (I : ObjM h x dx C mA) : ∃ od, PySem.W.InstAt h x (PySem.W.instObj C dx) C (some od) ∧ ∀ name, PySem.W.lookIn name od = some (mA name) :=
  let ⟨od, ho, hl⟩ := lookIn_ns I.ns
  ⟨od, ⟨I.obj, rfl, rfl, ho⟩, hl⟩
section
variable {prog : Program} {w : World} {A : Around} {E : Value → Shared → Prop} {s : Shared} {K : PySem.W.Frag} {x dx C f : Addr} {mA : Str → Option Value} {name : Str} {v : Value}
theorem get_map {expr : Bool} {Q : Value → Shared → Prop} (X : K.In s.heap) (I : ObjM s.heap x dx C mA) (hg : PySem.W.plainGet K C name = true) (hh : PySem.W.hasDictIn K C = true)
    (ha : PySem.W.findIn K (.ref C) name = some none) (hv : mA name = some v) (hv' : PySem.W.handedIn v = true) (h : Q v { s with toks := s.toks + 1 }) :
    wpAny (model prog w) A (getAttr (.ref x) name expr) Q E s := by
  obtain ⟨od, J, hl⟩ := I.look
  exact PySem.W.get_value X J (PySem.W.plainGet_of hg).1 (PySem.W.findObj_own hh ha rfl (by rw [hl, hv])) hv' h
theorem get_meth {pl : Sem Bool} {Q : Value × List Value → Shared → Prop} (X : K.In s.heap) (I : ObjM s.heap x dx C mA) (hg : PySem.W.plainGet K C name = true)
    (hf : PySem.W.findIn K (.ref C) name = some (some (.ref f))) (ht : PySem.W.isFn K (.ref f) = true) (hv : mA name = none) (h : Q (.ref f, [.ref x]) s) :
    wpAny (model prog w) A (getMethod (.ref x) name pl) Q E s := by
  obtain ⟨od, J, hl⟩ := I.look
  exact PySem.W.method_fn X J (PySem.W.plainGet_of hg).1 (PySem.W.plainGet_of hg).2 hf (beq_iff_eq.mp ht) (by show (PySem.W.lookIn name od).map (·.isSome) = some false; rw [hl, hv]; rfl) h
theorem set_map {ns : List Str} {Q : Unit → Shared → Prop} (X : K.In s.heap) (I : ObjM s.heap x dx C mA)
    (hs : PySem.W.findIn K (.ref C) "__setattr__" = some (some (.builtin "object.__setattr__"))) (hp : PySem.W.plainOver K C = true) (ht : PySem.W.takerIn K C name = some none) (hh : PySem.W.hasDictIn K C = true)
    (hw : PySem.Within mA ns) (hsz : ns.length ≤ sizeLine)
    (h : ∀ h', ObjM h' x dx C (fun y => if y = name then some v else mA y) → Heap.SameBut dx s.heap h' → Q () { s with heap := h', toks := s.toks + 2 }) :
    wpAny (model prog w) A (setAttr (.ref x) name v) Q E s := by
  obtain ⟨od, J, hl⟩ := I.look
  refine PySem.W.set_plain X J hs (PySem.W.osa_open (s := { s with toks := s.toks + 1 }) (r := none) X J hp ht fun b => ?_)
  obtain ⟨cd, hc, hd'⟩ := PySem.W.any_some hh
  have hx : s.heap.get? x = some ⟨.ref C, some dx, .plain, #[]⟩ := I.obj
  refine wpAny_bind (wpAny_pure (wpAny_bind (wpAny_bind (wpAny_loadPart hx (wpAny_bind (PySem.W.Looks.here (s := { s with toks := s.toks + 1 }) (PySem.W.looks_clsIn X hc) ?_))))))
  rw [hd']
  refine wpAny_pure (a := some dx) (wpAny_bind (wpAny_pure (wpAny_bind ?_)))
  refine wpAny_nsSet1 (s := { s with toks := s.toks + 1 }) I.ns fun h' hn2 hs2 => ?_
  obtain ⟨oD, esD, epD, hoD, hdD, hcD⟩ := hn2.count (PySem.Within.cons name v hw)
  refine wpAny_bind (wpAny_lookBehind hoD (by rw [hdD]; exact pastItsLine_dict (Nat.le_trans hcD (by rw [List.length_cons]; omega))) ?_)
  exact wpAny_pure (h _ ⟨(hs2.2 _ (Ne.symm I.ne)).trans I.obj, hn2, I.ne⟩ hs2)
/-- C(..): the dict at the heap's end, the instance behind it; then its __init__ -/
theorem make_map {R : Result → Shared → Prop} {vs : List Value} {kw : List (Str × Value)} (X : K.In s.heap) (hm : PySem.W.makesIn K C = true)
    (hi : PySem.W.findIn K (.ref C) "__init__" = some (some (.ref f))) (hf : PySem.W.typeIn K (.ref f) = some (.type "function"))
    (h : codeAny (model prog w) (A.under (.builtin "type.__call__" ⟨.ref C :: vs, kw⟩)) (.call (.ref f) ⟨.ref (s.heap.objs.size + 1) :: vs, kw⟩) (PySem.W.InitBack (s.heap.objs.size + 1) R)
      { s with heap := (s.heap.push PySem.W.emptyDict).push (PySem.W.instObj C s.heap.objs.size) }) :
    codeAny (model prog w) A (.call (.ref C) ⟨vs, kw⟩) R s := by
  obtain ⟨hh, g, d, t, os⟩ := s
  exact PySem.W.make_core (PySem.W.makes_of X hm) (PySem.W.looks_findIn X hi) (fun self => PySem.W.bind_fn X self hf) (.inl rfl) h
end
def putF (f : Str) (v : V) : List (Str × V) → List (Str × V)
  | [] => [(f, v)]
  | (g, x) :: r => if g = f then (g, v) :: r else (g, x) :: putF f v r
theorem lookup_putF (f g : Str) (v : V) : ∀ fs : List (Str × V), (putF f v fs).lookup g = if g = f then some v else fs.lookup g
  | [] => by
    show List.lookup g [(f, v)] = _
    by_cases h : g = f
    · have hb : (g == f) = true := beq_iff_eq.mpr h
      simp only [List.lookup, hb, if_pos h]
    · have hb : (g == f) = false := beq_eq_false_iff_ne.mpr h
      simp only [List.lookup, hb, if_neg h]
  | (k, x) :: r => by
    have ih := lookup_putF f g v r
    rw [show putF f v ((k, x) :: r) = (if k = f then (k, v) :: r else (k, x) :: putF f v r) from rfl]
    by_cases hk : k = f
    · rw [if_pos hk]
      by_cases h : g = k
      · have hb : (g == k) = true := beq_iff_eq.mpr h
        simp only [List.lookup, hb, if_pos (h.trans hk)]
      · have hb : (g == k) = false := beq_eq_false_iff_ne.mpr h
        simp only [List.lookup, hb, if_neg (fun e : g = f => h (e.trans hk.symm))]
    · rw [if_neg hk]
      by_cases h : g = k
      · have hb : (g == k) = true := beq_iff_eq.mpr h
        simp only [List.lookup, hb, if_neg (fun e : g = f => hk (h.symm.trans e))]
      · have hb : (g == k) = false := beq_eq_false_iff_ne.mpr h
        simp only [List.lookup, hb]
        exact ih
theorem keys_putF (f : Str) (v : V) : ∀ fs : List (Str × V), f ∈ (putF f v fs).map (·.1) ∧ ∀ g, g ∈ fs.map (·.1) → g ∈ (putF f v fs).map (·.1)
  | [] => ⟨by simp [putF], fun g h => by simp at h⟩
  | (k, x) :: r => by
    obtain ⟨i1, i2⟩ := keys_putF f v r
    rw [show putF f v ((k, x) :: r) = (if k = f then (k, v) :: r else (k, x) :: putF f v r) from rfl]
    by_cases hk : k = f
    · rw [if_pos hk]
      subst hk
      exact ⟨by simp, fun g h => by simpa using h⟩
    · rw [if_neg hk]
      refine ⟨?_, fun g h => ?_⟩
      · rw [List.map_cons]
        exact List.mem_cons_of_mem _ i1
      · rw [List.map_cons] at h ⊢
        rcases List.mem_cons.mp h with e | e
        · exact List.mem_cons.mpr (.inl e)
        · exact List.mem_cons_of_mem _ (i2 g e)
theorem length_putF (f : Str) (v : V) : ∀ fs : List (Str × V), (putF f v fs).length ≤ fs.length + 1
  | [] => by simp [putF]
  | (k, x) :: r => by
    have ih := length_putF f v r
    rw [show putF f v ((k, x) :: r) = (if k = f then (k, v) :: r else (k, x) :: putF f v r) from rfl]
    by_cases hk : k = f
    · rw [if_pos hk, List.length_cons, List.length_cons]; omega
    · rw [if_neg hk, List.length_cons, List.length_cons]; omega
theorem RelO.some_of {v : V} {o : Option Value} (r : RelO (some v) o) : ∃ u, o = some u ∧ RelV v u := by
  cases o with
  | none => exact (show False from r).elim
  | some u => exact ⟨u, rfl, r⟩
theorem RelO.none_of {o : Option Value} (r : RelO none o) : o = none := by
  cases o with
  | none => rfl
  | some u => exact (show False from r).elim
theorem handed_of {v : V} {u : Value} (r : RelV v u) : PySem.W.handedIn u = true := by
  cases v with
  | non => cases (show u = Value.none from r); rfl
  | bl b => cases (show u = Value.bool b from r); rfl
  | int i => obtain ⟨t, e⟩ := (show ∃ t, u = Value.int i t from r); cases e; rfl
  | str x => obtain ⟨t, e⟩ := (show ∃ t, u = Value.str x t from r); cases e; rfl
  | byt b => obtain ⟨t, e⟩ := (show ∃ t, u = Value.bytes b t from r); cases e; rfl
  | flt b => obtain ⟨t, e⟩ := (show ∃ t, u = Value.float b t from r); cases e; rfl
  | ref a => cases (show u = Value.ref a from r); rfl
  | ty n => cases (show u = Value.type n from r); rfl
section
variable {P : Program} {w : World} {H H' : Hp} {h h' : Heap} {a C dx : Addr} {fs fs' : List (Str × V)}
theorem ins_get (hok : HOk P w H h) (e : H a = some (.ins C dx fs)) : ∃ mA, ObjM h a dx C mA ∧ (∀ f, RelO (fs.lookup f) (mA f)) ∧ PySem.Within mA (fs.map (·.1)) ∧ fs.length ≤ 1000 ∧ H dx = some (.own a) := by
  obtain ⟨d, z, ne, ob, mA, n, r, q⟩ := (show ObjOk P w H h a (.ins C dx fs) from hok a _ e)
  exact ⟨mA, ⟨ob, n, ne⟩, r, q, z, d⟩
end
structure Cls (K : PySem.W.Frag) (C : Addr) : Prop where
  pg : PySem.W.plainGet K C Str.empty = true
  hd : PySem.W.hasDictIn K C = true
  po : PySem.W.plainOver K C = true
  sa : PySem.W.findIn K (.ref C) "__setattr__" = some (some (.builtin "object.__setattr__"))
theorem Cls.get {K : PySem.W.Frag} {C : Addr} (c : Cls K C) (f : Str) : PySem.W.plainGet K C f = true := c.pg
/-- no class of it has the name -/
def NoAttr (K : PySem.W.Frag) (C : Addr) (f : Str) : Prop := PySem.W.findIn K (.ref C) f = some none
theorem NoAttr.taker {K : PySem.W.Frag} {C : Addr} {f : Str} (n : NoAttr K C f) : PySem.W.takerIn K C f = some none := by
  unfold PySem.W.takerIn
  rw [show PySem.W.findIn K (.ref C) f = some none from n]
  rfl
/-- a method: a plain def of the class or of one above it -/
structure Meth (K : PySem.W.Frag) (C : Addr) (m : Str) (f : Addr) : Prop where
  at_ : PySem.W.findIn K (.ref C) m = some (some (.ref f))
  fn : PySem.W.isFn K (.ref f) = true
  kp : PySem.W.keepIn K (.ref f) = true
section
variable {X : Cx} {pins : List (Addr × Obj)} {σ : St} {H : Hp} {s : Shared} {a C dx : Addr} {fs : List (Str × V)} {f : Str} {v : V} {A : Around} {E : Value → Shared → Prop}
theorem getattr_ok {b : Bool} {Q : Value → Shared → Prop} (I : Inv X pins σ H s) (e : H a = some (.ins C dx fs)) (c : Cls X.K C) (n : NoAttr X.K C f) (l : fs.lookup f = some v)
    (h : ∀ u s', Inv X pins σ H s' → RelV v u → Q u s') : wpAny (model X.prog X.w) A (getAttr (.ref a) f b) Q E s := by
  obtain ⟨mA, O, r, _, _, _⟩ := ins_get I.hok e
  obtain ⟨u, hu, ru⟩ := RelO.some_of (v := v) (o := mA f) (by rw [← l]; exact r f)
  exact get_map I.kIn O (c.get f) c.hd n hu (handed_of ru) (h u _ (I.tok _) ru)
theorem getmeth_ok {m : Str} {g : Addr} {pl : Sem Bool} {Q : Value × List Value → Shared → Prop} (I : Inv X pins σ H s) (e : H a = some (.ins C dx fs)) (c : Cls X.K C) (k : Meth X.K C m g) (l : fs.lookup m = none)
    (h : Q (.ref g, [.ref a]) s) : wpAny (model X.prog X.w) A (getMethod (.ref a) m pl) Q E s := by
  obtain ⟨mA, O, r, _, _, _⟩ := ins_get I.hok e
  have hn : mA m = none := RelO.none_of (by rw [← l]; exact r m)
  exact get_meth I.kIn O (c.get m) k.at_ k.fn hn h
theorem setattr_ok {y : V} {u : Value} {Q : Unit → Shared → Prop} (I : Inv X pins σ H s) (e : H a = some (.ins C dx fs)) (c : Cls X.K C) (n : NoAttr X.K C f) (hl : fs.length < 1000) (ry : RelV y u)
    (h : ∀ s', Inv X pins σ (upd H a (.ins C dx (putF f y fs))) s' → Q () s') : wpAny (model X.prog X.w) A (setAttr (.ref a) f u) Q E s := by
  obtain ⟨mA, O, r, wi, _, ho⟩ := ins_get I.hok e
  have hz : (fs.map (·.1)).length ≤ sizeLine := by rw [List.length_map, sizeLine_eq]; omega
  refine set_map I.kIn O c.sa c.po n.taker c.hd wi hz fun h' O' sb => h _ ?_
  have hd : ∃ o, h'.get? dx = some o := let ⟨o, _, _, e', _⟩ := O'.ns; ⟨o, e'⟩
  refine I.write (x := a) (e := dx) (by rw [e]; exact True.intro) (.inr ho) (fun b q hb z => (sb.2 b hb).trans z) hd ?_
  refine ⟨by rw [upd_ne O.ne]; exact ho, ?_, O.ne, O'.obj, _, O'.ns, fun g => ?_, fun g hg => ?_⟩
  · have := length_putF f y fs; omega
  · show RelO ((putF f y fs).lookup g) (if g = f then some u else mA g)
    rw [lookup_putF]
    by_cases q : g = f
    · rw [if_pos q, if_pos q]; exact ry
    · rw [if_neg q, if_neg q]; exact r g
  · by_cases q : g = f
    · rw [q]; exact (keys_putF f y fs).1
    · refine (keys_putF f y fs).2 g (wi g fun z => hg ?_)
      show (if g = f then some u else mA g) = none
      rw [if_neg q]; exact z
/-- a new instance, tracked, without attributes -/
theorem Inv.made (I : Inv X pins σ H s) : Inv X pins σ (upd (upd H s.heap.objs.size (.own (s.heap.objs.size + 1))) (s.heap.objs.size + 1) (.ins C s.heap.objs.size []))
    { s with heap := (s.heap.push PySem.W.emptyDict).push (PySem.W.instObj C s.heap.objs.size) } := by
  have e1 : (s.heap.push PySem.W.emptyDict).get? s.heap.objs.size = some PySem.W.emptyDict := Heap.get?_push_size s.heap rfl
  have e2 : ((s.heap.push PySem.W.emptyDict).push (PySem.W.instObj C s.heap.objs.size)).get? (s.heap.objs.size + 1) = some (PySem.W.instObj C s.heap.objs.size) := by
    have := Heap.get?_push_size (s.heap.push PySem.W.emptyDict) (o := PySem.W.instObj C s.heap.objs.size) rfl
    rwa [Heap.size_push] at this
  have e3 : (s.heap.push PySem.W.emptyDict).Ns s.heap.objs.size (fun _ => none) := ⟨PySem.W.emptyDict, #[], _, e1, rfl, (fun e he => absurd he (by simp)), fun _ => rfl⟩
  have I1 := I.laid (a := s.heap.objs.size) (o := .own (s.heap.objs.size + 1)) (h' := s.heap.push PySem.W.emptyDict) (t' := s.toks) (fun b u q => Heap.get?_push_of_some _ q) (Nat.le_refl _) ⟨_, e1⟩
  refine I1.laid (a := s.heap.objs.size + 1) (o := .ins C s.heap.objs.size []) (t' := s.toks) (fun b u q => Heap.get?_push_of_some _ q) (Nat.le_of_eq (Heap.size_push _ _)) ?_
  have ne : s.heap.objs.size ≠ s.heap.objs.size + 1 := Nat.ne_of_lt (Nat.lt_succ_self _)
  refine ⟨by rw [upd_ne ne, upd_same], Nat.zero_le _, ne, e2, fun _ => none, (Heap.Ns1.of_empty e3).at fun o q => Heap.get?_push_of_some _ q, fun _ => True.intro, fun y hy => absurd rfl hy⟩
/-- e.f where nothing but the object is asked: through attributeBase (super) and the last hold -/
theorem attr_of {prog : Program} {w : World} {env : Env} {e : Expr} {f : Str} {pos : Pos} {s : Shared} {Q : Value → Shared → Prop} (hb : attributeBase e f env (eval e env) = eval e env)
    (h : wpAny (model prog w) A (eval e env) (fun o s₁ => wpAny (model prog w) A (getAttr o f true) Q E s₁) E s) : wpAny (model prog w) A (eval (.Attribute e f pos) env) Q E s :=
  Attribute_any_ h (by rw [arm_eval_Attribute, hb])
end
/-- e.f, an attribute of the instance -/
def tFld (K : PySem.W.Frag) (ta : TE) (f : Str) : TE := fun σ H Q => ta σ H fun x H1 => ∃ a C dx fs v, x = .ref a ∧ H1 a = some (.ins C dx fs) ∧ Cls K C ∧ NoAttr K C f ∧ fs.lookup f = some v ∧ Q v H1
/-- e.f = value -/
def sFld (K : PySem.W.Frag) (ta tv : TE) (f : Str) : TS := fun D σ H => tv σ H fun y H1 => ta σ H1 fun x H2 => ∃ a C dx fs, x = .ref a ∧ H2 a = some (.ins C dx fs) ∧ Cls K C ∧ NoAttr K C f ∧ fs.length < 1000 ∧
  D.nx σ (upd H2 a (.ins C dx (putF f y fs)))
section
variable {X : Cx} {o e value : Expr} {f : Str} {pos pos' tpos : Pos} {ta tv : TE}
theorem pe_fld (he : PE X e ta) (hb : attributeBase e f X.env (eval e X.env) = eval e X.env) : PE X (.Attribute e f pos) (tFld X.K ta f) := by
  intro pins s σ H Q I h
  refine attr_of hb (thn (he pins s σ H _ I h) fun u s1 ⟨x, H1, I1, rx, a, C, dx, fs, v, ex, ea, c, n, l, q⟩ => ?_)
  subst ex
  obtain rfl : u = Value.ref a := rx
  exact getattr_ok I1 ea c n l fun u' s2 I2 ru => ⟨v, H1, I2, ru, q⟩
theorem ps_fld (ha : PE X o ta) (hv : PE X value tv) (hs : swapsWith value (some (.Attribute o f pos')) pos.line X.env = pure false) : PS X (.Assign [.Attribute o f pos'] value pos) (sFld X.K ta tv f) := by
  intro pins s σ H D I h
  refine plainObj_wpAny_Assign_Attribute (thn (hv pins s σ H _ I h) fun u s1 ⟨y, H1, I1, ry, q⟩ => thn (ha pins s1 σ H1 _ I1 q) fun ov s2 ⟨x, H2, I2, rx, a, C, dx, fs, ex, ea, c, n, l, q2⟩ => ?_) hs
  subst ex
  obtain rfl : ov = Value.ref a := rx
  exact setattr_ok I2 ea c n l ry fun s3 I3 => ⟨σ, _, I3, q2⟩
end
end L2
namespace L2
open PySem PySem.Spec PyProof.Rows
structure Room (k : Nat) (A : Around) : Prop where
  hd : A.handled = none
  dp : A.depth + 3 * k + 5 < recursionLimit
  un : A.units + 16 * k + 200 < cLine
theorem Room.mono {j k : Nat} {A : Around} (r : Room k A) (h : j ≤ k) : Room j A := ⟨r.hd, by have := r.dp; omega, by have := r.un; omega⟩
theorem Room.deeper {k : Nat} {A : Around} (r : Room (k + 1) A) (env : Env) : Room k (A.deeper env) :=
  ⟨r.hd, by have := r.dp; show A.depth + 1 + 3 * k + 5 < _; omega, by have := r.un; show A.units + 3 + 16 * k + 200 < _; omega⟩
theorem make_depth {A : Around} {C : Addr} {us : List Value} {kw : List (Str × Value)} : (A.under (.builtin "type.__call__" ⟨.ref C :: us, kw⟩)).depth = A.depth + 1 := by
  first | rfl | simp [Around.under, Code.weight, Code.isCreation, Code.isGuard, Code.isCaller, Code.frames, Code.isFrame, guardIds]
theorem make_units {A : Around} {C : Addr} {us : List Value} {kw : List (Str × Value)} : (A.under (.builtin "type.__call__" ⟨.ref C :: us, kw⟩)).units = A.units + 1 := by
  first | rfl | simp [Around.under, Code.cUnits, Code.frames, Code.isFrame]
theorem Room.make {k : Nat} {A : Around} (r : Room (k + 1) A) (C : Addr) (us : List Value) (kw : List (Str × Value)) : Room k (A.under (.builtin "type.__call__" ⟨.ref C :: us, kw⟩)) :=
  ⟨r.hd, by have := r.dp; rw [make_depth]; omega, by have := r.un; rw [make_units]; omega⟩
theorem Room.depth {k : Nat} {A : Around} (r : Room k A) : A.depth < recursionLimit := by have := r.dp; omega
def tNil : TA := fun _ H Q => Q [] H
def tCons (ta : TE) (tr : TA) : TA := fun σ H Q => ta σ H fun x H1 => tr σ H1 fun xs H2 => Q (x :: xs) H2
section
variable {X : Cx} {e : Expr} {es : List Expr} {te : TE} {t : TA} {pos : Pos}
theorem pa_nil : PA X [] tNil := fun _ _ _ _ H Q I h => Calls.spliced_nil ⟨[], H, I, .nil, h⟩
theorem pa_cons (ha : PE X e te) (hr : PA X es t) (hs : starEach (e :: es) X.env = (false, eval e X.env) :: starEach es X.env := by rfl) : PA X (e :: es) (tCons te t) := by
  intro pos pins s σ H Q I h
  rw [hs]
  show wpAny _ _ (spliced ((false, eval e X.env) :: backTo pos (starEach es X.env))) _ _ s
  refine Calls.spliced_cons (thn (ha pins s σ H _ I h) fun u s1 ⟨x, H1, I1, r1, q1⟩ => ?_)
  exact thn (hr pos pins s1 σ H1 _ I1 q1) fun us s2 ⟨xs, H2, I2, r2, q2⟩ => ⟨x :: xs, H2, I2, .cons r1 r2, q2⟩
def tLst (t : TA) : TE := fun σ H Q => t σ H fun xs H1 => xs.length ≤ sizeLine ∧ ∀ p, H1 p = none → Q (.ref p) (upd H1 p (.lst xs))
theorem pe_lst (h : PA X es t) : PE X (.List es pos) (tLst t) := by
  intro pins s σ H Q I hq
  refine wpAny_List_spliced (thn (h pos pins s σ H _ I hq) fun us s1 ⟨xs, H1, I1, r, z, q⟩ => ⟨by rw [← r.length]; exact z, ?_⟩)
  have hf : H1 s1.heap.objs.size = none := I1.hok.fresh (Nat.le_refl _)
  refine ⟨.ref s1.heap.objs.size, upd H1 s1.heap.objs.size (.lst xs), I1.laid (t' := s1.toks) (fun b u e => Heap.get?_push_of_some _ e) (Nat.le_refl _) ?_, rfl, q _ hf⟩
  exact ⟨z, us, 0, r, Heap.get?_push_size _ rfl⟩
end
/-- a def's promise: the bound arguments in the parameters' order, the heap, the wanted end, the wanted exception -/
abbrev Sp := List V → Hp → VK → XK → Prop
/-- how an exception lies behind a call (file 08 gives it): the callers' frames, abstract heap and state ahead of the call, the wish, the exception, the state -/
abbrev CXT := List Env → Hp → Shared → XK → Value → Shared → Prop
/-- the state at a call -/
structure Env0 (P : Program) (w : World) (K : PySem.W.Frag) (mg : Str → Option Value) (base : Heap) (A : Around) (outer : List Env) (s : Shared) (H : Hp) : Prop where
  frames : A.frames = some outer
  mod : Mod K mg base
  bs : ∀ b o, base.get? b = some o → s.heap.get? b = some o ∧ H b = none
  bsz : base.objs.size ≤ s.heap.objs.size
  funs : s.heap.FunFrames base outer
  frf : ∀ b ∈ frs outer, H b = none
  hok : HOk P w H s.heap
  bare : AllBare s.gens
/-- a call's end -/
def CE (outer : List Env) (P : Program) (w : World) (H : Hp) (s : Shared) (Q : VK) (u : Value) (s' : Shared) : Prop :=
  ∃ v H', s'.os = s.os ∧ AllBare s'.gens ∧ Un (frs outer) [] H H' s.heap s'.heap ∧ HOk P w H' s'.heap ∧ RelV v u ∧ Q v H'
def CR (CX : CXT) (outer : List Env) (P : Program) (w : World) (H : Hp) (s : Shared) (Q : VK) (E : XK) (r : Result) (s' : Shared) : Prop :=
  match r with
  | .ok (.ret u) => CE outer P w H s Q u s'
  | .ok _ => False
  | .error e => CX outer H s E e s'
structure FnOk (P : Program) (w : World) (K : PySem.W.Frag) (mg : Str → Option Value) (base : Heap) (CX : CXT) (k : Nat) (f : Addr) (fd : FuncData) (ps : List Str) (sp : Sp) : Prop where
  len : ∀ vs H Q E, sp vs H Q E → vs.length = ps.length
  run : ∀ (A : Around) (outer : List Env) (s : Shared) (H : Hp) (args : Args) (us : List Value) (vs : List V) (Q : VK) (E : XK), Room k A → Env0 P w K mg base A outer s H → BindsTo s fd args (ps.zip us) → Vals vs us → sp vs H Q E →
    codeAny (model P w) A (.call (.ref f) args) (CR CX outer P w H s Q E) s
theorem Env0.make {P : Program} {w : World} {K : PySem.W.Frag} {mg : Str → Option Value} {base : Heap} {A : Around} {outer : List Env} {s : Shared} {H : Hp} (e : Env0 P w K mg base A outer s H) (C : Addr) (us : List Value) (kw : List (Str × Value)) :
    Env0 P w K mg base (A.under (.builtin "type.__call__" ⟨.ref C :: us, kw⟩)) outer s H := ⟨by first | exact e.frames | (simpa [Around.under, Code.envs, Code.isFrame, pushEnvs] using e.frames), e.mod, e.bs, e.bsz, e.funs, e.frf, e.hok, e.bare⟩
section
variable {X : Cx} {pins : List (Addr × Obj)} {σ : St} {H : Hp} {s s' : Shared}
/-- from a body: what a callee wants -/
theorem Inv.env0 (I : Inv X pins σ H s) : Env0 X.prog X.w X.K X.mg X.base X.A X.stack s H :=
  ⟨I.ok.frames, I.ok.mod, I.bs, Nat.le_trans I.ok.bsz I.sz, I.stack, I.stkFree, I.hok, I.bare⟩
/-- behind a call -/
theorem Inv.after {Q : VK} {u : Value} (I : Inv X pins σ H s) (h : CE X.stack X.prog X.w H s Q u s') : EP X pins σ Q u s' := by
  obtain ⟨v, H', os, bare, un, hok, r, q⟩ := h
  obtain ⟨hh, g, d, t, os'⟩ := s'
  obtain rfl : os' = s.os := os
  exact ⟨v, H', I.call (h' := hh) (g' := g) (d' := d) (t' := t) (ch := []) un hok bare (fun b z => absurd z (by simp)), r, q⟩
end
/-- f(..): the written arguments, then the defaults dvs; E: what is wanted of an exception -/
def tCall (sp : Sp) (dvs : List V) (E : XK) (t : TA) : TE := fun σ H Q => t σ H fun vs H1 => sp (vs ++ dvs) H1 Q E
/-- o.m(..) of an instance of the class at C -/
def tMeth (C : Addr) (m : Str) (sp : Sp) (dvs : List V) (E : XK) (ta : TE) (t : TA) : TE := fun σ H Q => ta σ H fun x H1 => ∃ a dx fs, x = .ref a ∧ H1 a = some (.ins C dx fs) ∧ fs.lookup m = none ∧
  t σ H1 fun vs H2 => sp (x :: (vs ++ dvs)) H2 Q E
/-- C(..): a new instance and its dict, then __init__ -/
def tMake (C : Addr) (sp : Sp) (dvs : List V) (E : XK) (t : TA) : TE := fun σ H Q => t σ H fun vs H1 => ∀ x dx, H1 x = none → H1 dx = none → dx ≠ x →
  sp (.ref x :: (vs ++ dvs)) (upd (upd H1 dx (.own x)) x (.ins C dx [])) (fun v H2 => v = .non ∧ Q (.ref x) H2) E
/-- how the parameters are bound: us the positional arguments, kw the keywords' values by name, ds the defaults that fill up -/
def Binds (K : PySem.W.Frag) (fd : FuncData) (ps : List Str) (ds : List Value) : Prop :=
  ∀ (s : Shared) (us : List Value), K.In s.heap → (us ++ ds).length = ps.length → BindsTo s fd ⟨us, []⟩ (ps.zip (us ++ ds))
/-- every parameter is given -/
theorem Binds.all {K : PySem.W.Frag} {fd : FuncData} {ps : List Str} (h : ∀ us : List Value, us.length = ps.length → bindArgs fd ⟨us, []⟩ = pure (ps.zip us)) : Binds K fd ps [] := fun s us _ hl => by
  rw [List.append_nil] at hl ⊢
  exact .of_eq (h us hl)
/-- an exception of a callee reaches what this body wants of exceptions -/
def Passes (CX : CXT) (X : Cx) (E : XK) : Prop := ∀ (pins : List (Addr × Obj)) (σ : St) (H : Hp) (s : Shared) (e : Value) (s' : Shared), Inv X pins σ H s → CX X.stack H s E e s' → X.xe e s'
section
variable {X : Cx} {CX : CXT} {k : Nat} {f C : Addr} {fd : FuncData} {ps : List Str} {sp : Sp} {dvs : List V} {ds : List Value} {E : XK} {x m : Str} {p pos apos : Pos} {e o : Expr} {es : List Expr} {ta : TE} {t : TA}
/-- the callee runs -/
theorem run_fn {pins : List (Addr × Obj)} {σ : St} {H : Hp} {s : Shared} {Q : VK} {us : List Value} {vs : List V} (F : FnOk X.prog X.w X.K X.mg X.base CX k f fd ps sp) (hr : Room k X.A) (hb : Binds X.K fd ps ds) (hd : Vals dvs ds) (hx : Passes CX X E)
    (I : Inv X pins σ H s) (r : Vals vs us) (h : sp (vs ++ dvs) H Q E) : wpAny (model X.prog X.w) X.A (call (.ref f) us) (EP X pins σ Q) X.xe s := by
  have r2 : Vals (vs ++ dvs) (us ++ ds) := r.append hd
  have hl : (us ++ ds).length = ps.length := by rw [← r2.length]; exact F.len _ _ _ _ h
  refine wpAny_call (codeAny_mono (F.run X.A X.stack s H ⟨us, []⟩ (us ++ ds) (vs ++ dvs) Q E hr I.env0 (hb s us I.kIn hl) r2 h) fun r s' hq => ?_)
  cases r with
  | error e => exact hx pins σ H s e s' I hq
  | ok fl =>
    cases fl with
    | ret u => exact I.after hq
    | next => exact False.elim hq
    | brk => exact False.elim hq
    | cont => exact False.elim hq
theorem pe_call (F : FnOk X.prog X.w X.K X.mg X.base CX k f fd ps sp) (hr : Room k X.A) (hg : Gl X x) (hm : X.mg x = some (.ref f)) (hk : PySem.W.keepIn X.K (.ref f) = true) (hb : Binds X.K fd ps ds) (hd : Vals dvs ds) (hx : Passes CX X E)
    (ha : PA X (e :: es) t) (hdb : (x == ("__debug__" : Str)) = false := by decide) (he : starEach (e :: es) X.env = (false, eval e X.env) :: starEach es X.env := by rfl) (hpl : (backTo pos (starEach es X.env)).any (·.1) = false := by rfl) :
    PE X (.Call (.Name x p) (e :: es) [] pos) (tCall sp dvs E t) := by
  intro pins s σ H Q I h
  refine wpAny_Call_Name_kw (ld_glob I hg hm ?_ hdb)
  refine PySem.W.callWith_K (h₀ := X.base) I.ok.mod.kin hk (thn (ha pos pins s σ H _ I h) fun us s1 ⟨vs, H1, I1, r, q⟩ => ⟨I1.kIn, ?_⟩) he hpl
  exact run_fn F hr hb hd hx I1 r q
/-- o.m(e, ..) -/
theorem pe_meth {pl : Sem Bool} (he : PE X o ta) (c : Cls X.K C) (hm : Meth X.K C m f) (F : FnOk X.prog X.w X.K X.mg X.base CX k f fd ps sp) (hr : Room k X.A) (hb : Binds X.K fd ps ds) (hd : Vals dvs ds) (hx : Passes CX X E) (ha : PA X (e :: es) t)
    (hst : starEach (e :: es) X.env = (false, eval e X.env) :: starEach es X.env := by rfl) (hpl : (backTo pos (starEach es X.env)).any (·.1) = false := by rfl)
    (ht : eval (.Call (.Attribute o m apos) (e :: es) [] pos) X.env = (do
      let ov ← eval o X.env
      standAt apos.atName
      let (f, first) ← holding [ov] (getMethod ov m pl)
      callWith pos f first (backTo pos (starEach (e :: es) X.env)) (backToKw pos (keywordEach [] X.env))) := by rfl) :
    PE X (.Call (.Attribute o m apos) (e :: es) [] pos) (tMeth C m sp dvs E ta t) := by
  intro pins s σ H Q I h
  refine PySem.W.methodCall_KW (pl := pl) (thn (he pins s σ H _ I h) fun u s1 ⟨x, H1, I1, rx, a, dx, fs, ex, ea, l, q⟩ => ?_) ht
  subst ex
  obtain rfl : u = Value.ref a := rx
  refine getmeth_ok I1 ea c hm l ?_
  refine PySem.W.callWith_K (first := [.ref a]) (h₀ := X.base) I.ok.mod.kin hm.kp (thn (ha pos pins s1 σ H1 _ I1 q) fun us s2 ⟨vs, H2, I2, r, q2⟩ => ⟨I2.kIn, ?_⟩) hst hpl
  exact run_fn (us := .ref a :: us) (vs := .ref a :: vs) F hr hb hd hx I2 (.cons rfl r) q2
/-- o.m() -/
theorem pe_meth0 {pl : Sem Bool} (he : PE X o ta) (c : Cls X.K C) (hm : Meth X.K C m f) (F : FnOk X.prog X.w X.K X.mg X.base CX k f fd ps sp) (hr : Room k X.A) (hb : Binds X.K fd ps ds) (hd : Vals dvs ds) (hx : Passes CX X E)
    (ht : eval (.Call (.Attribute o m apos) [] [] pos) X.env = (do
      let ov ← eval o X.env
      standAt apos.atName
      let (f, first) ← holding [ov] (getMethod ov m pl)
      callWith pos f first (backTo pos (starEach [] X.env)) (backToKw pos (keywordEach [] X.env))) := by rfl) :
    PE X (.Call (.Attribute o m apos) [] [] pos) (tMeth C m sp dvs E ta tNil) := by
  intro pins s σ H Q I h
  refine PySem.W.methodCall_KW (pl := pl) (thn (he pins s σ H _ I h) fun u s1 ⟨x, H1, I1, rx, a, dx, fs, ex, ea, l, q⟩ => ?_) ht
  subst ex
  obtain rfl : u = Value.ref a := rx
  refine getmeth_ok I1 ea c hm l ?_
  exact PySem.W.callWith_K0 (first := [.ref a]) I1.kIn hm.kp (run_fn (us := [.ref a]) (vs := [.ref a]) F hr hb hd hx I1 (.cons rfl .nil) q)
/-- what a class must have to be made -/
structure Mk (K : PySem.W.Frag) (C f : Addr) : Prop where
  makes : PySem.W.makesIn K C = true
  init : PySem.W.findIn K (.ref C) "__init__" = some (some (.ref f))
  fn : PySem.W.isFn K (.ref f) = true
  kp : PySem.W.keepIn K (.ref C) = true
theorem run_make {pins : List (Addr × Obj)} {σ : St} {H : Hp} {s : Shared} {Q : VK} {us : List Value} {vs : List V} (M : Mk X.K C f) (F : FnOk X.prog X.w X.K X.mg X.base CX k f fd ps sp) (hr : Room (k + 1) X.A) (hb : Binds X.K fd ps ds) (hd : Vals dvs ds)
    (hx : Passes CX X E) (I : Inv X pins σ H s) (r : Vals vs us)
    (h : ∀ x dx, H x = none → H dx = none → dx ≠ x → sp (.ref x :: (vs ++ dvs)) (upd (upd H dx (.own x)) x (.ins C dx [])) (fun v H2 => v = .non ∧ Q (.ref x) H2) E) :
    wpAny (model X.prog X.w) X.A (call (.ref C) us) (EP X pins σ Q) X.xe s := by
  have hq := h (s.heap.objs.size + 1) s.heap.objs.size (I.hok.fresh (Nat.le_succ _)) (I.hok.fresh (Nat.le_refl _)) (Nat.ne_of_lt (Nat.lt_succ_self _))
  have I2 := Inv.made (C := C) I
  have r2 : Vals (V.ref (s.heap.objs.size + 1) :: (vs ++ dvs)) (Value.ref (s.heap.objs.size + 1) :: (us ++ ds)) := .cons rfl (r.append hd)
  have hl : (Value.ref (s.heap.objs.size + 1) :: us ++ ds).length = ps.length := by
    have e := r2.length
    rw [F.len _ _ _ _ hq] at e
    exact e.symm
  refine wpAny_call (make_map (f := f) I.kIn M.makes M.init (beq_iff_eq.mp M.fn) (codeAny_mono (F.run _ X.stack _ _ ⟨Value.ref (s.heap.objs.size + 1) :: us, []⟩ (Value.ref (s.heap.objs.size + 1) :: (us ++ ds)) _ _ E (hr.make C us [])
    (I2.env0.make C us []) (hb _ (Value.ref (s.heap.objs.size + 1) :: us) I2.kIn hl) r2 hq) fun r s' hq' => ?_))
  cases r with
  | error e => exact hx pins σ _ _ e s' I2 hq'
  | ok fl =>
    cases fl with
    | ret u =>
      obtain ⟨v, H', I3, rv, ev, q3⟩ := I2.after hq'
      subst ev
      exact ⟨rv, ⟨V.ref (s.heap.objs.size + 1), H', I3, rfl, q3⟩⟩
    | next => exact False.elim hq'
    | brk => exact False.elim hq'
    | cont => exact False.elim hq'
theorem pe_make (M : Mk X.K C f) (F : FnOk X.prog X.w X.K X.mg X.base CX k f fd ps sp) (hr : Room (k + 1) X.A) (hg : Gl X x) (hm : X.mg x = some (.ref C)) (hb : Binds X.K fd ps ds) (hd : Vals dvs ds) (hx : Passes CX X E)
    (ha : PA X (e :: es) t) (hdb : (x == ("__debug__" : Str)) = false := by decide) (he : starEach (e :: es) X.env = (false, eval e X.env) :: starEach es X.env := by rfl) (hpl : (backTo pos (starEach es X.env)).any (·.1) = false := by rfl) :
    PE X (.Call (.Name x p) (e :: es) [] pos) (tMake C sp dvs E t) := by
  intro pins s σ H Q I h
  refine wpAny_Call_Name_kw (ld_glob I hg hm ?_ hdb)
  refine PySem.W.callWith_K (h₀ := X.base) I.ok.mod.kin M.kp (thn (ha pos pins s σ H _ I h) fun us s1 ⟨vs, H1, I1, r, q⟩ => ⟨I1.kIn, ?_⟩) he hpl
  exact run_make M F hr hb hd hx I1 r q
theorem pe_make0 (M : Mk X.K C f) (F : FnOk X.prog X.w X.K X.mg X.base CX k f fd ps sp) (hr : Room (k + 1) X.A) (hg : Gl X x) (hm : X.mg x = some (.ref C)) (hb : Binds X.K fd ps ds) (hd : Vals dvs ds) (hx : Passes CX X E)
    (hdb : (x == ("__debug__" : Str)) = false := by decide) : PE X (.Call (.Name x p) [] [] pos) (tMake C sp dvs E tNil) := by
  intro pins s σ H Q I h
  refine wpAny_Call_Name_kw (ld_glob I hg hm ?_ hdb)
  exact PySem.W.callWith_K0 I.kIn M.kp (run_make (us := []) M F hr hb hd hx I .nil h)
end
/-- the values of the keywords, from the left -/
def PK (X : Cx) (kws : List Keyword) (t : TA) : Prop :=
  ∀ (pos : Pos) (pins : List (Addr × Obj)) (s : Shared) (σ : St) (H : Hp) (Q : List V → Hp → Prop), Inv X pins σ H s → t σ H Q → wpAny (model X.prog X.w) X.A (evalAll ((backToKw pos (keywordEach kws X.env)).map (·.2))) (AP X pins σ Q) X.xe s
section
variable {X : Cx} {CX : CXT} {k : Nat} {f C : Addr} {fd : FuncData} {ps ks : List Str} {sp : Sp} {E : XK} {x m : Str} {p pos apos kpos : Pos} {e o : Expr} {es : List Expr} {kws : List Keyword} {te ta : TE} {t tk : TA} {nm : Option Str}
theorem pk_nil : PK X [] tNil := fun _ _ _ _ H Q I h => wpAny_evalAll_nil ⟨[], H, I, .nil, h⟩
theorem pk_cons (ha : PE X e te) (hr : PK X kws t) : PK X (⟨nm, e, kpos⟩ :: kws) (tCons te t) := by
  intro pos pins s σ H Q I h
  show wpAny _ _ (evalAll ((do let v ← eval e X.env; standAt pos; pure v) :: (backToKw pos (keywordEach kws X.env)).map (·.2))) _ _ s
  refine wpAny_evalAll_cons (wpAny_bind (thn (ha pins s σ H _ I h) fun u s1 ⟨x, H1, I1, r1, q1⟩ => wpAny_bind (wpAny_standAt (wpAny_pure ?_))))
  exact thn (hr pos pins s1 σ H1 _ I1 q1) fun us s2 ⟨xs, H2, I2, r2, q2⟩ => ⟨x :: xs, H2, I2, .cons r1 r2, q2⟩
variable {g : List Value → List Value → List Value} {gV : List V → List V → List V}
end
/-- names: the parameters first -/
structure FnScope (N P : List Str) (sc : Scope) : Prop where
  kind : sc.kind = .function
  co : sc.isCoroutine = false
  gen : sc.isGenerator = false
  nd : N.Nodup
  pre : N.take P.length = P
  par : ∀ x ∈ P, sc.names.lookup x = some .local ∨ sc.names.lookup x = some .cell
  nofree : ∀ y ∈ sc.names, y.2 ≠ .free
theorem bindL_out {kindOf : Str → Option NameKind} {x : Str} : ∀ {binds : List (Str × Value)} {m : Str → Option Value}, (∀ v, (x, v) ∉ binds) → bindL kindOf binds m x = m x
  | [], _, _ => rfl
  | (n, v) :: r, m, h => by
    unfold bindL
    rw [bindL_out fun w hw => h w (List.mem_cons_of_mem _ hw)]
    split
    · have : x ≠ n := by rintro rfl; exact h v List.mem_cons_self
      simp [this]
    · rfl
theorem bindC_out {kindOf : Str → Option NameKind} {x : Str} : ∀ {binds : List (Str × Value)} {m : Str → Option Value}, (∀ v, (x, v) ∉ binds) → bindC kindOf binds m x = m x
  | [], _, _ => rfl
  | (n, v) :: r, m, h => by
    unfold bindC
    rw [bindC_out fun w hw => h w (List.mem_cons_of_mem _ hw)]
    split
    · rfl
    · have : x ≠ n := by rintro rfl; exact h v List.mem_cons_self
      simp [this]
theorem bindL_get {kindOf : Str → Option NameKind} {x : Str} {v : Value} : ∀ {P : List Str} {vs : List Value} {i : Nat} {m : Str → Option Value}, P.Nodup → P[i]? = some x → vs[i]? = some v → kindOf x = some .local →
    bindL kindOf (P.zip vs) m x = some v
  | [], _, _, _, _, h, _, _ => by simp at h
  | _ :: _, [], _, _, _, _, h, _ => by simp at h
  | p :: P, w :: vs, 0, m, nd, h1, h2, hk => by
    simp at h1 h2; subst h1; subst h2
    show bindL kindOf ((p, w) :: P.zip vs) m p = _
    unfold bindL
    rw [bindL_out fun v hv => (List.nodup_cons.mp nd).1 (List.of_mem_zip hv).1, if_pos hk]
    simp
  | p :: P, w :: vs, i + 1, m, nd, h1, h2, hk => by
    show bindL kindOf ((p, w) :: P.zip vs) m x = _
    unfold bindL
    exact bindL_get (i := i) (List.nodup_cons.mp nd).2 (by simpa using h1) (by simpa using h2) hk
theorem bindC_get {kindOf : Str → Option NameKind} {x : Str} {v : Value} : ∀ {P : List Str} {vs : List Value} {i : Nat} {m : Str → Option Value}, P.Nodup → P[i]? = some x → vs[i]? = some v → kindOf x ≠ some .local →
    bindC kindOf (P.zip vs) m x = some v
  | [], _, _, _, _, h, _, _ => by simp at h
  | _ :: _, [], _, _, _, _, h, _ => by simp at h
  | p :: P, w :: vs, 0, m, nd, h1, h2, hk => by
    simp at h1 h2; subst h1; subst h2
    show bindC kindOf ((p, w) :: P.zip vs) m p = _
    unfold bindC
    rw [bindC_out fun v hv => (List.nodup_cons.mp nd).1 (List.of_mem_zip hv).1, if_neg hk]
    simp
  | p :: P, w :: vs, i + 1, m, nd, h1, h2, hk => by
    show bindC kindOf ((p, w) :: P.zip vs) m x = _
    unfold bindC
    exact bindC_get (i := i) (List.nodup_cons.mp nd).2 (by simpa using h1) (by simpa using h2) hk
/-- the names' values at the entry -/
def start (N : List Str) (vs : List V) : St := vs.map some ++ List.replicate (N.length - vs.length) none
/-- the context of a def's body, at its entry; an exception leaves the frame, then lies as CX says -/
def cxOf (CX : CXT) (P : Program) (w : World) (K : PySem.W.Frag) (mg : Str → Option Value) (base : Heap) (N : List Str) (qual : Str) (scope : Scope) (f : Addr) (cd : Value) (A : Around) (outer : List Env) (s : Shared) (H : Hp) (E : XK) : Cx where
  prog := P
  w := w
  K := K
  mg := mg
  base := base
  A := A.deeper (envOfC qual scope s.heap.objs.size f cd)
  N := N
  s_0 := s
  H_0 := H
  env := envOfC qual scope s.heap.objs.size f cd
  outer := outer
  stack := envOfC qual scope s.heap.objs.size f cd :: outer
  ex := []
  calm := true
  fn := fun _ => true
  pn := []
  xe := fun e s' => wpAny (model P w) (A.deeper (envOfC qual scope s.heap.objs.size f cd)) (leaving (envOfC qual scope s.heap.objs.size f cd) e) (fun _ s'' => CX outer H s E e s'') (fun e' s'' => CX outer H s E e' s'') s'
theorem cell_has {sc : Scope} {n : Nat} {x : Str} (h : sc.names.lookup x = some .cell) : ∃ c, (cellsFrom n sc.names []).lookup x = some c := by
  have q := PySem.W.cellsFrom_some sc.names n [] (.inl h)
  exact Option.isSome_iff_exists.mp q
theorem inv_start {CX : CXT} {P : Program} {w : World} {K : PySem.W.Frag} {mg : Str → Option Value} {base : Heap} {N ps : List Str} {qual : Str} {scope : Scope} {f : Addr} {cd : Value} {A : Around} {outer : List Env} {s s1 : Shared} {H : Hp} {E : XK} {us : List Value} {vs : List V}
    (S : FnScope N ps scope) (hd : A.handled = none) (e0 : Env0 P w K mg base A outer s H) (hl : vs.length = ps.length) (r : Vals vs us)
    (x : InCallC s s.heap.objs.size (bindL (envOfC qual scope s.heap.objs.size f cd).kindOf (ps.zip us) fun _ => none) (cellsFrom (s.heap.objs.size + 1) scope.names []) (bindC (envOfC qual scope s.heap.objs.size f cd).kindOf (ps.zip us) fun _ => none) s1) :
    Inv (cxOf CX P w K mg base N qual scope f cd A outer s H E) [] (start N vs) H s1 := by
  have hpl : ps.length ≤ N.length := by have := congrArg List.length S.pre; rw [List.length_take] at this; omega
  obtain ⟨h1, tk, rfl, hk⟩ := x.done
  have noA : ∀ b : Addr, b ∉ (cxOf CX P w K mg base N qual scope f cd A outer s H E).ex := fun b z => absurd (show b ∈ ([] : List Addr) from z) (by simp)
  refine ⟨⟨e0.mod, S.kind, rfl, rfl, Nat.le_refl _, fun y z c h1 h2 => ?_, fun y hy => ?_, fun y c _ h => ?_, fun _ => hd, Around.frames_deeper e0.frames, .inr ⟨rfl, rfl⟩, fun b z => absurd z (noA b), e0.bs, e0.bsz, fun b _ _ => noA b, fun b z => absurd z (noA b), e0.funs, e0.frf⟩,
    rfl, e0.bare, Un.kept hk, ⟨_, x.toInCall.ns, fun i y v h1 h2 h3 => ?_⟩, fun y c h => ⟨_, x.cell y c h⟩, e0.hok.fresh (Nat.le_refl _), fun y c h => ?_, fun p hp => absurd (show p ∈ ([] : List (Addr × Obj)) from hp) (by simp), e0.hok.kept hk, ?_⟩
  · exact name_of_addr x.apart (PySem.mem_of_lookup h1) (PySem.mem_of_lookup h2)
  · have hy : scope.names.lookup y = some .cell ∨ scope.names.lookup y = some .free := hy
    rcases hy with hy | hy
    · exact cell_has hy
    · exact absurd rfl (S.nofree _ (PySem.mem_of_lookup hy))
  · exact Nat.le_of_lt (x.above y c (PySem.mem_of_lookup h))
  · have hi : i < vs.length := by
      unfold start at h2
      by_cases hi : i < vs.length
      · exact hi
      · rw [List.getElem?_append_right (by simpa using hi)] at h2
        rw [List.getElem?_replicate] at h2
        split at h2 <;> cases h2
    have ha : vs[i]? = some v := by
      unfold start at h2
      rw [List.getElem?_append_left (by simpa using hi), List.getElem?_map] at h2
      cases e : vs[i]? with
      | none => rw [e] at h2; cases h2
      | some a => rw [e] at h2; cases h2; rfl
    obtain ⟨u, hu, rv⟩ := r.get ha
    have hp : ps[i]? = some y := by
      rw [← S.pre, List.getElem?_take_of_lt (by omega)]; exact h1
    have ndP : ps.Nodup := by rw [← S.pre]; exact S.nd.sublist (List.take_sublist _ _)
    refine ⟨u, rv, ?_⟩
    rcases S.par y (List.mem_of_getElem? hp) with k | k
    · exact .inl ⟨k, bindL_get ndP hp hu k⟩
    · obtain ⟨c, e⟩ := cell_has (n := s.heap.objs.size + 1) k
      refine .inr ⟨.inl k, c, e, ?_⟩
      have q := x.cell y c e
      rw [bindC_get ndP hp hu (by show scope.names.lookup y ≠ _; rw [k]; decide)] at q
      exact q
  · exact e0.hok.fresh (Nat.le_of_lt (x.above y c (PySem.mem_of_lookup h)))
  · unfold start
    show _ = N.length
    rw [List.length_append, List.length_map, List.length_replicate]
    omega
/-- THE RULE: a def (or a method) of the text, by its body. The body's reading t is chosen for each entry; it is run at the parameters' values -/
theorem fn_of {CX : CXT} {P : Program} {w : World} {K : PySem.W.Frag} {mg : Str → Option Value} {base : Heap} {k : Nat} {f : Addr} {name qual : Str} {params : Arguments} {body : List Stmt} {scope : Scope} {dV kV doc pm cdv ct oc : Value} {an od : Option Addr}
    {osl : Array (Option Value)} {N ps : List Str} {sp : Sp} (lk : K.lookup f = some ⟨oc, od, .func (PySem.W.fnOf name qual params body scope dV kV doc pm an cdv ct), osl⟩) (hcd : PySem.W.codeIn K cdv qual = true) (S : FnScope N ps scope)
    (len : ∀ vs H Q E, sp vs H Q E → vs.length = ps.length)
    (hbody : ∀ (A : Around) (outer : List Env) (s : Shared) (H : Hp) (vs : List V) (Q : VK) (E : XK), Room k (A.deeper (envOfC qual scope s.heap.objs.size f cdv)) → sp vs H Q E →
      ∃ t, PSs (cxOf CX P w K mg base N qual scope f cdv A outer s H E) body t ∧ t { nx := fun _ H' => Q .non H', rt := Q } (start N vs) H) :
    FnOk P w K mg base CX (k + 1) f (PySem.W.fnOf name qual params body scope dV kV doc pm an cdv ct) ps sp := by
  refine ⟨len, fun A outer s H args us vs Q E hr e0 hb r hsp => ?_⟩
  have hl := len _ _ _ _ hsp
  have KX : K.In s.heap := e0.mod.kin.keeps fun b o e => (e0.bs b o e).1
  have lim : s.heap.NoLimit := e0.mod.nolimit.keeps fun b o e => (e0.bs b o e).1
  have hkind : ∀ y ∈ ps.zip us, scope.names.lookup y.1 = some .local ∨ (scope.names.lookup y.1 = some .cell ∧ ((cellsFrom (s.heap.objs.size + 1) scope.names []).lookup y.1).isSome = true) := fun ⟨n, v⟩ hy => by
    rcases S.par n (List.of_mem_zip hy).1 with q | q
    · exact .inl q
    · exact .inr ⟨q, PySem.W.cellsFrom_some _ _ _ (.inl q)⟩
  refine codeAny_call_function hr.depth (KX _ _ lk) rfl S.co S.gen rfl (PySem.W.codeRec_of KX hcd) (hb _ _ _ _ ?_)
  refine wpAny_newFunctionEnv_cells S.kind hkind fun env he s1 x => ?_
  subst he
  refine ⟨lim.keeps x.toInCall.keep, codeAny_func ?_⟩
  obtain ⟨t, ht, hq⟩ := hbody A outer s H vs Q E (hr.deeper _) hsp
  have I : Inv (cxOf CX P w K mg base N qual scope f cdv A outer s H E) [] (start N vs) H s1 := inv_start S hr.hd e0 hl r x
  refine wpAny_mono (ht [] s1 (start N vs) H _ I hq) (fun fl s' hs => ?_) fun e s' hs => hs
  have fin : ∀ {σ' : St} {H' : Hp} {v : V} {u : Value}, Inv (cxOf CX P w K mg base N qual scope f cdv A outer s H E) [] σ' H' s' → RelV v u → Q v H' → CE outer P w H s Q u s' :=
    fun {σ' H' v u} J rv q => ⟨v, H', J.os, J.bare, J.base, J.hok, rv, q⟩
  cases fl with
  | ret u =>
    obtain ⟨v, σ', H', J, rv, q⟩ := hs
    exact fin J rv q
  | next =>
    obtain ⟨σ', H', J, q⟩ := hs
    exact fin (v := V.non) (u := Value.none) J rfl q
  | brk =>
    obtain ⟨_, _, _, q⟩ := hs
    exact False.elim q
  | cont =>
    obtain ⟨_, _, _, q⟩ := hs
    exact False.elim q
end L2
namespace L2
open PySem PySem.Spec PyProof.Rows
section
variable {X : Cx} {x : Str} {p pos : Pos} {e : Expr} {es : List Expr} {t : TA} {id T : String} {r : List V → Hp → VK → Prop}
def tCB (r : List V → Hp → VK → Prop) (t : TA) : TE := fun σ H Q => t σ H fun vs H1 => r vs H1 Q
/-- f(e, ..), f a built-in function -/
theorem pe_callB (hc : CallR X (.builtin id) r) (hg : Gl X x) (hm : X.mg x = none) (hv : bootBuiltins x = some (.builtin id)) (ha : PA X (e :: es) t) (hn : x ≠ "__name__" := by decide) (hdb : (x == ("__debug__" : Str)) = false := by decide)
    (he : starEach (e :: es) X.env = (false, eval e X.env) :: starEach es X.env := by rfl) (hpl : (backTo pos (starEach es X.env)).any (·.1) = false := by rfl) : PE X (.Call (.Name x p) (e :: es) [] pos) (tCB r t) := by
  intro pins s σ H Q I h
  refine wpAny_Call_Name_kw (ld_blt I hg hm hv ?_ hn hdb)
  exact PyProof.Rows.callWith_builtin1 (thn (ha pos pins s σ H _ I h) fun us s1 ⟨vs, H1, I1, r1, q1⟩ => hc pins s1 σ H1 vs us Q I1 r1 q1) he hpl
end
end L2
namespace HT
open PySem PyProof.Rows
section
open PySem.SeqAt
open PySem.AutoSeq1 (wpAny_loadPart')
open PySem.MeetsSeq PySem.MeetsSeq2 PySem.MeetsSeq3
end
section
variable {prog : Program} {w : World} {A : Around} {E : Value → Shared → Prop} {s : Shared}
/-- a slice's bound as a place among n (d where it is left out) -/
def sIx (n d : Nat) : Option Int → Nat
  | none => d
  | some v => if v < 0 then (v + (n : Int)).toNat else min v.toNat n
theorem sIx_nat (n d k : Nat) : sIx n d (some (k : Int)) = min k n := by
  show (if (k : Int) < 0 then ((k : Int) + (n : Int)).toNat else min (k : Int).toNat n) = min k n
  rw [if_neg (by omega), Int.toNat_natCast]
theorem slicePart_ {v : Value} {o : Option Int} {Q : Option Int → Shared → Prop} (p : IsPart v o) (h : Q o s) : wpAny (model prog w) A (Builtin.Slice.slicePartIndex v) Q E s := by
  cases p with
  | none => exact slicePart_none h
  | int i t => exact slicePart_int h
end
end HT
namespace L2
open PySem PySem.Spec PyProof.Rows
abbrev TO := St → Hp → (Option Int → Hp → Prop) → Prop
/-- a slice's part (left out, or an int) -/
def PO (X : Cx) (e : Option Expr) (t : TO) : Prop :=
  ∀ (pins : List (Addr × Obj)) (s : Shared) (σ : St) (H : Hp) (Q : Option Int → Hp → Prop), Inv X pins σ H s → t σ H Q →
    wpAny (model X.prog X.w) X.A (evalPart e X.env) (fun u s' => ∃ o H', Inv X pins σ H' s' ∧ IsPart u o ∧ Q o H') X.xe s
def tNoPart : TO := fun _ H Q => Q none H
def tPart (t : TE) : TO := fun σ H Q => t σ H fun x H1 => ∃ i, x = .int i ∧ Q (some i) H1
section
variable {X : Cx} {e : Expr} {te : TE} {lo hi : Option Expr} {tl th : TO} {pos p2 : Pos}
theorem po_none : PO X none tNoPart := by
  intro pins s σ H Q I h
  rw [evalPart_none]
  exact wpAny_pure ⟨none, H, I, .none, h⟩
theorem po_some (h : PE X e te) : PO X (some e) (tPart te) := by
  intro pins s σ H Q I hw
  rw [evalPart_some]
  refine thn (h pins s σ H _ I hw) fun u s1 ⟨x, H1, I1, r1, q1⟩ => ?_
  obtain ⟨i, rfl, q⟩ := q1
  obtain ⟨t, rfl⟩ := r1
  exact ⟨some i, H1, I1, .int i t, q⟩
/-- what a slice of a value is, by values: the slice object stands at sl -/
def SlR (X : Cx) (r : V → Option Int → Option Int → Hp → VK → Prop) : Prop :=
  ∀ (pins : List (Addr × Obj)) (s : Shared) (σ : St) (H : Hp) (x : V) (v vl vu : Value) (lo hi : Option Int) (sl : Addr) (Q : VK), Inv X pins σ H s → RelV x v → s.heap.IsSliceOf sl vl vu .none → IsPart vl lo → IsPart vu hi → r x lo hi H Q →
    ∃ T id, typeLookup (.type T) "__getitem__" = pure (some (.builtin id)) ∧ s.TypeIs v T ∧ wpAny (model X.prog X.w) X.A (getItem v (.ref sl)) (EP X pins σ Q) X.xe s
def tSl (r : V → Option Int → Option Int → Hp → VK → Prop) (te : TE) (tl th : TO) : TE := fun σ H Q => te σ H fun x H1 => tl σ H1 fun l H2 => th σ H2 fun u H3 => r x l u H3 Q
/-- a[lo:hi], any a -/
theorem pe_slice {r : V → Option Int → Option Int → Hp → VK → Prop} (hr : SlR X r) (he : PE X e te) (hl : PO X lo tl) (hu : PO X hi th) : PE X (.Subscript e (.Slice lo hi none p2) pos) (tSl r te tl th) := by
  intro pins s σ H Q I h
  refine Subscript_ (thn (he pins s σ H _ I h) fun v s1 ⟨x, H1, I1, r1, q1⟩ => ?_)
  refine wpAny_Slice (thn (hl pins s1 σ H1 _ I1 q1) fun vl s2 ⟨l, H2, I2, pl, q2⟩ => thn (hu pins s2 σ H2 _ I2 q2) fun vu s3 ⟨u, H3, I3, pu, q3⟩ => ?_)
  rw [evalPart_none]
  refine wpAny_pure ?_
  have I4 : Inv X pins σ H3 { s3 with heap := s3.heap.push { cls := .type "slice", data := .fields #[vl, vu, .none] } } := I3.kept (t' := s3.toks) fun b ob q => Heap.get?_push_of_some _ q
  obtain ⟨T, id, hT, ht, hg⟩ := hr pins { s3 with heap := s3.heap.push { cls := .type "slice", data := .fields #[vl, vu, .none] } } σ H3 x v vl vu l u s3.heap.objs.size Q I4 r1 (Heap.IsSliceOf.new ..) pl pu q3
  show wpAny (model X.prog X.w) X.A (subscriptTail e (.Slice lo hi none p2) v (.ref s3.heap.objs.size)) (EP X pins σ Q) X.xe { s3 with heap := s3.heap.push { cls := .type "slice", data := .fields #[vl, vu, .none] } }
  exact tail_any (ops := [.ref s3.heap.objs.size, v]) ht hT hg (by with_unfolding_all rfl)
/-- the items of xs[lo:hi] -/
def cutV (xs : List V) (lo hi : Option Int) : List V := (xs.drop (HT.sIx xs.length 0 lo)).take (HT.sIx xs.length xs.length hi - HT.sIx xs.length 0 lo)
theorem cutV_length (xs : List V) (lo hi : Option Int) : (cutV xs lo hi).length ≤ xs.length := by
  unfold cutV
  rw [List.length_take, List.length_drop]
  omega
end
end L2
namespace L2
open PySem PySem.Spec PyProof.Rows
/-- the place that an index of any sign means -/
def ixN (n : Nat) (i : Int) : Option Nat := if 0 ≤ i then (if i < n then some i.toNat else none) else if -(n : Int) ≤ i then some (i + n).toNat else none
def atI {α : Type} (xs : List α) (i : Int) : Option α := (ixN xs.length i).bind fun j => xs[j]?
theorem ixN_seq {n : Nat} {i : Int} {j : Nat} (h : ixN n i = some j) : seqIndex? i n = some j ∧ j < n ∧ -(n : Int) ≤ i ∧ i < n := by
  unfold ixN at h
  by_cases h0 : 0 ≤ i
  · rw [if_pos h0] at h
    by_cases h1 : i < n
    · rw [if_pos h1] at h
      have e : i.toNat = j := Option.some.inj h
      exact ⟨by rw [seqIndex_of h0 h1, e], by omega, by omega, h1⟩
    · rw [if_neg h1] at h; cases h
  · rw [if_neg h0] at h
    by_cases h1 : -(n : Int) ≤ i
    · rw [if_pos h1] at h
      have e : (i + n).toNat = j := Option.some.inj h
      exact ⟨by rw [seqIndex_neg (by omega) h1, e], by omega, h1, by omega⟩
    · rw [if_neg h1] at h; cases h
theorem atI_get {α : Type} {xs : List α} {i : Int} {v : α} (h : atI xs i = some v) : ∃ j, seqIndex? i xs.length = some j ∧ xs[j]? = some v ∧ j < xs.length ∧ -(xs.length : Int) ≤ i ∧ i < xs.length := by
  unfold atI at h
  cases e : ixN xs.length i with
  | none => rw [e] at h; cases h
  | some j =>
    rw [e] at h
    obtain ⟨h1, h2, h3, h4⟩ := ixN_seq e
    exact ⟨j, h1, h, h2, h3, h4⟩
theorem atI_nat {α : Type} {xs : List α} {j : Nat} {v : α} (h : xs[j]? = some v) : atI xs (j : Int) = some v := by
  have hj : j < xs.length := (List.getElem?_eq_some_iff.mp h).1
  have e : ixN xs.length (j : Int) = some j := by
    unfold ixN
    rw [if_pos (by omega), if_pos (by omega)]; simp
  unfold atI; rw [e]; exact h
/-- what stands as an index of a plain subscript -/
def PlainIx (b : Expr) : Prop := ∀ o i, subscripted b false o i = operate [o, i] (getItem o i)
/-- a subscript by values -/
def IxR (X : Cx) (r : R2) : Prop :=
  ∀ (value slice : Expr) (pins : List (Addr × Obj)) (s : Shared) (σ : St) (H : Hp) (x y : V) (v u : Value) (Q : VK), Inv X pins σ H s → RelV x v → RelV y u → r x y H Q →
    subscripted slice false v u = operate [v, u] (getItem v u) → wpAny (model X.prog X.w) X.A (subscriptTail value slice v u) (EP X pins σ Q) X.xe s
/-- a call of a builtin's method by values: the receiver, the arguments -/
def MtR (X : Cx) (id : String) (r : V → List V → Hp → VK → Prop) : Prop :=
  ∀ (pins : List (Addr × Obj)) (s : Shared) (σ : St) (H : Hp) (x : V) (xs : List V) (v : Value) (us : List Value) (Q : VK), Inv X pins σ H s → RelV x v → Vals xs us → r x xs H Q →
    wpAny (model X.prog X.w) X.A (call (.builtin id) (v :: us)) (EP X pins σ Q) X.xe s
section
variable {X : Cx} {a b : Expr} {ta tb : TE} {pos : Pos}
/-- a[b] -/
theorem pe_ix {r : R2} (hr : IxR X r) (ha : PE X a ta) (hb : PE X b tb) (hs : PlainIx b) : PE X (.Subscript a b pos) (tOp r ta tb) := by
  intro pins s σ H Q I h
  exact Subscript_ (binT ha hb I h fun v u s2 x y H2 I2 rx ry q => hr a b pins s2 σ H2 x y v u Q I2 rx ry q (hs _ _))
def rIxL (K : PySem.W.Frag) : R2 := fun x y H Q => ∃ p xs i v, x = .ref p ∧ y = .int i ∧ SqL K H p xs ∧ atI xs i = some v ∧ Q v H
def rIxT (K : PySem.W.Frag) : R2 := fun x y H Q => ∃ p xs i v, x = .ref p ∧ y = .int i ∧ SqT K H p xs ∧ atI xs i = some v ∧ Q v H
theorem ix_list : IxR X (rIxL X.K) := by
  intro value slice pins s σ H x y v u Q I rx ry h hs
  obtain ⟨p, xs, i, z, rfl, rfl, hq, he, q⟩ := h
  cases rx
  obtain ⟨t, rfl⟩ := ry
  obtain ⟨its, r, pl, hz⟩ := I.list hq
  obtain ⟨j, h1, h2, h3, h4, h5⟩ := atI_get he
  obtain ⟨w, ew, rw'⟩ := r.get h2
  have hl := r.length
  have hn := line63
  have fin : EP X pins σ Q w s := ⟨z, H, I, rw', q⟩
  by_cases h0 : 0 ≤ i
  · have hj : i.toNat = j := by
      rw [seqIndex_of h0 h5] at h1
      exact Option.some.inj h1
    exact item_listR pl.isList h0 (by omega) (by rw [hj]; simpa using ew) fin hs
  · have hj : (i + (its.toArray.size : Int)).toNat = j := by
      rw [seqIndex_neg (by omega) h4] at h1
      rw [List.size_toArray, ← hl]
      exact Option.some.inj h1
    exact subscriptTail_builtinR (x := w) pl.isList.typeIs slot_list_getitem.lookup
      (wpAny_getItem_list_neg (Q := fun r s' => r = w ∧ EP X pins σ Q r s') pl.isList (by omega) (by rw [List.size_toArray] <;> omega) (by omega) (by rw [hj]; simpa using ew) ⟨rfl, fin⟩) hs
theorem ix_tup : IxR X (rIxT X.K) := by
  intro value slice pins s σ H x y v u Q I rx ry h hs
  obtain ⟨p, xs, i, z, rfl, rfl, hq, he, q⟩ := h
  cases rx
  obtain ⟨t, rfl⟩ := ry
  obtain ⟨its, r, pl, hz⟩ := I.tuple hq
  obtain ⟨j, h1, h2, h3, h4, h5⟩ := atI_get he
  obtain ⟨w, ew, rw'⟩ := r.get h2
  have hl := r.length
  have hn := line63
  have fin : EP X pins σ Q w s := ⟨z, H, I, rw', q⟩
  exact subscriptTail_builtinR (x := w) pl.typeIs slot_tuple_getitem.lookup
    (getItem_tuple (j := j) (Q := fun r s' => r = w ∧ EP X pins σ Q r s') pl (by omega) (by omega) (by rw [List.size_toArray, ← hl]; exact h1) (by simpa using ew) ⟨rfl, fin⟩) hs
theorem slice_bounds (lo hi : Option Int) (n : Nat) : (sliceBounds lo hi none n).1 = ((HT.sIx n 0 lo : Nat) : Int) ∧ (sliceBounds lo hi none n).2.1 = ((HT.sIx n n hi : Nat) : Int) ∧ (sliceBounds lo hi none n).2.2 = 1 := by
  refine ⟨?_, ?_, rfl⟩
  · cases lo with
    | none => simp [sliceBounds, HT.sIx]
    | some i =>
      simp only [sliceBounds, HT.sIx, Option.getD_none, show (1 : Int) > 0 by decide, if_true]
      by_cases h : i < 0
      · simp only [h, if_true] <;> omega
      · simp only [h, if_false] <;> omega
  · cases hi with
    | none => simp [sliceBounds, HT.sIx]
    | some i =>
      simp only [sliceBounds, HT.sIx, Option.getD_none, show (1 : Int) > 0 by decide, if_true]
      by_cases h : i < 0
      · simp only [h, if_true] <;> omega
      · simp only [h, if_false] <;> omega
theorem slicePick_cut (its : List Value) (lo hi : Option Int) : slicePick its.toArray lo hi none = ((its.drop (HT.sIx its.length 0 lo)).take (HT.sIx its.length its.length hi - HT.sIx its.length 0 lo)).toArray := by
  obtain ⟨h1, h2, h3⟩ := slice_bounds lo hi its.toArray.size
  unfold slicePick
  rw [h1, h2, h3]
  simp only [sliceRange_one, pick_run, List.size_toArray] <;> rfl
/-- xs[lo:hi] of a list: a new list -/
def rSlL (K : PySem.W.Frag) : V → Option Int → Option Int → Hp → VK → Prop := fun x lo hi H Q => ∃ a xs, x = .ref a ∧ SqL K H a xs ∧ ∀ p, H p = none → Q (.ref p) (upd H p (.lst (cutV xs lo hi)))
theorem sl_list : SlR X (rSlL X.K) := by
  intro pins s σ H x v vl vu lo hi sl Q I rx hs pl pu h
  obtain ⟨a, xs, rfl, hx, q⟩ := h
  cases rx
  obtain ⟨its, r, ht, hz⟩ := I.list hx
  have hlen := r.length
  refine ⟨"list", _, slot_list_getitem.lookup, ht.isList.typeIs, ?_⟩
  refine wpAny_getItem_list_slice ht.isList hs pl pu .none (by simp) ?_ (by rw [List.size_toArray] <;> omega)
  rw [slicePick_cut, ← hlen]
  refine ⟨.ref s.heap.objs.size, _, I.laid (t' := s.toks) (o := .lst (cutV xs lo hi)) (fun b ob q => Heap.get?_push_of_some _ q) (Nat.le_refl _) ?_, rfl, q _ (I.hok.fresh (Nat.le_refl _))⟩
  exact ⟨Nat.le_trans (cutV_length xs lo hi) hz, _, 0, (r.drop (HT.sIx xs.length 0 lo)).take (HT.sIx xs.length xs.length hi - HT.sIx xs.length 0 lo), Heap.get?_push_size _ rfl⟩
theorem call_len_seq : CallR X (.builtin "len") (fun xs H Q => ∃ p ys, xs = [.ref p] ∧ (SqL X.K H p ys ∨ SqT X.K H p ys) ∧ Q (.int ys.length) H) := by
  intro pins s σ H xs us Q I r h
  obtain ⟨p, ys, rfl, hq, q⟩ := h
  obtain ⟨u, rfl, rx⟩ := vals1 r
  cases rx
  have hn := line63
  rcases hq with hq | hq
  · obtain ⟨its, r', pl, hz⟩ := I.list hq
    have hlen := r'.length
    exact Calls.call_len_list pl.isList (by simp only [List.size_toArray] <;> omega) ⟨.int ys.length, H, I.tok _, ⟨s.toks + 1, by rw [List.size_toArray, hlen]⟩, q⟩
  · obtain ⟨its, r', pl, hz⟩ := I.tuple hq
    have hlen := r'.length
    exact len_tuple pl (by simp only [List.size_toArray] <;> omega) ⟨.int ys.length, H, I.tok _, ⟨s.toks + 1, by rw [List.size_toArray, hlen]⟩, q⟩
/-- the value is of that builtin type -/
def tyV (K : PySem.W.Frag) (T : String) (x : V) (H : Hp) : Prop := match x with
  | .str _ => T = "str"
  | .int _ => T = "int"
  | .ref p => (T = "list" ∧ ∃ xs, SqL K H p xs) ∨ (T = "tuple" ∧ ∃ o, K.lookup p = some o ∧ o.cls = .type "tuple" ∧ o.dict = none) ∨
      (T = "dict" ∧ ((∃ kvs, H p = some (.dK kvs)) ∨ ∃ kvs, H p = some (.dT kvs))) ∨ (T = "set" ∧ ∃ S n, H p = some (.set S n))
  | _ => False
theorem tyV_is {pins : List (Addr × Obj)} {σ : St} {H : Hp} {s : Shared} {T : String} {x : V} {v : Value} (I : Inv X pins σ H s) (r : RelV x v) (ty : tyV X.K T x H) :
    s.TypeIs v T ∧ ∀ a, v = .ref a → ∃ ob, s.heap.get? a = some ob ∧ ob.dict = none := by
  cases x with
  | str z =>
    obtain ⟨t, rfl⟩ := r
    cases (show T = "str" from ty)
    exact ⟨typeIs_str s z t, fun _ e => nomatch e⟩
  | int i =>
    obtain ⟨t, rfl⟩ := r
    cases (show T = "int" from ty)
    exact ⟨typeIs_int s i t, fun _ e => nomatch e⟩
  | ref p =>
    cases r
    rcases ty with ⟨rfl, xs, hq⟩ | ⟨rfl, o, hk, hc, hd⟩ | ⟨rfl, hk⟩ | ⟨rfl, S, n, hk⟩
    · obtain ⟨its, _, pl, _⟩ := I.list hq
      refine ⟨pl.isList.typeIs, fun a e => ?_⟩
      cases e
      obtain ⟨o, n, e, c, hd, _⟩ := pl
      exact ⟨o, e, hd⟩
    · refine ⟨⟨o, I.kIn p o hk, hc⟩, fun a e => ?_⟩
      cases e
      exact ⟨o, I.kIn _ o hk, hd⟩
    · have z : ∃ o, s.heap.get? p = some o ∧ o.ExactDict := by
        rcases hk with ⟨kvs, hk⟩ | ⟨kvs, hk⟩
        · obtain ⟨_, _, _, _, o, _, _, e, ex, _⟩ := I.hok p _ hk
          exact ⟨o, e, ex⟩
        · obtain ⟨_, _, _, _, o, _, _, e, ex, _⟩ := I.hok p _ hk
          exact ⟨o, e, ex⟩
      obtain ⟨o, e, ex⟩ := z
      refine ⟨⟨o, e, ex.1⟩, fun a e2 => ?_⟩
      cases e2
      exact ⟨o, e, ex.2.1⟩
    · obtain ⟨o, _, _, _, e, ex, _⟩ := I.hok p _ hk
      refine ⟨⟨o, e, ex.1⟩, fun a e2 => ?_⟩
      cases e2
      exact ⟨o, e, ex.2.1⟩
  | _ => exact False.elim ty
def tBM (K : PySem.W.Frag) (T : String) (r : V → List V → Hp → VK → Prop) (to : TE) (t : TA) : TE := fun σ H Q => to σ H fun x H1 => tyV K T x H1 ∧ t σ H1 fun xs H2 => r x xs H2 Q
variable {o e : Expr} {es : List Expr} {to : TE} {t : TA} {name : Str} {apos cpos : Pos} {T id : String} {r : V → List V → Hp → VK → Prop}
theorem pe_bm (pa : PlainAttrs T) (slot : Slot T name id) (hty : typeOf (.builtin id) = pure (.type "method_descriptor")) (hm : MtR X id r) (ho : PE X o to) (ha : PA X (e :: es) t)
    (hbase : attributeBase o name X.env (eval o X.env) = eval o X.env := by rfl)
    (hfew : ((backTo cpos (starEach (e :: es) X.env)).all (fun x => !x.1) && (backToKw cpos (keywordEach [] X.env)).all (fun x => x.1.isSome)
      && decide ((e :: es).length + ([] : List Keyword).length + (if ([] : List Keyword).isEmpty then 0 else 1) < 30)) = true := by rfl)
    (hline : (apos.endLine == cpos.line) = true := by rfl) (hs : starEach (e :: es) X.env = (false, eval e X.env) :: starEach es X.env := by rfl) (hplain : (backTo cpos (starEach es X.env)).any (·.1) = false := by rfl) :
    PE X (.Call (.Attribute o name apos) (e :: es) [] cpos) (tBM X.K T r to t) := by
  intro pins s σ H Q I h
  refine wpAny_Call_method_late hbase hfew hline rfl (thn (ho pins s σ H _ I h) fun v s1 ⟨x, H1, I1, r1, ty, q1⟩ => ?_)
  obtain ⟨h1, h2⟩ := tyV_is I1 r1 ty
  refine ⟨T, id, pa, slot, hty, h1, h2, ?_⟩
  have hA := ha cpos pins s1 σ H1 _ I1 q1
  rw [hs] at hA ⊢
  refine Calls.callWith_builtin (by show (false || (backTo cpos (starEach es X.env)).any (·.1)) = false; rw [hplain] <;> rfl) (Calls.evalArgs_plain ?_)
  exact thn hA fun us s2 ⟨vs, H2, I2, r2, q2⟩ => hm pins s2 σ H2 x vs v us Q I2 r1 r2 q2
/- xs.append(e), list.index on a module's tuple .. are MtR facts of 06m -/
end
end L2
namespace L2
open PySem PySem.Spec PyProof.Rows
def MtM (X : Cx) (id : String) (r : V → List V → Hp → VK → Prop) : Prop :=
  ∀ (pins : List (Addr × Obj)) (s : Shared) (σ : St) (H : Hp) (x : V) (xs : List V) (v : Value) (us : List Value) (Q : VK), Inv X pins σ H s → RelV x v → Vals xs us → r x xs H Q →
    wpAny (model X.prog X.w) X.A (call (.builtin id) (v :: us)) (EP X pins σ Q) X.xe s
theorem Vals.one : ∀ {x : V} {us : List Value}, Vals [x] us → ∃ u, us = [u] ∧ RelV x u
  | _, _, .cons r .nil => ⟨_, rfl, r⟩
theorem Vals.reverse {xs : List V} {us : List Value} (h : Vals xs us) : Vals xs.reverse us.reverse := by
  induction h with
  | nil => exact .nil
  | cons r t ih => rw [List.reverse_cons, List.reverse_cons]; exact Vals.append ih (.cons r .nil)
theorem Vals.rep {xs : List V} {us : List Value} (h : Vals xs us) : ∀ k : Nat, Vals (List.replicate k xs).flatten (List.replicate k us).flatten
  | 0 => .nil
  | k + 1 => by
    rw [List.replicate_succ, List.replicate_succ, List.flatten_cons, List.flatten_cons]
    exact Vals.append h (Vals.rep h k)
theorem foldl_rep (its : List Value) : ∀ (k : Nat) (acc : List Value),
    List.foldl (fun x1 x2 => x1 ++ x2) acc.toArray (List.replicate k its.toArray) = (acc ++ (List.replicate k its).flatten).toArray
  | 0, acc => by simp
  | k + 1, acc => by
    have e : acc.toArray ++ its.toArray = (acc ++ its).toArray := by simp
    have e2 : (acc ++ its) ++ (List.replicate k its).flatten = acc ++ (List.replicate (k + 1) its).flatten := by
      rw [List.replicate_succ, List.flatten_cons, List.append_assoc]
    rw [← e2, ← foldl_rep its k (acc ++ its), ← e, List.replicate_succ, List.foldl_cons]
section
variable {X : Cx} {pins : List (Addr × Obj)} {σ : St} {H : Hp} {s : Shared} {l b : Addr} {xs ys zs : List V}
theorem Inv.lset {its its' : List Value} {n : Nat} {f : Array Value → Array Value} {t' : Nat} (I : Inv X pins σ H s) (hH : H l = some (.lst xs))
    (e : s.heap.get? l = some { cls := .type "list", data := .seq its.toArray n }) (hf : f its.toArray = its'.toArray) (hv : Vals ys its') (hz : ys.length ≤ sizeLine) :
    Inv X pins σ (upd H l (.lst ys)) { s with heap := s.heap.update l (Obj.mapSeq f), toks := t' } := by
  have q := PySem.IsL.update e f
  rw [hf] at q
  refine I.write (x := l) (e := l) (by rw [hH]; exact trivial) (.inl rfl) (fun b' u hb hu => (Heap.get?_update_other s.heap (Obj.mapSeq f) (Ne.symm hb)).trans hu) ⟨_, q⟩ ?_
  exact ⟨hz, its', _, hv, q⟩
theorem Inv.lnew {its : List Value} {t' : Nat} (I : Inv X pins σ H s) (hv : Vals ys its) (hz : ys.length ≤ sizeLine) :
    Inv X pins σ (upd H s.heap.objs.size (.lst ys)) { s with heap := s.heap.push { cls := .type "list", data := .seq its.toArray }, toks := t' } :=
  I.laid (fun _ _ q => Heap.get?_push_of_some _ q) (Nat.le_refl _) ⟨hz, its, 0, hv, Heap.get?_push_size _ rfl⟩
theorem Inv.fresh (I : Inv X pins σ H s) : H s.heap.objs.size = none := I.hok.fresh (Nat.le_refl _)
theorem Inv.lstM (I : Inv X pins σ H s) (hH : H l = some (.lst xs)) : xs.length ≤ sizeLine ∧ ∃ (its : List Value) (n : Nat), Vals xs its ∧ xs.length = its.length ∧ s.heap.get? l = some { cls := .type "list", data := .seq its.toArray n } := by
  obtain ⟨z, its, n, r, e⟩ := I.hok l _ hH
  exact ⟨z, its, n, r, r.length, e⟩
theorem notLongL {n : Nat} (h : n ≤ sizeLine) : Builtin.List.listTooLong n = false := by
  unfold Builtin.List.listTooLong
  exact decide_eq_false (by omega)
end
section
variable {X : Cx}
def rAppend : V → List V → Hp → VK → Prop := fun x vs H Q => ∃ l xs y, x = .ref l ∧ vs = [y] ∧ H l = some (.lst xs) ∧ xs.length < sizeLine ∧ Q .non (upd H l (.lst (xs ++ [y])))
theorem mt_append : MtM X "list.append" rAppend := by
  intro pins s σ H x vs v us Q I rx rv h
  obtain ⟨l, xs, y, rfl, rfl, hH, hz, q⟩ := h
  cases rx
  obtain ⟨u, rfl, ru⟩ := rv.one
  obtain ⟨z, its, n, r, hl, e⟩ := I.lstM hH
  refine call_meets F.slot_list_append ⟨_, e, rfl⟩ F.entry_list_append (F.args_list_append_2 _ _) (PySem.list_append l its.toArray n u (by rw [List.size_toArray]; omega)) ⟨e, ?_⟩
  refine ⟨.non, _, I.lset (its' := its ++ [u]) hH e (by simp) (r.append (.cons ru .nil)) ?_, rfl, q⟩
  rw [List.length_append, List.length_singleton]
  omega
def rExtend : V → List V → Hp → VK → Prop := fun x vs H Q => ∃ l b xs zs, x = .ref l ∧ vs = [.ref b] ∧ H l = some (.lst xs) ∧ H b = some (.lst zs) ∧ xs.length + zs.length ≤ sizeLine ∧ Q .non (upd H l (.lst (xs ++ zs)))
theorem mt_extend : MtM X "list.extend" rExtend := by
  intro pins s σ H x vs v us Q I rx rv h
  obtain ⟨l, b, xs, zs, rfl, rfl, hH, hB, hz, q⟩ := h
  cases rx
  obtain ⟨u, rfl, ru⟩ := rv.one
  cases ru
  obtain ⟨z, its, n, r, hl, e⟩ := I.lstM hH
  obtain ⟨z2, its2, n2, r2, hl2, e2⟩ := I.lstM hB
  have hsz : its.toArray.size + its2.toArray.size ≤ sizeLine := by rw [List.size_toArray, List.size_toArray]; omega
  have hlong : ¬ (!its.toArray.isEmpty && Builtin.List.listTooLong (its.toArray.size + its2.toArray.size)) = true := by
    rw [notLongL hsz, Bool.and_false]
    exact Bool.false_ne_true
  refine call_meets F.slot_list_extend ⟨_, e, rfl⟩ F.entry_list_extend (F.args_list_extend_2 _ _)
    (AutoSeq1.list_extend_list_list_0 l its.toArray n b its2.toArray n2 hlong (by rw [List.size_toArray]; omega) (by omega)) ⟨e, e2, ?_⟩
  refine ⟨.non, _, I.lset (its' := its ++ its2) hH e (by simp) (r.append r2) ?_, rfl, q⟩
  rw [List.length_append]
  omega
def rCat : R2 := fun x y H Q => ∃ l b xs zs, x = .ref l ∧ y = .ref b ∧ H l = some (.lst xs) ∧ H b = some (.lst zs) ∧ xs.length + zs.length ≤ sizeLine ∧ ∀ p, H p = none → Q (.ref p) (upd H p (.lst (xs ++ zs)))
theorem op_cat : OpR X (binaryOp .Add) rCat := by
  intro pins s σ H x y v u Q I rx ry h
  obtain ⟨l, b, xs, zs, rfl, rfl, hH, hB, hz, q⟩ := h
  cases rx
  cases ry
  obtain ⟨z, its, n, r, hl, e⟩ := I.lstM hH
  obtain ⟨z2, its2, n2, r2, hl2, e2⟩ := I.lstM hB
  refine PySem.P.add_list e e2 ?_ (by rw [List.size_toArray, List.size_toArray]; omega)
  have ea : its.toArray ++ its2.toArray = (its ++ its2).toArray := by simp
  rw [ea]
  exact ⟨.ref _, _, I.lnew (t' := s.toks) (r.append r2) (by rw [List.length_append]; omega), rfl, q _ I.fresh⟩
/-- a list times an int (a negative one is nothing) -/
def rRep : R2 := fun x y H Q => ∃ l k xs, x = .ref l ∧ y = .int k ∧ H l = some (.lst xs) ∧ -(2 ^ 63) ≤ k ∧ k < 2 ^ 63 ∧ xs.length * k.toNat ≤ sizeLine ∧
  ∀ p, H p = none → Q (.ref p) (upd H p (.lst (List.replicate k.toNat xs).flatten))
theorem len_rep {α : Type} (xs : List α) (k : Nat) : (List.replicate k xs).flatten.length = k * xs.length := by
  induction k with
  | zero => simp
  | succ k ih => rw [List.replicate_succ, List.flatten_cons, List.length_append, ih, Nat.succ_mul, Nat.add_comm]
theorem op_rep : OpR X (binaryOp .Mult) rRep := by
  intro pins s σ H x y v u Q I rx ry h
  obtain ⟨l, k, xs, rfl, rfl, hH, h1, h2, hz, q⟩ := h
  cases rx
  obtain ⟨t, rfl⟩ := ry
  obtain ⟨z, its, n, r, hl, e⟩ := I.lstM hH
  have hlen : its.toArray.size * k.toNat ≤ sizeLine := by rw [List.size_toArray, ← hl]; exact hz
  have hcap : ¬ its.toArray.size * k.toNat > (2 ^ 63 - 1) / 8 := by
    have : (sizeLine : Nat) ≤ (2 ^ 63 - 1) / 8 := by decide
    omega
  have hfit : ¬ (!Builtin.List.listFitsIndex k) = true := by
    rw [fitsIndex_both h1 h2]
    exact Bool.false_ne_true
  have hlong : ¬ Builtin.List.listTooLong (its.toArray.size * k.toNat) = true := by
    rw [notLongL hlen]
    exact Bool.false_ne_true
  have hnew : List.foldl (fun x1 x2 => x1 ++ x2) #[] (List.replicate (if its.toArray.isEmpty = true then 0 else k.toNat) its.toArray) = (List.replicate k.toNat its).flatten.toArray := by
    have f0 : ∀ m : Nat, List.foldl (fun x1 x2 => x1 ++ x2) #[] (List.replicate m its.toArray) = (List.replicate m its).flatten.toArray := fun m => by
      have := foldl_rep its m []
      rw [List.nil_append] at this
      exact this
    rw [f0]
    cases its with
    | nil => simp
    | cons a r' => rw [if_neg (by simp)]
  refine wpAny_binaryOp_repeat_ref (T := "list") (U := "int") (by decide) ⟨_, e, rfl⟩ (fun s' => typeIs_int s' k t) noFill_list_mul F.fills_int_mul F.slot_int_rmul repeat_list F.slot_int_index.lookup
    (call_meets F.slot_int_rmul (typeIs_int s k t) F.entry_int_rmul (F.args_int_rmul_2 _ _) (int___rmul___int_list k t l its.toArray n)
      ⟨e, rfl, ⟨_, e, rfl⟩, call_meets F.slot_list_mul ⟨_, e, rfl⟩ F.entry_list_mul (F.args_list_mul_2 _ _) (AutoListH.list___mul___list_int_3 l its.toArray n k t hfit hcap hlong) ⟨e, ?_⟩⟩)
  rw [hnew]
  exact ⟨.ref _, _, I.lnew (t' := s.toks) (r.rep k.toNat) (by rw [len_rep, Nat.mul_comm]; exact hz), rfl, q _ I.fresh⟩
end
section
variable {prog : Program} {w : World} {A : Around} {E : Value → Shared → Prop} {s : Shared}
set_option maxRecDepth 100000 in
end
end L2
namespace L2
open PySem PySem.Spec PyProof.Rows
theorem Vals.ints : ∀ {ns : List Int} {us : List Value}, Vals (ns.map V.int) us → IntsAre us ns
  | [], us, h => by
    rw [List.map_nil] at h
    cases h
    exact IntsAre.nil
  | n :: ns, us, h => by
    rw [List.map_cons] at h
    cases h with
    | cons r t =>
      obtain ⟨k, rfl⟩ := r
      exact IntsAre.cons n k (Vals.ints t)
theorem Vals.ref1 {a : Addr} {us : List Value} (r : Vals [V.ref a] us) : us = [Value.ref a] := by
  cases r with
  | cons r t =>
    cases t
    cases r
    rfl
section
variable {prog : Program} {w : World} {A : Around} {E : Value → Shared → Prop} {s : Shared} {l : Addr} {its : List Value} {ns : List Int} {Q : Value → Shared → Prop}
theorem sum_raw (hh : A.handled = none) (hl : s.heap.IsList l its.toArray) (hi : IntsAre its ns)
    (h : ∀ h' tk t', (∀ b o, s.heap.get? b = some o → h'.get? b = some o) → Q (.int ns.sum t') { s with heap := h', toks := tk }) : wpAny (model prog w) A (call (.builtin "sum") [.ref l]) Q E s := by
  obtain ⟨xs, e⟩ := hi.allInts.items
  have hn : numsOf (intItems xs).toList = ns := by rw [← e]; exact hi.numsOf
  rw [nums_intItems] at hn
  rw [e] at hl
  refine PySem.sum_intListG hh hl fun h' tk t' hk => ?_
  have := h h' tk t' hk
  rw [preSum_eq, List.take_of_length_le (by simp), hn]; exact this
end
section
variable {X : Cx}
/-- sum(xs) of a list of ints -/
def rSum (K : PySem.W.Frag) : List V → Hp → VK → Prop := fun vs H Q => ∃ (a : Addr) (ns : List Int), vs = [V.ref a] ∧ SqL K H a (ns.map V.int) ∧ Q (.int ns.sum) H
theorem cr_sum (hc : X.calm = true) : CallR X (.builtin "sum") (rSum X.K) := by
  intro pins s σ H vs us Q I r h
  obtain ⟨a, ns, rfl, hs, q⟩ := h
  obtain ⟨its, rv, hl, _⟩ := I.list hs
  rw [Vals.ref1 r]
  exact sum_raw (I.ok.hd hc) hl.isList rv.ints fun h' tk t' hk => ⟨.int _, H, I.kept hk, ⟨_, rfl⟩, q⟩
end
end L2
namespace L2
open PySem PySem.Spec PyProof.Rows
abbrev CellAt (h : Heap) (c : Addr) (v : Option Value) : Prop := h.IsCell c v
def relS (scope sc : Scope) : Scope :=
  { scope with names := scope.names.map fun (n, k) => if (k == .free && sc.kind == .function && sc.names.lookup n == some .cell) then (n, .cell) else (n, k) }
def cloFrom (cells : List (Str × Addr)) : List (Str × NameKind) → List (Str × Addr) → List (Str × Addr)
  | [], acc => acc
  | (n, k) :: r, acc => if k == .free then cloFrom cells r ((n, (cells.lookup n).getD 0) :: acc) else cloFrom cells r acc
theorem closure_loop (env : Env) (f : Str × NameKind → List (Str × Addr) → Sem (ForInStep (List (Str × Addr))))
    (hf : ∀ n k c, f (n, k) c = if k == .free then (do let a ← cellOf env n; pure (.yield ((n, a) :: c))) else pure (.yield c)) :
    ∀ (names : List (Str × NameKind)) (acc : List (Str × Addr)), (∀ y ∈ names, y.2 = .free → ∃ c, env.cells.lookup y.1 = some c) → forIn names acc f = pure (cloFrom env.cells names acc)
  | [], acc, _ => by rw [List.forIn_nil]; rfl
  | (n, k) :: r, acc, h => by
    rw [List.forIn_cons, hf]
    have ih := fun acc => closure_loop env f hf r acc fun y hy => h y (List.mem_cons_of_mem _ hy)
    unfold cloFrom
    by_cases hk : (k == NameKind.free) = true
    · rw [if_pos hk, if_pos hk]
      obtain ⟨c, hc⟩ := h (n, k) List.mem_cons_self (by simpa using hk)
      have e : cellOf env n = pure c := by unfold cellOf; rw [hc]
      rw [e]
      have e2 : (env.cells.lookup n).getD 0 = c := by rw [hc]; rfl
      rw [e2]
      exact ih _
    · rw [if_neg hk, if_neg hk]
      exact ih _
theorem closure_ok {scope : Scope} {env : Env} (h : ∀ y ∈ scope.names, y.2 = .free → ∃ c, env.cells.lookup y.1 = some c) : closureFor scope env = pure (cloFrom env.cells scope.names []) := by
  simp only [closureFor]
  rw [closure_loop env _ (fun n k c => rfl) scope.names [] h]
  rfl
theorem mem_lookup {α : Type} : ∀ {l : List (Str × α)} {n : Str} {c : α}, (n, c) ∈ l → ∃ c', l.lookup n = some c'
  | (k, v) :: r, n, c, h => by
    rw [List.lookup_cons]
    cases hb : n == k with
    | true => exact ⟨_, rfl⟩
    | false =>
      rcases List.mem_cons.mp h with e | h
      · cases e; simp at hb
      · exact mem_lookup h
theorem cloFrom_mem {cells : List (Str × Addr)} : ∀ {names : List (Str × NameKind)} {acc : List (Str × Addr)} {n : Str} {c : Addr}, (n, c) ∈ cloFrom cells names acc → (n, c) ∈ acc ∨ ((n, .free) ∈ names ∧ c = (cells.lookup n).getD 0)
  | [], _, _, _, h => .inl h
  | (m, k) :: r, acc, n, c, h => by
    unfold cloFrom at h
    split at h
    · rename_i hk
      have hk : k = .free := by simpa using hk
      rcases cloFrom_mem h with h | ⟨h1, h2⟩
      · rcases List.mem_cons.mp h with e | h
        · cases e; exact .inr ⟨hk ▸ List.mem_cons_self, rfl⟩
        · exact .inl h
      · exact .inr ⟨List.mem_cons_of_mem _ h1, h2⟩
    · rcases cloFrom_mem h with h | ⟨h1, h2⟩
      · exact .inl h
      · exact .inr ⟨List.mem_cons_of_mem _ h1, h2⟩
theorem cloFrom_acc {cells : List (Str × Addr)} : ∀ {names : List (Str × NameKind)} {acc : List (Str × Addr)} {p : Str × Addr}, p ∈ acc → p ∈ cloFrom cells names acc
  | [], _, _, h => h
  | (m, k) :: r, acc, p, h => by
    unfold cloFrom
    split
    · exact cloFrom_acc (List.mem_cons_of_mem _ h)
    · exact cloFrom_acc h
theorem cloFrom_has {cells : List (Str × Addr)} : ∀ {names : List (Str × NameKind)} {acc : List (Str × Addr)} {n : Str}, (n, .free) ∈ names → (n, (cells.lookup n).getD 0) ∈ cloFrom cells names acc
  | (m, k) :: r, acc, n, h => by
    unfold cloFrom
    rcases List.mem_cons.mp h with e | h
    · cases e
      exact cloFrom_acc List.mem_cons_self
    · split
      · exact cloFrom_has h
      · exact cloFrom_has h
theorem cells_mem : ∀ {names : List (Str × NameKind)} {h : Heap} {acc : List (Str × Addr)} {x : Str} {c : Addr}, (x, c) ∈ cellsFrom h.objs.size names acc →
    (x, c) ∈ acc ∨ ((x, .cell) ∈ names ∧ h.objs.size ≤ c ∧ CellAt (pushCells h names) c none)
  | [], _, _, _, _, h => .inl h
  | (n, k) :: r, h, acc, x, c, hm => by
    unfold cellsFrom at hm
    unfold pushCells
    split at hm
    · rename_i hk
      rw [if_pos hk]
      have hk : k = .cell := by simpa using hk
      rw [← Heap.size_push h { cls := .type "cell", data := .cell none }] at hm
      rcases cells_mem hm with hm | ⟨h1, h2, h3⟩
      · rcases List.mem_cons.mp hm with e | hm
        · cases e
          exact .inr ⟨hk ▸ List.mem_cons_self, Nat.le_refl _, _, pushCells_keeps r _ _ _ (Heap.get?_push_size _ rfl), rfl⟩
        · exact .inl hm
      · rw [Heap.size_push] at h2
        exact .inr ⟨List.mem_cons_of_mem _ h1, Nat.le_of_succ_le h2, h3⟩
    · rename_i hk
      rw [if_neg hk]
      rcases cells_mem hm with hm | ⟨h1, h2, h3⟩
      · exact .inl hm
      · exact .inr ⟨List.mem_cons_of_mem _ h1, h2, h3⟩
theorem cells_acc : ∀ {names : List (Str × NameKind)} {n : Nat} {acc : List (Str × Addr)} {p : Str × Addr}, p ∈ acc → p ∈ cellsFrom n names acc
  | [], _, _, _, h => h
  | (m, k) :: r, n, acc, p, h => by
    unfold cellsFrom
    split
    · exact cells_acc (List.mem_cons_of_mem _ h)
    · exact cells_acc h
theorem cells_has : ∀ {names : List (Str × NameKind)} {n : Nat} {acc : List (Str × Addr)} {x : Str}, (x, .cell) ∈ names → ∃ c, (x, c) ∈ cellsFrom n names acc
  | (m, k) :: r, n, acc, x, h => by
    unfold cellsFrom
    rcases List.mem_cons.mp h with e | h
    · cases e
      exact ⟨n, cells_acc List.mem_cons_self⟩
    · split
      · exact cells_has h
      · exact cells_has h
theorem cells_inj : ∀ {names : List (Str × NameKind)} {h : Heap} {acc : List (Str × Addr)} {x y : Str} {c : Addr}, (∀ p ∈ acc, p.2 < h.objs.size) → (∀ x y c, (x, c) ∈ acc → (y, c) ∈ acc → x = y) →
    (x, c) ∈ cellsFrom h.objs.size names acc → (y, c) ∈ cellsFrom h.objs.size names acc → x = y
  | [], _, _, _, _, _, _, hi, h1, h2 => hi _ _ _ h1 h2
  | (n, k) :: r, h, acc, x, y, c, hl, hi, h1, h2 => by
    unfold cellsFrom at h1 h2
    split at h1
    · rename_i hk
      rw [if_pos hk] at h2
      rw [← Heap.size_push h { cls := .type "cell", data := .cell none }] at h1 h2
      refine cells_inj (h := h.push _) (fun p hp => ?_) (fun x y c a b => ?_) h1 h2
      · rw [Heap.size_push]
        rcases List.mem_cons.mp hp with rfl | hp
        · exact Nat.lt_succ_self _
        · exact Nat.lt_succ_of_lt (hl p hp)
      · rcases List.mem_cons.mp a with e | a <;> rcases List.mem_cons.mp b with e' | b
        · cases e; cases e'; rfl
        · cases e; exact absurd (hl _ b) (Nat.lt_irrefl _)
        · cases e'; exact absurd (hl _ a) (Nat.lt_irrefl _)
        · exact hi _ _ _ a b
    · rename_i hk
      rw [if_neg hk] at h2
      exact cells_inj hl hi h1 h2
theorem newEnv_comp {M : Model} {A : Around} {E : Value → Shared → Prop} {s : Shared} {scope : Scope} {globals : Addr} {closure : List (Str × Addr)} {qual : Str} {func : Option Addr} {code : Value} {around : Env} {builtins : Addr} {Q : Env → Shared → Prop}
    (h : Q (newEnv scope s.heap.objs.size globals (cellsFrom (s.heap.objs.size + 1) scope.names closure) qual func code (some around) builtins)
      { s with heap := pushCells (s.heap.push { cls := .type "dict", data := .dict #[] }) scope.names }) :
    wpAny M A (newFunctionEnv scope globals closure [] qual func code (some around) builtins) Q E s := by
  simp only [newFunctionEnv, Option.isSome_some, if_true]
  refine wpAny_bind (wpAny_alloc ?_)
  refine wpAny_bind (wpAny_layCells _ (fun n k c => rfl) scope.names closure _ _ ?_)
  rw [show ({ s with heap := s.heap.push { cls := .type "dict", data := .dict #[] } } : Shared).heap.objs.size = s.heap.objs.size + 1 from Heap.size_push ..]
  rw [List.forIn_nil]
  exact wpAny_bind (wpAny_pure (wpAny_pure h))
/-- every name of the written scope, in the scope that runs -/
theorem lookup_relS {sc : Scope} : ∀ {names : List (Str × NameKind)} {x : Str} {k : NameKind},
    (names.map fun (n, k) => if (k == NameKind.free && sc.kind == .function && sc.names.lookup n == some .cell) then (n, NameKind.cell) else (n, k)).lookup x = some k →
    ∃ k', names.lookup x = some k' ∧ (k = k' ∨ (k' = .free ∧ k = .cell))
  | [], _, _, h => by simp at h
  | (n, k₀) :: r, x, k, h => by
    have ih := @lookup_relS sc r x k
    have h' : List.lookup x ((if (k₀ == NameKind.free && sc.kind == .function && sc.names.lookup n == some .cell) = true then (n, NameKind.cell) else (n, k₀)) :: (r.map _)) = some k := h
    cases hx : x == n with
    | true =>
      simp only [List.lookup_cons, hx]
      by_cases hc : (k₀ == NameKind.free && sc.kind == .function && sc.names.lookup n == some .cell) = true
      · rw [if_pos hc] at h'
        simp only [List.lookup_cons, hx] at h'
        cases h'
        simp only [Bool.and_eq_true, beq_iff_eq] at hc
        exact ⟨k₀, rfl, .inr ⟨hc.1.1, rfl⟩⟩
      · rw [if_neg hc] at h'
        simp only [List.lookup_cons, hx] at h'
        cases h'
        exact ⟨_, rfl, .inl rfl⟩
    | false =>
      simp only [List.lookup_cons, hx]
      by_cases hc : (k₀ == NameKind.free && sc.kind == .function && sc.names.lookup n == some .cell) = true
      · rw [if_pos hc] at h'
        simp only [List.lookup_cons, hx] at h'
        exact ih h'
      · rw [if_neg hc] at h'
        simp only [List.lookup_cons, hx] at h'
        exact ih h'
/-- the names of a comprehension's block: its own (with their places in N), or captured -/
structure BlkOk (N : List Str) (sc scope : Scope) (own : List (Str × Nat)) : Prop where
  kind : scope.kind = .function
  uniq : ∀ y ∈ scope.names, scope.names.lookup y.1 = some y.2
  ix : ∀ p ∈ own, N[p.2]? = some p.1
  free : ∀ y ∈ scope.names, y.2 = .free → sc.names.lookup y.1 = some .cell ∨ sc.names.lookup y.1 = some .free
  own : ∀ y ∈ scope.names, y.2 = .local ∨ y.2 = .cell → y.1 ∈ own.map (·.1) ∨ y.1 ∉ N
/-- the slots of the block's own names forgotten -/
def wipe (σ : St) : List Nat → St
  | [] => σ
  | v :: vs => (wipe σ vs).set v none
theorem wipe_length (σ : St) : ∀ vs : List Nat, (wipe σ vs).length = σ.length
  | [] => rfl
  | v :: vs => by unfold wipe; rw [List.length_set, wipe_length σ vs]
theorem wipe_some {σ : St} {i : Nat} {x : V} : ∀ {vs : List Nat}, (wipe σ vs)[i]? = some (some x) → σ[i]? = some (some x) ∧ i ∉ vs
  | [], h => ⟨h, by simp⟩
  | v :: vs, h => by
    unfold wipe at h
    by_cases hi : v = i
    · subst hi
      by_cases hv : v < (wipe σ vs).length
      · rw [List.getElem?_set_self hv] at h; cases h
      · rw [List.getElem?_eq_none (by simpa using hv)] at h; cases h
    · rw [List.getElem?_set_ne hi] at h
      obtain ⟨h1, h2⟩ := wipe_some h
      exact ⟨h1, by simp only [List.mem_cons, not_or]; exact ⟨fun e => hi e.symm, h2⟩⟩
/-- the context of a block that starts at s, its iterator's objects at fp -/
abbrev Cx.blk (X : Cx) (s : Shared) (H : Hp) (scope : Scope) (cenv : Env) (fp : List Addr) : Cx := { X with s_0 := s, H_0 := H, env := cenv, outer := X.stack, ex := fp, fn := fun x => scope.names.lookup x == some .cell, pn := [], xe := fun _ _ => False }
section
variable {X : Cx} {pins : List (Addr × Obj)} {σ : St} {H : Hp} {s : Shared}
theorem block_start {scope : Scope} {own : List (Str × Nat)} {fp : List Addr} (I : Inv X pins σ H s) (ok : BlkOk X.N X.env.scope scope own) (hN : X.N.Nodup) (hfp : ∀ b ∈ fp, FpOk X pins H b ∧ b < s.heap.objs.size) :
    Inv (X.blk s H scope (compEnvC scope (cellsFrom (s.heap.objs.size + 1) scope.names (cloFrom X.env.cells scope.names [])) s.heap.objs.size X.env) fp) [] (wipe σ (own.map (·.2))) H { s with heap := pushCells (s.heap.push { cls := .type "dict", data := .dict #[] }) scope.names } := by
  have hfree : ∀ y ∈ scope.names, y.2 = .free → ∃ c, X.env.cells.lookup y.1 = some c := fun y hy e => by
    rcases ok.free y hy e with k | k
    · exact I.ok.has _ (.inl k)
    · exact I.ok.has _ (.inr k)
  generalize hcenv : compEnvC scope (cellsFrom (s.heap.objs.size + 1) scope.names (cloFrom X.env.cells scope.names [])) s.heap.objs.size X.env = cenv
  have kp : ∀ b o, s.heap.get? b = some o → (pushCells (s.heap.push { cls := .type "dict", data := .dict #[] }) scope.names).get? b = some o := fun b o e => pushCells_keeps _ _ _ _ (Heap.get?_push_of_some _ e)
  have hL : cenv.locals = s.heap.objs.size := by rw [← hcenv]; rfl
  have hcl : cenv.cells = cellsFrom (s.heap.objs.size + 1) scope.names (cloFrom X.env.cells scope.names []) := by rw [← hcenv]; rfl
  have hsc : cenv.scope = relS scope X.env.scope := by rw [← hcenv]; rfl
  rw [← Heap.size_push s.heap { cls := .type "dict", data := .dict #[] }] at hcl
  have cm : ∀ {y c}, (y, c) ∈ cloFrom X.env.cells scope.names [] → X.env.cells.lookup y = some c ∧ c < s.heap.objs.size := fun {y c} hm => by
    rcases cloFrom_mem hm with hm | ⟨h1, rfl⟩
    · cases hm
    · obtain ⟨c, hc⟩ := hfree _ h1 rfl
      rw [hc]
      obtain ⟨w, z⟩ := I.cell _ _ hc
      exact ⟨rfl, z.lt⟩
  have mem : ∀ {y c}, cenv.cells.lookup y = some c → (X.env.cells.lookup y = some c ∧ c < s.heap.objs.size) ∨ (s.heap.objs.size + 1 ≤ c ∧ CellAt (pushCells (s.heap.push { cls := .type "dict", data := .dict #[] }) scope.names) c none) := fun {y c} e => by
    rw [hcl] at e
    rcases cells_mem (PySem.mem_of_lookup e) with hm | ⟨_, h2, h3⟩
    · exact .inl (cm hm)
    · rw [Heap.size_push] at h2; exact .inr ⟨h2, h3⟩
  have look : ∀ {y}, scope.names.lookup y = some .free → ∃ c, cenv.cells.lookup y = some c ∧ X.env.cells.lookup y = some c := fun {y} hl => by
    have hy : (y, NameKind.free) ∈ scope.names := PySem.mem_of_lookup hl
    obtain ⟨c', e'⟩ := mem_lookup (cells_acc (names := scope.names) (n := (s.heap.push { cls := .type "dict", data := .dict #[] }).objs.size) (cloFrom_has (cells := X.env.cells) (acc := []) hy))
    rw [← hcl] at e'
    refine ⟨c', e', ?_⟩
    rw [hcl] at e'
    rcases cells_mem (PySem.mem_of_lookup e') with hm | ⟨h1, _, _⟩
    · exact (cm hm).1
    · have := ok.uniq _ h1
      rw [hl] at this; cases this
  have okB : (X.blk s H scope cenv fp).Ok := by
    refine ⟨I.ok.mod, by show cenv.scope.kind = _; rw [hsc]; exact ok.kind, by show cenv.globals = _; rw [← hcenv]; exact I.ok.glob, by show cenv.builtins = _; rw [← hcenv]; exact I.ok.blt, by show s.heap.objs.size ≤ cenv.locals; rw [hL]; exact Nat.le_refl _,
      fun y z c e1 e2 => ?_, fun y hy => ?_, fun y c z e => ?_, I.ok.hd, I.ok.frames, .inl rfl, fun b hb => ⟨?_, fun y c e z => ?_⟩, I.bs, Nat.le_trans I.ok.bsz I.sz, fun b o e hb => ?_, fun b hb z => ?_, I.stack, I.stkFree⟩
    · have e1 : cenv.cells.lookup y = some c := e1
      have e2 : cenv.cells.lookup z = some c := e2
      rw [hcl] at e1 e2
      refine cells_inj (fun p hp => ?_) (fun y z c a b => I.ok.inj y z c (cm a).1 (cm b).1) (PySem.mem_of_lookup e1) (PySem.mem_of_lookup e2)
      rw [Heap.size_push]
      exact Nat.lt_succ_of_lt (cm (y := p.1) (c := p.2) hp).2
    · show ∃ c, cenv.cells.lookup y = some c
      have key : ∀ k, cenv.kindOf y = some k → (k = .cell ∨ k = .free) → ∃ c, cenv.cells.lookup y = some c := fun k hk hk' => by
        unfold Env.kindOf at hk
        rw [hsc] at hk
        obtain ⟨k', e, r⟩ := lookup_relS hk
        have : k' = .cell ∨ k' = .free := by
          rcases r with rfl | ⟨rfl, _⟩
          · exact hk'
          · exact .inr rfl
        rcases this with rfl | rfl
        · obtain ⟨c, hm⟩ := cells_has (n := (s.heap.push { cls := .type "dict", data := .dict #[] }).objs.size) (acc := cloFrom X.env.cells scope.names []) (PySem.mem_of_lookup e)
          obtain ⟨c', e'⟩ := mem_lookup hm
          exact ⟨c', by rw [hcl]; exact e'⟩
        · obtain ⟨c, h1, _⟩ := look e
          exact ⟨c, h1⟩
      rcases hy with hy | hy
      · exact key _ hy (.inl rfl)
      · exact key _ hy (.inr rfl)
    · have z : (scope.names.lookup y == some NameKind.cell) = true := z
      have z : scope.names.lookup y = some .cell := by simpa using z
      have e : cenv.cells.lookup y = some c := e
      rw [hcl] at e
      rcases cells_mem (PySem.mem_of_lookup e) with hm | ⟨_, h2, _⟩
      · rcases cloFrom_mem hm with hm | ⟨h1, _⟩
        · cases hm
        · have q := ok.uniq _ h1
          rw [z] at q; cases q
      · rw [Heap.size_push] at h2
        exact Nat.le_of_succ_le h2
    · show b ≠ cenv.locals
      rw [hL]; exact Nat.ne_of_lt (hfp b hb).2
    · have e : cenv.cells.lookup y = some c := e
      rcases mem e with ⟨h1, _⟩ | ⟨h1, _⟩
      · exact (hfp b hb).1.2.2.2.2.1 y c h1 z
      · have h2 : s.heap.objs.size + 1 ≤ b := by rw [← z]; exact h1
        exact absurd (Nat.lt_of_lt_of_le (hfp b hb).2 (Nat.le_of_succ_le h2)) (Nat.lt_irrefl _)
    · rcases (hfp b hb).1.2.2.2.1 with z | z
      · exact I.ok.noex b o e z
      · exact absurd (Nat.lt_of_lt_of_le (Heap.lt_size e) (Nat.le_trans I.ok.bsz z)) (Nat.lt_irrefl _)
    · rcases List.mem_cons.mp (I.stkSub b z) with z | z
      · exact (hfp b hb).1.2.1 z
      · exact (hfp b hb).1.2.2.1 z
  refine ⟨okB, rfl, I.bare, Un.kept kp, ⟨fun _ => none, ?_, fun i y av e1 e2 e3 => ?_⟩, fun y c e => ?_, ?_, fun y c e => ?_, fun p hp => ?_, I.hok.kept kp, by rw [wipe_length]; exact I.len⟩
  · show Heap.Ns _ cenv.locals _
    rw [hL]
    exact Heap.Ns.keeps (Heap.Ns.new ..) fun b o e => pushCells_keeps _ _ _ _ e
  · obtain ⟨e2, hne⟩ := wipe_some e2
    have hfr : scope.names.lookup y = some .free ∧ (cenv.kindOf y = some .cell ∨ cenv.kindOf y = some .free) := by
      have key : ∀ k, cenv.scope.names.lookup y = some k → k = .local ∨ k = .cell ∨ k = .free → scope.names.lookup y = some .free ∧ (cenv.kindOf y = some .cell ∨ cenv.kindOf y = some .free) := fun k hk hk' => by
        have hk0 := hk
        rw [hsc] at hk
        obtain ⟨k', e, r⟩ := lookup_relS hk
        have no : ¬ (k' = .local ∨ k' = .cell) := fun hh => by
          rcases ok.own _ (PySem.mem_of_lookup e) hh with e' | e'
          · obtain ⟨p, hp, hpy⟩ := List.mem_map.mp e'
            have e3 := ok.ix p hp
            have : p.1 = y := hpy
            rw [this] at e3
            exact hne (List.mem_map.mpr ⟨p, hp, nodup_ix hN e3 e1⟩)
          · exact e' (List.mem_of_getElem? e1)
        rcases r with rfl | ⟨rfl, rfl⟩
        · rcases hk' with rfl | rfl | rfl
          · exact absurd (.inl rfl) no
          · exact absurd (.inr rfl) no
          · exact ⟨e, .inr hk0⟩
        · exact ⟨e, .inl hk0⟩
      have e3 : Vis cenv.scope y := e3
      rcases e3 with e3 | e3 | e3
      · exact key _ e3 (.inl rfl)
      · exact key _ e3 (.inr (.inl rfl))
      · exact key _ e3 (.inr (.inr rfl))
    obtain ⟨m, hn, hl⟩ := I.loc
    have hvis : Vis X.env.scope y := (ok.free _ (PySem.mem_of_lookup hfr.1) rfl).elim (fun k => .inr (.inl k)) (fun k => .inr (.inr k))
    obtain ⟨w, r, q⟩ := hl i y av e1 e2 hvis
    refine ⟨w, r, .inr ⟨hfr.2, ?_⟩⟩
    obtain ⟨c, h1, h2⟩ := look hfr.1
    rcases q with ⟨k, _⟩ | ⟨_, c', e', z⟩
    · have k : X.env.scope.names.lookup y = some .local := k
      rcases ok.free _ (PySem.mem_of_lookup hfr.1) rfl with k' | k' <;> rw [show X.env.scope.names.lookup y = _ from k'] at k <;> cases k
    · rw [h2] at e'; cases e'
      exact ⟨c, h1, z.keeps kp⟩
  · have e : cenv.cells.lookup y = some c := e
    rcases mem e with ⟨h1, _⟩ | ⟨_, z⟩
    · obtain ⟨w, z⟩ := I.cell y c h1
      exact ⟨w, z.keeps kp⟩
    · exact ⟨_, z⟩
  · show H cenv.locals = none
    rw [hL]; exact I.hok.fresh (Nat.le_refl _)
  · have e : cenv.cells.lookup y = some c := e
    rcases mem e with ⟨h1, _⟩ | ⟨h1, _⟩
    · exact I.freeC y c h1
    · exact I.hok.fresh (Nat.le_of_succ_le h1)
  · exact absurd (show p ∈ ([] : List (Addr × Obj)) ++ [] from hp) (by simp)
/-- an item appended to a tracked list -/
theorem app_ok {E : Value → Shared → Prop} {D : Addr} {xs : List V} {y : V} {v : Value} {Q : Value → Shared → Prop} (I : Inv X pins σ H s) (hD : H D = some (.lst xs)) (hz : xs.length < sizeLine) (r : RelV y v)
    (h : ∀ s', Inv X pins σ (upd H D (.lst (xs ++ [y]))) s' → Q .none s') : wpAny (model X.prog X.w) X.A (call (.builtin "list.append") [.ref D, v]) Q E s := by
  obtain ⟨hz', its, n, ri, e⟩ := I.hok D _ hD
  have hl := ri.length
  refine append_at (hsz := by rw [List.size_toArray]; omega) e fun h' sb ho' => ?_
  refine h { s with heap := h' } (I.write (t' := s.toks) (by rw [hD]; trivial) (.inl rfl) (fun b u hb q => (sb.2 b hb).trans q) ⟨_, ho'⟩ ⟨by rw [List.length_append]; exact hz, its ++ [v], n + 1, ri.append (.cons r .nil), ?_⟩)
  rw [ho']
  simp
/-- a clause's tests -/
def PTs (X : Cx) (ifs : List Expr) (t : TT) : Prop :=
  ∀ (pins : List (Addr × Obj)) (s : Shared) (σ : St) (H : Hp) (Q : Bool → Hp → Prop), Inv X pins σ H s → t σ H Q →
    wpAny (model X.prog X.w) X.A (forIn ifs true fun c r => if r = true then do let ok ← isTrue c X.env (eval c X.env); pure (ForInStep.yield ok) else pure (ForInStep.yield r)) (TP X pins σ Q) X.xe s
def tYes : TT := fun _ H Q => Q true H
theorem pts_nil : PTs X [] tYes := fun _ _ _ H _ I h => wpAny_tests_nil ⟨H, I, h⟩
end
theorem thnF {α : Type} {t : Sem α} {Q Q' : α → Shared → Prop} {M : Model} {A : Around} {E : Value → Shared → Prop} {s : Shared} (h : wpAny M A t Q (fun _ _ => False) s) (hQ : ∀ a s, Q a s → Q' a s) : wpAny M A t Q' E s := wpAny_mono h hQ fun _ _ z => False.elim z
/-- the loop of a list comprehension's block, the target of any form (codeAny_compLoop_tests asks a target that no tuple goes to; statement and proof follow it, PyProof/CompMap.lean:41-61, with the step letOwnedTupleGo kept) -/
theorem compLoop_any {prog : Program} {w : World} {A : Around} {R : Result → Shared → Prop} {s : Shared} {elt target iter : Expr} {ifs : List Expr} {scope : Scope} {pos : Pos} {it acc : Value} {env : Env} (I : Nat → Shared → Prop)
    (turn : ∀ n s, I n s → wpAny (model prog w) A (pyNext it) (fun r s₁ => match r with
      | none => R (.ok .next) s₁
      | some v => wpAny (model prog w) A (letOwnedTupleGo target it v) (fun _ s₁' => wpAny (model prog w) A (assign target env v) (fun _ s₂ =>
          wpAny (model prog w) A (forIn ifs true fun c r => if r = true then do let ok ← isTrue c env (eval c env); pure (ForInStep.yield ok) else pure (ForInStep.yield r)) (fun ok s₃ =>
            if ok = true then wpAny (model prog w) A (eval elt env) (fun x s₄ =>
              wpAny (model prog w) A (call (.builtin "list.append") [acc, x]) (fun _ s₅ => ∃ m, m < n ∧ I m s₅) (notedBy (model prog w) A env fun e s' => R (.error e) s') s₄) (notedBy (model prog w) A env fun e s' => R (.error e) s') s₃
            else ∃ m, m < n ∧ I m s₃) (notedBy (model prog w) A env fun e s' => R (.error e) s') s₂) (notedBy (model prog w) A env fun e s' => R (.error e) s') s₁') (notedBy (model prog w) A env fun e s' => R (.error e) s') s₁) (notedBy (model prog w) A env fun e s' => R (.error e) s') s)
    (n : Nat) (h : I n s) :
    codeAny (model prog w) A (.compLoop (.ListComp elt [⟨target, iter, ifs, 0⟩] scope pos) 0 it acc env) R s := by
  refine codeAny_loop rfl I (fun n s hI => ?_) n h
  show wpAny _ A ((compTurn (.ListComp elt [⟨target, iter, ifs, 0⟩] scope pos) 0 it acc env).onRaise (fun x => do noteFrame x env; theTreesLotGoes x)) _ _ s
  refine wpAny_noted ?_
  rw [compTurn_list]
  refine wpAny_bind (wpAny_standAt (wpAny_bind (wpAny_mono (turn n s hI) (fun r s₁ h₁ => ?_) fun _ _ h' => h')))
  cases r with
  | none => exact wpAny_pure h₁
  | some v =>
    refine wpAny_bind (wpAny_mono h₁ (fun _ s₁' h₁' => ?_) fun _ _ h' => h')
    refine wpAny_bind (wpAny_mono h₁' (fun _ s₂ h₂ => wpAny_bind (wpAny_mono h₂ (fun ok s₃ h₃ => ?_) fun _ _ h' => h')) fun _ _ h' => h')
    cases ok with
    | false => exact wpAny_pure ⟨rfl, h₃⟩
    | true =>
      exact wpAny_bind (wpAny_bind (wpAny_mono h₃ (fun x s₄ h₄ => wpAny_bind (wpAny_mono h₄ (fun _ s₅ h₅ => wpAny_pure (wpAny_pure ⟨rfl, h₅⟩)) fun _ _ h' => h')) fun _ _ h' => h'))
section
variable {X : Cx}
/-- [elt for target in iter if ..]: D the new list; W by the turn and a measure, Nx what a turn is to reach -/
def tLc (wi : TI) (g : TG) (tt : TT) (te : TE) (vs : List Nat) : TE := fun σ H Q => wi σ H fun J H1 => ∀ D, H1 D = none → ∃ W : Nat → Nat → Hp → Prop, (∃ m, W 0 m (upd H1 D (.lst []))) ∧ ∀ i m H, W i m H →
  (J.stop i H ∧ Q (.ref D) H) ∨ (J.go i H ∧ ∃ Nx : Hp → Prop, (∀ H', Nx H' → ∃ m', m' < m ∧ W (i + 1) m' H') ∧ ∀ x H', J.yld i H x H' → g x (wipe σ vs) H' fun σ2 H2 => wipe σ2 vs = wipe σ vs ∧ tt σ2 H2 fun b H3 =>
    if b = true then te σ2 H3 fun y H4 => ∃ acc, H4 D = some (.lst acc) ∧ acc.length < sizeLine ∧ Nx (upd H4 D (.lst (acc ++ [y]))) else Nx H3)
theorem lc_core {pins : List (Addr × Obj)} {s : Shared} {σ : St} {H : Hp} {Q : VK} {elt tg iter : Expr} {ifs : List Expr} {scope : Scope} {own : List (Str × Nat)} {pos pos' : Pos} {wi : TI} {g : TG} {tt : TT} {te : TE} {use : Option (Value → Sem Unit)} {Qf : Value → Shared → Prop}
    (hc : X.calm = true) (hN : X.N.Nodup) (I : Inv X pins σ H s) (hi : PI X tg iter wi) (ok : BlkOk X.N X.env.scope scope own)
    (hg : ∀ (s : Shared) (H : Hp) (C : Addr) (cl : List (Str × Addr)) (fp : List Addr), PG (X.blk s H scope (compEnvC scope cl C X.env) fp) tg g) (ht : ∀ (s : Shared) (H : Hp) (C : Addr) (cl : List (Str × Addr)) (fp : List Addr), PTs (X.blk s H scope (compEnvC scope cl C X.env) fp) ifs tt)
    (he : ∀ (s : Shared) (H : Hp) (C : Addr) (cl : List (Str × Addr)) (fp : List Addr), PE (X.blk s H scope (compEnvC scope cl C X.env) fp) elt te) (hs : ∀ x, foldedSetIterable iter X.env x = pure x)
    (h : tLc wi g tt te (own.map (·.2)) σ H Q)
    (hRR : ∀ D C s' m H', Inv X pins σ H' s' → Q (.ref D) H' → s'.heap.Ns C m → FpOk X pins H' C → compPost (model X.prog X.w) X.A X.xe use Qf (.ref D) C (.ok .next) s') :
    wpAny (model X.prog X.w) X.A (comprehension (.ListComp elt [⟨tg, iter, ifs, 0⟩] scope pos) scope X.env pos' (newList []) false (eval iter X.env) use) Qf X.xe s := by
  have hfree : ∀ y ∈ scope.names, y.2 = .free → ∃ c, X.env.cells.lookup y.1 = some c := fun y hy e => by
    rcases ok.free y hy e with k | k
    · exact I.ok.has _ (.inl k)
    · exact I.ok.has _ (.inr k)
  refine wpAny_comprehension_free (use := use) rfl hs (closure_ok hfree) ok.kind (fun y hy e => by rw [ok.uniq y hy, e])
    (thn (hi pins s σ H _ I h) fun xv s1 hx => thn hx fun itv s2 h2 => ?_)
  obtain ⟨it, fp, tn, J, H2, e, I2, T, st2, f2, q⟩ := h2
  subst e
  refine wpAny_newObj_type (newEnv_comp ?_) (by show 0 ≤ sizeLine; decide)
  generalize hD : s2.heap.objs.size = D
  have hDn : H2 D = none := I2.hok.fresh (Nat.le_of_eq hD)
  obtain ⟨W, ⟨m0, w0⟩, turn⟩ := q D hDn
  -- the new list
  generalize hs3 : ({ s2 with heap := s2.heap.push { cls := .type "list", data := .seq ([] : List Value).toArray } } : Shared) = s3
  have I3 : Inv X pins σ (upd H2 D (.lst [])) s3 := by
    rw [← hs3]
    refine I2.laid (t' := s2.toks) (fun b o e => Heap.get?_push_of_some _ e) (Nat.le_of_eq hD) ⟨Nat.zero_le _, [], 0, .nil, ?_⟩
    rw [← hD]
    exact Heap.get?_push_size _ rfl
  have h3 : s3.heap = s2.heap.push { cls := .type "list", data := .seq ([] : List Value).toArray } := by rw [← hs3]
  have sz : ∀ b ∈ fp, b < s2.heap.objs.size := fun b hb => by
    obtain ⟨o, e, _⟩ := T.obj _ _ st2 b hb
    exact Heap.lt_size e
  have f3 : ∀ b ∈ fp, FpOk X pins (upd H2 D (.lst [])) b ∧ b < s3.heap.objs.size := fun b hb => by
    have hlt := sz b hb
    refine ⟨⟨?_, (f2 b hb).2⟩, by rw [h3, Heap.size_push]; exact Nat.lt_succ_of_lt hlt⟩
    rw [upd_ne (by rw [← hD]; exact Nat.ne_of_lt hlt)]
    exact (f2 b hb).1
  have st3 : tn 0 s3.heap := T.keep _ _ _ st2 fun b _ o e => by rw [h3]; exact Heap.get?_push_of_some _ e
  have I4 := block_start I3 ok hN f3
  have pg := hg s3 (upd H2 D (.lst [])) s3.heap.objs.size (cellsFrom (s3.heap.objs.size + 1) scope.names (cloFrom X.env.cells scope.names [])) fp
  have pt := ht s3 (upd H2 D (.lst [])) s3.heap.objs.size (cellsFrom (s3.heap.objs.size + 1) scope.names (cloFrom X.env.cells scope.names [])) fp
  have pe := he s3 (upd H2 D (.lst [])) s3.heap.objs.size (cellsFrom (s3.heap.objs.size + 1) scope.names (cloFrom X.env.cells scope.names [])) fp
  show codeAny _ _ (.compStart (.ListComp elt [⟨tg, iter, ifs, 0⟩] scope pos) 0 (.ref it) (.ref D) (compEnvC scope (cellsFrom (s3.heap.objs.size + 1) scope.names (cloFrom X.env.cells scope.names [])) s3.heap.objs.size X.env)) (compPost (model X.prog X.w) X.A X.xe use Qf (.ref D) s3.heap.objs.size) { s3 with heap := pushCells (s3.heap.push { cls := .type "dict", data := .dict #[] }) scope.names }
  have nfp : ∀ b ∈ fp, (upd H2 D (.lst [])) b = none := fun b hb => (f3 b hb).1.1
  generalize hce : compEnvC scope (cellsFrom (s3.heap.objs.size + 1) scope.names (cloFrom X.env.cells scope.names [])) s3.heap.objs.size X.env = ce at I4 pg pt pe ⊢
  have cL : ce.locals = s3.heap.objs.size := by subst hce; rfl
  generalize hH3 : upd H2 D (.lst []) = H3 at I3 I4 pg pt pe w0 nfp f3
  generalize hs4 : ({ s3 with heap := pushCells (s3.heap.push { cls := .type "dict", data := .dict #[] }) scope.names } : Shared) = s4 at I4 ⊢
  have st4 : tn 0 s4.heap := T.keep _ _ _ st3 fun b _ o e => by rw [← hs4]; exact pushCells_keeps _ _ _ _ (Heap.get?_push_of_some _ e)
  have stat : ∀ {σ' : St} {H' : Hp} {s' : Shared}, Inv (X.blk s3 H3 scope ce fp) [] σ' H' s' → (∀ b ∈ fp, H' b = none) → ∀ b ∈ fp, FpOk (X.blk s3 H3 scope ce fp) [] H' b := fun {σ' H' s'} I' hn b hb =>
    ⟨hn b hb, (I'.ok.exf b hb).1, I'.ok.exfs b hb, .inl hb, fun x c e => (I'.ok.exf b hb).2 x c e, fun p hp => absurd (show p ∈ ([] : List (Addr × Obj)) ++ [] from hp) (by simp)⟩
  have loop : codeAny (model X.prog X.w) X.A (.compLoop (.ListComp elt [⟨tg, iter, ifs, 0⟩] scope pos) 0 (.ref it) (.ref D) ce) (compPost (model X.prog X.w) X.A X.xe use Qf (.ref D) s3.heap.objs.size) s4 := by
    refine compLoop_any (fun n s' => ∃ i H', Inv (X.blk s3 H3 scope ce fp) [] (wipe σ (own.map (·.2))) H' s' ∧ tn i s'.heap ∧ (∀ b ∈ fp, H' b = none) ∧ W i n H') ?_ m0 ⟨0, H3, I4, st4, nfp, w0⟩
    rintro n s5 ⟨i, H5, I5, st5, n5, w5⟩
    rcases turn i n H5 w5 with ⟨stop, qq⟩ | ⟨go, Nx, hNx, step⟩
    · have td := T.done (X.blk s3 H3 scope ce fp) rfl rfl rfl hc i [] s5 _ H5 (fun _ _ => False) I5 (stat I5 n5) st5 stop
      refine thnF td fun r s6 ⟨hr, I6⟩ => ?_
      subst hr
      -- back in the def's context
      have I7 : Inv X pins σ H5 s6 := I3.call' (ch := fp) I6.os I6.base I6.hok I6.bare fun b hb => ⟨(f3 b hb).1.2.2.2.1, (f3 b hb).1.2.1, (f3 b hb).1.2.2.2.2.1, (f3 b hb).1.2.2.2.2.2⟩
      have nC : H5 s3.heap.objs.size = none := by
        have z : H5 ce.locals = none := I6.free
        rw [cL] at z
        exact z
      obtain ⟨m, hn, _⟩ := I6.loc
      have hn : s6.heap.Ns ce.locals m := hn
      rw [cL] at hn
      exact hRR D s3.heap.objs.size s6 m H5 I7 qq hn (I3.fpOk (Nat.le_refl _) nC)
    · have ti := T.item (X.blk s3 H3 scope ce fp) rfl rfl rfl hc i [] s5 _ H5 (fun _ _ => False) I5 (stat I5 n5) st5 go
      refine thnF ti fun r s6 ⟨u, hr, h6⟩ => ?_
      subst hr
      refine thnF h6 fun _ s7 ⟨x, H7, I7, r7, y7, st7, n7⟩ => ?_
      have I7' := I7.pinned (stat I7 n7) (T.obj _ _ st7)
      refine thnF (pg _ s7 _ H7 x u _ I7' r7 (step x H7 y7)) fun _ s8 ⟨σ8, H8, I8, hw8, q8⟩ => ?_
      refine thnF (pt _ s8 σ8 H8 _ I8 q8) fun b s9 ⟨H9, I9, q9⟩ => ?_
      -- the turn's end
      have fin : ∀ {s' : Shared} {H' : Hp}, Inv (X.blk s3 H3 scope ce fp) ([] ++ pinsAt fp s7.heap) σ8 H' s' → Nx H' → ∃ m, m < n ∧ ∃ i H', Inv (X.blk s3 H3 scope ce fp) [] (wipe σ (own.map (·.2))) H' s' ∧ tn i s'.heap ∧ (∀ b ∈ fp, H' b = none) ∧ W i m H' := fun {s' H'} I' nx => by
        obtain ⟨m', hm, w'⟩ := hNx H' nx
        have pin' : ∀ b ∈ fp, ∀ o, s7.heap.get? b = some o → s'.heap.get? b = some o ∧ H' b = none := fun b hb o e =>
          let z := I'.pin (b, o) (List.mem_append_right _ (List.mem_append_right _ (mem_pinsAt hb e)))
          ⟨z.1, z.2.1⟩
        have hl : (wipe σ (own.map (·.2))).length = σ8.length := by rw [← hw8, wipe_length]
        refine ⟨m', hm, i + 1, H', (I'.unpinned (pins := [])).weak hl (fun j v e => ?_), T.keep _ _ _ st7 fun b hb o e => (pin' b hb o e).1, fun b hb => ?_, w'⟩
        · rw [← hw8] at e
          exact (wipe_some e).1
        · obtain ⟨o, e, _⟩ := T.obj _ _ st7 b hb
          exact (pin' b hb o e).2
      cases b with
      | false =>
        simp only [Bool.false_eq_true, if_false] at q9 ⊢
        exact fin I9 q9
      | true =>
        simp only [if_true] at q9 ⊢
        refine thnF (pe _ s9 σ8 H9 _ I9 q9) fun z s10 ⟨yv, H10, I10, r10, acc, hD10, hz10, nx⟩ => ?_
        exact app_ok (X := X.blk s3 H3 scope ce fp) I10 hD10 hz10 r10 fun s11 I11 => fin I11 nx
  exact codeAny_compStart_list loop (T.self X.A 0 _ _ _ st4 loop)
/-- as a value -/
theorem pe_lc {elt tg iter : Expr} {ifs : List Expr} {scope : Scope} {own : List (Str × Nat)} {pos : Pos} {wi : TI} {g : TG} {tt : TT} {te : TE} (hc : X.calm = true) (hN : X.N.Nodup) (hi : PI X tg iter wi) (ok : BlkOk X.N X.env.scope scope own)
    (hg : ∀ (s : Shared) (H : Hp) (C : Addr) (cl : List (Str × Addr)) (fp : List Addr), PG (X.blk s H scope (compEnvC scope cl C X.env) fp) tg g) (ht : ∀ (s : Shared) (H : Hp) (C : Addr) (cl : List (Str × Addr)) (fp : List Addr), PTs (X.blk s H scope (compEnvC scope cl C X.env) fp) ifs tt)
    (he : ∀ (s : Shared) (H : Hp) (C : Addr) (cl : List (Str × Addr)) (fp : List Addr), PE (X.blk s H scope (compEnvC scope cl C X.env) fp) elt te) (hs : ∀ x, foldedSetIterable iter X.env x = pure x := by intro _; rfl) :
    PE X (.ListComp elt [⟨tg, iter, ifs, 0⟩] scope pos) (tLc wi g tt te (own.map (·.2))) := by
  intro pins s σ H Q I h
  rw [eval_ListComp]
  refine lc_core hc hN I hi ok hg ht he hs h fun D C s' m H' I' q hn f => ⟨m, hn, fun h'' sb => ?_⟩
  obtain ⟨f0, f1, f2, f3, f4, f5⟩ := f
  exact ⟨.ref D, H', I'.turned (t' := s'.toks) (fun b o hb e => (sb.2 b hb).trans e) f0 f1 f3 f4 f5, rfl, q⟩
end
def blkC (N : List Str) (sc scope : Scope) (own : List (Str × Nat)) : Bool :=
  (match scope.kind with | .function => true | _ => false) && (scope.names.all fun y => decide (scope.names.lookup y.1 = some y.2)) && (own.all fun p => decide (N[p.2]? = some p.1)) &&
    (scope.names.all fun y => match y.2 with
      | .free => (match sc.names.lookup y.1 with | some .cell => true | some .free => true | _ => false)
      | .local => decide (y.1 ∈ own.map (·.1)) || decide (y.1 ∉ N)
      | .cell => decide (y.1 ∈ own.map (·.1)) || decide (y.1 ∉ N)
      | _ => true)
theorem blkOk_by {N : List Str} {sc scope : Scope} {own : List (Str × Nat)} (h : blkC N sc scope own = true) : BlkOk N sc scope own := by
  unfold blkC at h
  simp only [Bool.and_eq_true, List.all_eq_true, decide_eq_true_eq] at h
  obtain ⟨⟨⟨h1, h2⟩, h3⟩, h4⟩ := h
  refine ⟨?_, h2, h3, fun y hy e => ?_, fun y hy e => ?_⟩
  · split at h1
    · assumption
    · cases h1
  · have q := h4 y hy
    simp only [e] at q
    split at q <;> first | exact .inl (by assumption) | exact .inr (by assumption) | cases q
  · have q := h4 y hy
    rcases e with e | e <;> (simp only [e, Bool.or_eq_true, decide_eq_true_eq] at q; exact q)
end L2
namespace L2
open PySem PySem.Spec PyProof.Rows
section
variable {X : Cx} {pins : List (Addr × Obj)} {σ : St} {H : Hp} {s : Shared} {h' : Heap}
/-- several records of ours have turned -/
theorem Inv.turnedL {t' : Nat} {ch : List Addr} (I : Inv X pins σ H s) (k : ∀ b o, b ∉ ch → s.heap.get? b = some o → h'.get? b = some o) (hf : ∀ b ∈ ch, FpOk X pins H b) : Inv X pins σ H { s with heap := h', toks := t' } := by
  have nit : ∀ b u, H b = some u → b ∉ ch := fun b u e z => by
    have q := (hf b z).1
    rw [q] at e; cases e
  refine I.step (g' := s.gens) (d' := s.drawn) (ch := ch) (fun b hb => ⟨(hf b hb).2.2.2.1, (hf b hb).2.1, (hf b hb).2.2.2.2.1, (hf b hb).2.2.2.2.2⟩) (fun b o _ _ hc e _ => k b o hc e) (fun b o _ _ hc e _ => ⟨o.slots, k b o hc e⟩)
    (fun _ _ _ _ n => n) (fun b o hc e => ⟨o, k b o hc e⟩) (fun _ _ e => e) (fun _ _ _ e => e) (fun b ps e => ⟨#[], by rw [e]; simp⟩) (fun m hm => ?_) (fun b u e => ?_) I.bare
  · obtain ⟨o, es, ep, ho, r⟩ := hm
    exact ⟨o, es, ep, k _ o (fun z => (hf _ z).2.1 rfl) ho, r⟩
  · refine (I.hok b u e).stay (fun c v hc q => k c v ?_ q) (fun _ q => q) fun _ _ q => q
    rcases hc with z | z
    · rw [z]; exact nit b u e
    · exact nit c _ z
/-- .. and one new object is laid -/
theorem Inv.turnedNew {t' : Nat} {ch : List Addr} {T : Addr} {ob : HO} (I : Inv X pins σ H s) (k : ∀ b o, b ∉ ch → s.heap.get? b = some o → h'.get? b = some o) (hf : ∀ b ∈ ch, FpOk X pins H b) (hT : s.heap.objs.size ≤ T)
    (new : ObjOk X.prog X.w (upd H T ob) h' T ob) : Inv X pins σ (upd H T ob) { s with heap := h', toks := t' } := by
  have hn : H T = none := I.hok.fresh hT
  have nit : ∀ b u, H b = some u → b ∉ ch := fun b u e z => by
    have q := (hf b z).1
    rw [q] at e; cases e
  refine I.step (g' := s.gens) (d' := s.drawn) (ch := ch) (fun b hb => ⟨(hf b hb).2.2.2.1, (hf b hb).2.1, (hf b hb).2.2.2.2.1, (hf b hb).2.2.2.2.2⟩) (fun b o _ _ hc e _ => k b o hc e) (fun b o _ _ hc e _ => ⟨o.slots, k b o hc e⟩)
    (fun b o _ e n => ?_) (fun b o hc e => ⟨o, k b o hc e⟩) (fun b xs e => ?_) (fun b o u e => ?_) (fun b ps e => ⟨#[], ?_⟩) (fun m hm => ?_) (fun b u e => ?_) I.bare
  · rw [upd_ne (Nat.ne_of_lt (Nat.lt_of_lt_of_le (Heap.lt_size e) hT))]; exact n
  · rw [upd_ne (ne_of_none e hn)]; exact e
  · rw [upd_ne (ne_of_none e hn)]; exact e
  · rw [upd_ne (ne_of_none e hn), e]; simp
  · obtain ⟨o, es, ep, ho, r⟩ := hm
    exact ⟨o, es, ep, k _ o (fun z => (hf _ z).2.1 rfl) ho, r⟩
  · by_cases hb : b = T
    · subst hb
      rw [upd_same] at e
      cases e
      exact new
    · rw [upd_ne hb] at e
      refine (I.hok b u e).stay (fun c v hc q => k c v ?_ q) (fun c q => by rw [upd_ne (ne_of_none q hn)]; exact q) fun c xs q => by rw [upd_ne (ne_of_none q hn)]; exact q
      rcases hc with z | z
      · rw [z]; exact nit b u e
      · exact nit c _ z
theorem Inv.lock {d : Addr} {u : HO} (I : Inv X pins σ H s) (h : H d = some u) (mu : Mut (some u)) : ∃ od, Inv X pins σ (upd H d (.frz od u)) s := by
  have x := I.hok d u h
  have ex : ∃ od, s.heap.get? d = some od := by
    cases u with
    | lst xs => obtain ⟨_, _, _, _, e⟩ := x; exact ⟨_, e⟩
    | dK kvs => obtain ⟨_, _, _, _, o, _, _, e, _⟩ := x; exact ⟨o, e⟩
    | dT kvs => obtain ⟨_, _, _, _, o, _, _, e, _⟩ := x; exact ⟨o, e⟩
    | set S n => obtain ⟨o, _, _, _, e, _⟩ := x; exact ⟨o, e⟩
    | ins C dx fs => obtain ⟨_, _, _, e, _⟩ := x; exact ⟨_, e⟩
    | ext φ => obtain ⟨_, ⟨_, e⟩, _⟩ := x; exact ⟨_, e⟩
    | _ => exact False.elim mu
  obtain ⟨od, e⟩ := ex
  have new : ObjOk X.prog X.w (upd H d (.frz od u)) s.heap d (.frz od u) := by
    refine ⟨e, x.stay (fun b v _ q => q) (fun b q => ?_) fun b xs q => ?_⟩
    · rw [upd_ne (fun z => by rw [z, h] at q; cases q; exact mu)]; exact q
    · rw [upd_ne (fun z => by rw [z, h] at q; cases q; exact mu)]; exact q
  exact ⟨od, I.write (x := d) (e := d) (t' := s.toks) (h' := s.heap) (by rw [h]; exact mu) (.inl rfl) (fun b v _ q => q) ⟨od, e⟩ new⟩
theorem Inv.nofrz {d : Addr} {u : HO} (I : Inv X pins σ H s) (h : H d = some u) (mu : Mut (some u)) : ∀ o' u', X.H_0 d ≠ some (.frz o' u') := fun o' u' e => by
  have q := I.base.frzs d o' u' e
  rw [h] at q
  cases q
  exact mu
theorem Inv.unlock {d : Addr} {od : Obj} {u : HO} (I : Inv X pins σ H s) (h : H d = some (.frz od u)) (hn : ∀ o' u', X.H_0 d ≠ some (.frz o' u')) : Inv X pins σ (upd H d u) s := by
  have neH : ∀ b o, H b = some o → (∀ o' u', o ≠ .frz o' u') → b ≠ d := fun b o e hne z => by
    rw [z, h] at e
    cases e
    exact hne _ _ rfl
  have neN : ∀ b, H b = none → b ≠ d := fun b e z => by rw [z, h] at e; cases e
  refine ⟨I.ok, I.os, I.bare, ⟨I.base.keep, I.base.slot, fun b o e n hx => ?_, I.base.there, fun b xs e => ?_, fun b o x e => ?_, fun b ps e => ?_⟩, I.loc, I.cell, ?_, fun x c e => ?_, fun p hp => ?_, fun b o e => ?_, I.len⟩
  · rw [upd_ne (neN b (I.base.free b o e n hx))]; exact I.base.free b o e n hx
  · have q := I.base.tups b xs e
    rw [upd_ne (neH b _ q (fun _ _ z => nomatch z))]; exact q
  · have q := I.base.frzs b o x e
    rw [upd_ne (fun z => by rw [z] at e; exact hn _ _ e)]; exact q
  · obtain ⟨m, q⟩ := I.base.tbls b ps e
    exact ⟨m, by rw [upd_ne (neH b _ q (fun _ _ z => nomatch z))]; exact q⟩
  · rw [upd_ne (neN _ I.free)]; exact I.free
  · rw [upd_ne (neN c (I.freeC x c e))]; exact I.freeC x c e
  · obtain ⟨e, n, r⟩ := I.pin p hp
    exact ⟨e, by rw [upd_ne (neN _ n)]; exact n, r⟩
  · by_cases hb : b = d
    · rw [hb, upd_same] at e
      cases e
      rw [hb]
      obtain ⟨_, x⟩ := I.hok d _ h
      exact x.stay (fun c v _ q => q) (fun c q => by rw [upd_ne (neH c _ q (fun _ _ z => nomatch z))]; exact q) fun c xs q => by rw [upd_ne (neH c _ q (fun _ _ z => nomatch z))]; exact q
    · rw [upd_ne hb] at e
      exact (I.hok b o e).stay (fun c v _ q => q) (fun c q => by rw [upd_ne (neH c _ q (fun _ _ z => nomatch z))]; exact q) fun c xs q => by rw [upd_ne (neH c _ q (fun _ _ z => nomatch z))]; exact q
end
def tLockE (t : TE) : TE := fun σ H Q => ∃ d u, H d = some u ∧ Mut (some u) ∧ ∀ od, t σ (upd H d (.frz od u)) fun v H' => H' d = some (.frz od u) ∧ Q v (upd H' d u)
section
variable {X : Cx}
theorem pe_lock {e : Expr} {t : TE} (h : PE X e t) : PE X e (tLockE t) := by
  intro pins s σ H Q I hw
  obtain ⟨d, u, hd, mu, hw⟩ := hw
  obtain ⟨od, I1⟩ := I.lock hd mu
  refine thn (h pins s σ _ _ I1 (hw od)) fun v s1 ⟨x, H1, I2, r, e2, q⟩ => ?_
  exact ⟨x, _, I2.unlock e2 (I.nofrz hd mu), r, q⟩
end
theorem boot_zip5 : bootBuiltins "zip" = some (.type "zip") := by decide +kernel
/-- the lists at a and b as they stand at each turn, the items in new pairs -/
def Itz (K : PySem.W.Frag) (a b : Addr) : It :=
  ⟨fun i H => ∃ (xs ys : List V) (x y : V), SqL K H a xs ∧ SqL K H b ys ∧ xs[i]? = some x ∧ ys[i]? = some y,
    fun i H v H' => ∃ T x y, v = .ref T ∧ H T = none ∧ H' = upd H T (.tup [x, y]) ∧ (∀ xs, SqL K H a xs → xs[i]? = some x) ∧ ∀ ys, SqL K H b ys → ys[i]? = some y,
    fun i H => ∃ xs ys : List V, SqL K H a xs ∧ SqL K H b ys ∧ (xs.length ≤ i ∨ ys.length ≤ i)⟩
theorem turn_zip {P : Program} {w : World} {K : PySem.W.Frag} {elts : List Expr} {kk : Nat} {tpos : Pos} {a b z TI TO i1 i2 : Addr} (D : ZipApart z TI TO i1 i2 a b) :
    Turn P w K (.Tuple elts kk tpos) (Itz K a b) [z, TI, TO, i1, i2] z (fun i h => IsZip h z TI TO .none ∧ IsPair h TI (.ref i1) (.ref i2) ∧ (∃ x y, IsPair h TO x y) ∧ h.IsListIter i1 a i ∧ h.IsListIter i2 b i) where
  mem := by simp
  obj := fun i h st c hc => by
    obtain ⟨hz, hTI, ⟨x, y, hTO⟩, ⟨o1, e1, _, d1⟩, ⟨o2, e2, _, d2⟩⟩ := st
    have e' : c = z ∨ c = TI ∨ c = TO ∨ c = i1 ∨ c = i2 := by simpa using hc
    rcases e' with q | q | q | q | q
    · rw [q]; exact ⟨_, hz, fun v q => nomatch q⟩
    · rw [q]; exact ⟨_, hTI, fun v q => nomatch q⟩
    · rw [q]; exact ⟨_, hTO, fun v q => nomatch q⟩
    · rw [q]; exact ⟨o1, e1, fun v q => by rw [d1] at q; cases q⟩
    · rw [q]; exact ⟨o2, e2, fun v q => by rw [d2] at q; cases q⟩
  keep := fun i h h' st k => by
    obtain ⟨hz, hTI, ⟨x, y, hTO⟩, h1, h2⟩ := st
    exact ⟨k z (by simp) _ hz, k TI (by simp) _ hTI, ⟨x, y, k TO (by simp) _ hTO⟩, h1.at fun o q => k i1 (by simp) o q, h2.at fun o q => k i2 (by simp) o q⟩
  item := by
    intro X hP hw hK hc i pins s σ H E I hf st hg
    subst hP hw hK
    obtain ⟨hz, hTI, ⟨x0, y0, hTO⟩, h1, h2⟩ := st
    obtain ⟨xs, ys, x, y, hqx, hqy, hx, hy⟩ := hg
    obtain ⟨its, rv, p, _⟩ := I.list hqx
    obtain ⟨its2, rv2, p2, _⟩ := I.list hqy
    obtain ⟨u, hu, ru⟩ := rv.get hx
    obtain ⟨u2, hu2, ru2⟩ := rv2.get hy
    have hzl : z < s.heap.objs.size := Heap.lt_size hz
    refine wpAny_pyNext_zip_item D hz hTI hTO h1 h2 p.isList p2.isList (x := u) (y := u2) (by simpa using hu) (by simpa using hu2) fun h' z' TO' h1' h2' hT hsz hk => ?_
    refine ⟨_, rfl, wpAny_letOwnedTupleGo_zip (s := { s with heap := h' }) z' fun h'' z'' sb => ?_⟩
    have hT2 : h''.get? s.heap.objs.size = some { cls := .type "tuple", data := .seq #[u, u2] } := (sb.2 _ (Nat.ne_of_gt hzl)).trans hT
    have new : ObjOk X.prog X.w (upd H s.heap.objs.size (.tup [x, y])) h'' s.heap.objs.size (.tup [x, y]) :=
      ⟨by show 2 ≤ sizeLine; decide, [u, u2], .cons ru (.cons ru2 .nil), ⟨_, hT2, rfl, _, rfl⟩⟩
    have I1 : Inv X pins σ (upd H s.heap.objs.size (.tup [x, y])) { s with heap := h'' } :=
      I.turnedNew (t' := s.toks) (ch := [z, TI, TO, i1, i2]) (fun c o hb q => (sb.2 c (fun q' => hb (by simp [q']))).trans (hk c o (fun q' => hb (by simp [q'])) (fun q' => hb (by simp [q'])) (fun q' => hb (by simp [q'])) (fun q' => hb (by simp [q'])) q)) hf (Nat.le_refl _) new
    refine ⟨.ref s.heap.objs.size, _, I1, rfl, ⟨_, x, y, rfl, I.hok.fresh (Nat.le_refl _), rfl, fun l hl => by rw [I.list_inj hl hqx]; exact hx, fun l hl => by rw [I.list_inj hl hqy]; exact hy⟩, ⟨z'', ?_, ⟨u, u2, ?_⟩, ?_, ?_⟩, fun c hcm => ?_⟩
    · exact (sb.2 _ D.TIz).trans (hk _ _ D.TIz D.TITO D.TIi1 D.TIi2 hTI)
    · exact (sb.2 _ D.TOz).trans TO'
    · exact h1'.at fun o q => (sb.2 _ D.i1z).trans q
    · exact h2'.at fun o q => (sb.2 _ D.i2z).trans q
    · have hlt : c < s.heap.objs.size := by
        have e' : c = z ∨ c = TI ∨ c = TO ∨ c = i1 ∨ c = i2 := by simpa using hcm
        rcases e' with q | q | q | q | q
        · rw [q]; exact hzl
        · rw [q]; exact Heap.lt_size hTI
        · rw [q]; exact Heap.lt_size hTO
        · rw [q]; obtain ⟨_, e1, _⟩ := h1; exact Heap.lt_size e1
        · rw [q]; obtain ⟨_, e2, _⟩ := h2; exact Heap.lt_size e2
      rw [upd_ne (Nat.ne_of_lt hlt)]
      exact (hf c hcm).1
  done := by
    intro X hP hw hK hc i pins s σ H E I hf st hg
    subst hP hw hK
    obtain ⟨hz, hTI, ⟨x0, y0, hTO⟩, h1, h2⟩ := st
    obtain ⟨xs, ys, hqx, hqy, hend⟩ := hg
    obtain ⟨its, rv, p, _⟩ := I.list hqx
    obtain ⟨its2, rv2, p2, _⟩ := I.list hqy
    have l1 := rv.length
    have l2 := rv2.length
    have he : its.toArray[i]? = none ∨ its2.toArray[i]? = none := by
      rcases hend with q | q
      · exact .inl (by simp; omega)
      · exact .inr (by simp; omega)
    exact wpAny_pyNext_zip_end (I.ok.hd hc) D hz hTI hTO h1 h2 p.isList p2.isList he fun h' hk => ⟨rfl, I.turnedL (t' := s.toks) (ch := [z, TI, TO, i1, i2]) (fun c o hb q =>
      hk c o (fun q' => hb (by simp [q'])) (fun q' => hb (by simp [q'])) (fun q' => hb (by simp [q'])) (fun q' => hb (by simp [q'])) q) hf⟩
  self := fun A i s Q E st h => wpAny_pyIter_zip st.1 h
def iZip (K : PySem.W.Frag) (ta : TA) : TI := fun σ H R => ta σ H fun vs H1 => ∃ a b xs ys, vs = [.ref a, .ref b] ∧ SqL K H1 a xs ∧ SqL K H1 b ys ∧ R (Itz K a b) H1
theorem pi_zip {X : Cx} {e e2 : Expr} {ta : TA} {p pos tpos : Pos} {elts : List Expr} {kk : Nat} (hg : Gl X "zip") (hm : X.mg "zip" = none) (ha : PA X [e, e2] ta)
    (hs : starEach [e, e2] X.env = (false, eval e X.env) :: starEach [e2] X.env := by rfl) (hpl : (backTo pos (starEach [e2] X.env)).any (·.1) = false := by rfl) :
    PI X (.Tuple elts kk tpos) (.Call (.Name "zip" p) [e, e2] [] pos) (iZip X.K ta) := by
  intro pins s σ H R I h
  refine Call_ (ld_blt I hg hm boot_zip5 (PyProof.Rows.callWith_type1 (thn (ha pos pins s σ H _ I h) fun us s1 ⟨vs, H1, I1, r1, q1⟩ => ?_) hs hpl))
  obtain ⟨a, b, xs, ys, ex, hqx, hqy, q⟩ := q1
  subst ex
  cases r1 with
  | cons r rr =>
    cases rr with
    | cons r' rr =>
      cases rr
      cases r
      cases r'
      obtain ⟨its, rv, p1, _⟩ := I1.list hqx
      obtain ⟨its2, rv2, p2, _⟩ := I1.list hqy
      have la : a < s1.heap.objs.size := p1.lt
      have lb : b < s1.heap.objs.size := p2.lt
      refine call_zip_2 p1.isList p2.isList fun h' hz hTI hTO h1 h2 hsz hk => wpAny_pyIter_zip hz ?_
      have I2 : Inv X pins σ H1 { s1 with heap := h' } := I1.kept (t' := s1.toks) hk
      refine ⟨s1.heap.objs.size + 4, [s1.heap.objs.size + 4, s1.heap.objs.size + 2, s1.heap.objs.size + 3, s1.heap.objs.size, s1.heap.objs.size + 1], _, _, H1, rfl, I2, turn_zip (PySem.W.ktu_apart s1.heap.objs.size a b la lb), ⟨hz, hTI, ⟨_, _, hTO⟩, h1, h2⟩, fun c hcm => ?_, q⟩
      have e' : c = s1.heap.objs.size + 4 ∨ c = s1.heap.objs.size + 2 ∨ c = s1.heap.objs.size + 3 ∨ c = s1.heap.objs.size ∨ c = s1.heap.objs.size + 1 := by simpa using hcm
      have hle : s1.heap.objs.size ≤ c := by
        rcases e' with z | z | z | z | z
        · rw [z]; exact Nat.le_add_right _ _
        · rw [z]; exact Nat.le_add_right _ _
        · rw [z]; exact Nat.le_add_right _ _
        · rw [z]; exact Nat.le_refl _
        · rw [z]; exact Nat.le_add_right _ _
      exact I1.fpOk hle (I1.hok.fresh hle)
end L2
section 
end 
section 
end 
namespace Att
open PySem PySem.W PySem.Calls PyProof.Rows
theorem ints_of_wellAll {P : Params} {h : Heap} : ∀ (ns : List Int) (vs : List Value), WellAll P h vs (ns.map WData.int) → IntsAre vs ns := by
  intro ns
  induction ns with
  | nil =>
    intro vs w
    rw [List.map_nil] at w
    cases w
    exact .nil
  | cons n ns ih =>
    intro vs w
    rw [List.map_cons] at w
    cases w with
    | cons a b =>
      cases a
      exact .cons _ _ (ih _ b)
end Att
namespace L2
open PySem PySem.Spec PyProof.Rows
theorem vals_ints : ∀ {vs : List Value} {ns : List Int}, IntsAre vs ns → Vals (ns.map V.int) vs
  | _, _, .nil => .nil
  | _, _, .cons n t h => .cons ⟨t, rfl⟩ (vals_ints h)
/-- nothing is tracked but the script, known to the object (or it is an object of the module) -/
def Only (H : Hp) : Prop := ∀ b, H b = none ∨ ∃ o xs, H b = some (.frz o (.lst xs))
end L2
namespace L2
open PySem PySem.Spec PyProof.Rows
abbrev KOf {K : PySem.W.Frag} {h : Heap} (_ : K.In h) : PySem.W.Frag := K
end L2
namespace L2
open PySem PySem.Spec PyProof.Rows
/-- the j-th statement of a class's body -/
def inClass (s : Stmt) (j : Nat) : Stmt := match s with
  | .ClassDef _ _ _ body _ _ _ _ _ _ _ => body.getD j (.Pass ⟨0, 0, 0, 0⟩)
  | _ => .Pass ⟨0, 0, 0, 0⟩
def defArgs (s : Stmt) : Arguments := match s with
  | .FunctionDef _ a _ _ _ _ _ _ _ _ => a
  | _ => { posonlyargs := [], args := [], vararg := none, kwonlyargs := [], kw_defaults := [], kwarg := none, defaults := [] }
def defBody (s : Stmt) : List Stmt := match s with
  | .FunctionDef _ _ b _ _ _ _ _ _ _ => b
  | _ => []
def defScope (s : Stmt) : Scope := match s with
  | .FunctionDef _ _ _ _ _ _ sc _ _ _ => sc
  | _ => { kind := .function, names := [], isGenerator := false, isCoroutine := false }
abbrev CX0 : CXT := fun _ _ _ _ _ _ => False
abbrev E0 : XK := fun _ _ _ => False
theorem pass0 {X : Cx} : Passes CX0 X E0 := fun _ _ _ _ _ _ _ h => h.elim
structure Fun (K : PySem.W.Frag) (x qual : Str) (st : Stmt) (f : Addr) (fd : FuncData) : Prop where
  ex : ∃ (oc : Value) (od : Option Addr) (kV doc pm : Value) (an : Option Addr) (cdv ct : Value) (osl : Array (Option Value)),
    fd = PySem.W.fnOf x qual (defArgs st) (defBody st) (defScope st) .none kV doc pm an cdv ct ∧ K.lookup f = some ⟨oc, od, .func fd, osl⟩ ∧ PySem.W.codeIn K cdv qual = true
  kp : PySem.W.keepIn K (.ref f) = true
section
variable {P : Program} {w : World} {K : PySem.W.Frag} {mg : Str → Option Value} {base : Heap}
/-- THE RULE for a def: its body as a term of rules, and the reading of that term -/
theorem Fun.ok {x qual : Str} {st : Stmt} {f : Addr} {fd : FuncData} {N ps : List Str} {k : Nat} {sp : Sp} (F : Fun K x qual st f fd) (S : FnScope N ps (defScope st)) (len : ∀ vs H Q E, sp vs H Q E → vs.length = ps.length)
    (hbody : ∀ (cdv : Value) (A : Around) (outer : List Env) (s : Shared) (H : Hp) (vs : List V) (Q : VK) (E : XK), Room k (A.deeper (envOfC qual (defScope st) s.heap.objs.size f cdv)) → sp vs H Q E →
      ∃ t, PSs (cxOf CX0 P w K mg base N qual (defScope st) f cdv A outer s H E).nox (defBody st) t ∧ t { nx := fun _ H' => Q .non H', rt := Q } (start N vs) H) : FnOk P w K mg base CX0 (k + 1) f fd ps sp := by
  obtain ⟨oc, od, kV, doc, pm, an, cdv, ct, osl, rfl, lk, hcd⟩ := F.ex
  refine fn_of lk hcd S len fun A outer s H vs Q E hr hsp => ?_
  obtain ⟨t, h, q⟩ := hbody cdv A outer s H vs Q E hr hsp
  exact ⟨t, h.nox, q⟩
/-- how its arguments bind (no defaults): h is «fun _ _ _ _ _ _ us hl => match us, hl with | [_, _], _ => rfl», one _ a parameter -/
theorem Fun.binds {x qual : Str} {st : Stmt} {f : Addr} {fd : FuncData} {ps : List Str} (F : Fun K x qual st f fd)
    (h : ∀ (kV doc pm : Value) (an : Option Addr) (cdv ct : Value) (us : List Value), us.length = ps.length → bindArgs (PySem.W.fnOf x qual (defArgs st) (defBody st) (defScope st) .none kV doc pm an cdv ct) ⟨us, []⟩ = pure (ps.zip us)) : Binds K fd ps [] := by
  obtain ⟨oc, od, kV, doc, pm, an, cdv, ct, osl, rfl, lk, hcd⟩ := F.ex
  exact .all (h kV doc pm an cdv ct)
theorem fun_mk {x qual : Str} {st : Stmt} {f : Addr} {oc : Value} {od an : Option Addr} {osl : Array (Option Value)} {kV doc pm cdv ct : Value} (l : K.lookup f = some ⟨oc, od, .func (PySem.W.fnOf x qual (defArgs st) (defBody st) (defScope st) .none kV doc pm an cdv ct), osl⟩)
    (c : PySem.W.codeIn K cdv qual = true) (k : PySem.W.keepIn K (.ref f) = true) : Fun K x qual st f (PySem.W.fnOf x qual (defArgs st) (defBody st) (defScope st) .none kV doc pm an cdv ct) := ⟨⟨oc, od, kV, doc, pm, an, cdv, ct, osl, rfl, l, c⟩, k⟩
end
section
variable {X : Cx}
theorem pv (i : Nat) {x : Str} {pos : Pos} (hN : X.N[i]? = some x := by rfl) (hv : Vis X.env.scope x := by first | exact Or.inl rfl | exact Or.inr (Or.inl rfl) | exact Or.inr (Or.inr rfl)) (hd : (x == ("__debug__" : Str)) = false := by decide)
    (hcd : (x == ("__classdict__" : Str)) = false := by decide) : PE X (.Name x pos) (tVar i) := pe_var hN hv hd hcd
end
theorem iteF {A B : Prop} (h : B) : if false = true then A else B := by
  rw [if_neg Bool.false_ne_true]
  exact h
theorem iteT {A B : Prop} (h : A) : if true = true then A else B := by
  rw [if_pos rfl]
  exact h
theorem ite2 {c A B : Prop} [Decidable c] (h1 : c → A) (h2 : ¬ c → B) : if c then A else B := by
  by_cases h : c
  · rw [if_pos h]
    exact h1 h
  · rw [if_neg h]
    exact h2 h
/-- all that was tracked is as it was -/
def Same (H H' : Hp) : Prop := ∀ b o, H b = some o → H' b = some o
theorem Same.refl (H : Hp) : Same H H := fun _ _ h => h
theorem Same.trans {H H1 H2 : Hp} (a : Same H H1) (b : Same H1 H2) : Same H H2 := fun c o h => b c o (a c o h)
theorem Same.free {H H' : Hp} (e : Same H H') {l : Addr} (h : H' l = Option.none) : H l = Option.none := by
  cases q : H l with
  | none => rfl
  | some o =>
    rw [e l o q] at h
    cases h
theorem at_of {xs : List V} {z : Int} {j : Nat} {v : V} (e : z = (j : Int)) (h : xs[j]? = some v) : atI xs z = some v := by
  rw [e]
  exact atI_nat h
/-- a new instance and its __init__ leave all that was tracked as it was -/
theorem Same.made {H H1 : Hp} {x dx C : Addr} (nx : H x = Option.none) (nd : H dx = Option.none) (k : ∀ b o, (upd (upd H dx (.own x)) x (.ins C dx [])) b = some o → b ≠ x → H1 b = some o) : Same H H1 := fun b o e =>
  k b o (by rw [upd_ne (ne_of_none e nx), upd_ne (ne_of_none e nd)]; exact e) (ne_of_none e nx)
end L2
/-! Plain arithmetic: the program's words against Sa69's. No Python here. -/
namespace TB
/-- between(least, number, most) -/
def btw (lo x hi : Int) : Int := if x < lo then lo else if hi < x then hi else x
def hld (x : Int) : Int := btw (-32768) x 32767
def osg (a b : Int) : Bool := decide (a < 0) == decide (b < 0)
def plus (c : Bool) (a : Int) : Int := if c = true then a else -a
theorem btw_eq {lo x hi : Int} (h : lo ≤ hi) : btw lo x hi = Sa69.between x lo hi := by
  unfold btw Sa69.between
  split
  · omega
  · split <;> omega
theorem hld_eq (x : Int) : hld x = Sa69.held x := by
  unfold hld btw Sa69.held
  split
  · omega
  · split <;> omega
theorem hld_range (x : Int) : -32768 ≤ hld x ∧ hld x ≤ 32767 := by
  unfold hld btw
  split
  · omega
  · split <;> omega
theorem btw_range {lo hi : Int} (x : Int) (h : lo ≤ hi) : lo ≤ btw lo x hi ∧ btw lo x hi ≤ hi := by
  unfold btw
  split
  · omega
  · split <;> omega
def wid (n sh : Int) : Int :=
  if sh - n / 2048 < 0 then 4 * (Sa69.LOGS.getD (n / 64 % 32).toNat 0 * 2 ^ (-(sh - n / 2048)).toNat)
  else 4 * (Sa69.LOGS.getD (n / 64 % 32).toNat 0 / 2 ^ (sh - n / 2048).toNat)
/-- a band, its numbers by name -/
structure Bd where
  hi : Bool
  s : Int
  sz : Int
  n : Int
  t : Int
  r1 : Int
  r2 : Int
  p1 : Int
  p2 : Int
  a1 : Int
  a2 : Int
  d : List Int
  b : List Int
def Bd.spec (x : Bd) : Sa69.Band := ⟨x.hi, x.s, x.sz, x.n, x.t, [x.r1, x.r2], [x.p1, x.p2], [x.a1, x.a2], x.d, x.b⟩
def most (hi : Bool) : Int := if hi = true then 22528 else 18432
def shf (hi : Bool) : Int := if hi = true then 10 else 8
def tabl (hi : Bool) : List Int := if hi = true then Sa69.M2 else Sa69.M4
def HG : List Int := [798, -214, 798, -214]
def gain (hi : Bool) : List Int := if hi = true then HG else Sa69.GOES
def fa2 (x : Bd) (p0 : Int) : Int :=
  btw (-12288) ((if osg p0 x.p1 = true then (if 32767 < -(hld (4 * x.a1)) then 32767 else -(hld (4 * x.a1))) else hld (4 * x.a1)) / 2 ^ 7 + plus (osg p0 x.p2) 128 + x.a2 * 32512 / 2 ^ 15) 12288
def fa1 (x : Bd) (p0 a2 : Int) : Int :=
  btw (-(hld (15360 - a2))) (hld (plus (osg p0 x.p1) 192 + x.a1 * 32640 / 2 ^ 15)) (hld (15360 - a2))
def fb1 (d di bi : Int) : Int := hld (plus (osg di d) (if d = 0 then 0 else 128) + bi * 32640 / 2 ^ 15)
def fb (x : Bd) (d : Int) : List Int := (x.d.zip x.b).map fun q => fb1 d q.1 q.2
def zer (ds bs : List Int) : Int := ((ds.zip bs).map fun q => q.2 * hld (2 * q.1) / 2 ^ 15).sum
def ftSz (x : Bd) : Int := hld (zer x.d x.b)
def ftS (x : Bd) : Int := hld (hld (x.a1 * hld (2 * x.r1) / 2 ^ 15 + x.a2 * hld (2 * x.r2) / 2 ^ 15) + ftSz x)
/-- foretell -/
def ftl (x : Bd) : Bd := { x with sz := ftSz x, s := ftS x }
/-- go_on, ahead of foretell -/
def gon0 (x : Bd) (d : Int) : Bd :=
  { x with
    b := fb x d, d := d :: x.d.take 5, a1 := fa1 x (hld (x.sz + d)) (fa2 x (hld (x.sz + d))), a2 := fa2 x (hld (x.sz + d))
    r2 := x.r1, r1 := hld (x.s + d), p2 := x.p1, p1 := hld (x.sz + d) }
def gon (x : Bd) (d : Int) : Bd := ftl (gon0 x d)
theorem neg_eq (a b : Int) : (Sa69.neg a == Sa69.neg b) = osg a b := rfl
theorem fb1_eq (d di bi : Int) : fb1 d di bi = Sa69.held ((if d = 0 then 0 else if Sa69.neg di = Sa69.neg d then 128 else -128) + Sa69.down (bi * 32640) 15) := by
  unfold fb1
  rw [hld_eq]
  congr 1
  unfold Sa69.down plus osg Sa69.neg
  congr 1
  by_cases h : d = 0
  · simp [h]
  · simp only [if_neg h, beq_iff_eq]
theorem fb_eq (x : Bd) (d : Int) : fb x d = (x.b.zip x.d).map fun q => Sa69.held ((if d = 0 then 0 else if Sa69.neg q.2 = Sa69.neg d then 128 else -128) + Sa69.down (q.1 * 32640) 15) := by
  unfold fb
  have h : ∀ ds bs : List Int, ((ds.zip bs).map fun q => fb1 d q.1 q.2) = (bs.zip ds).map fun q => Sa69.held ((if d = 0 then 0 else if Sa69.neg q.2 = Sa69.neg d then 128 else -128) + Sa69.down (q.1 * 32640) 15) := by
    intro ds
    induction ds with
    | nil => intro bs; simp
    | cons y r ih =>
      intro bs
      cases bs with
      | nil => simp
      | cons z bs => rw [List.zip_cons_cons, List.zip_cons_cons, List.map_cons, List.map_cons, ih bs, fb1_eq]
  exact h x.d x.b
theorem zer_eq : ∀ ds bs : List Int, zer ds bs = ((bs.zip ds).map fun q => Sa69.down (q.1 * Sa69.held (2 * q.2)) 15).sum := by
  intro ds
  induction ds with
  | nil => intro bs; simp [zer]
  | cons y r ih =>
    intro bs
    cases bs with
    | nil => simp [zer]
    | cons z bs =>
      have h := ih bs
      unfold zer at h ⊢
      rw [List.zip_cons_cons, List.zip_cons_cons, List.map_cons, List.map_cons, List.sum_cons, List.sum_cons, h, ← hld_eq]
      rfl
theorem fa2_eq (x : Bd) (p0 : Int) : fa2 x p0 = Sa69.between (Sa69.down (min 32767 (if (Sa69.neg p0 == Sa69.neg x.p1) = true then -(Sa69.held (4 * x.a1)) else Sa69.held (4 * x.a1))) 7
    + (if (Sa69.neg p0 == Sa69.neg x.p2) = true then 128 else -128) + Sa69.down (x.a2 * 32512) 15) (-12288) 12288 := by
  unfold fa2
  rw [btw_eq (by decide)]
  have e1 : (if osg p0 x.p1 = true then (if 32767 < -(hld (4 * x.a1)) then 32767 else -(hld (4 * x.a1))) else hld (4 * x.a1)) = min 32767 (if (Sa69.neg p0 == Sa69.neg x.p1) = true then -(Sa69.held (4 * x.a1)) else Sa69.held (4 * x.a1)) := by
    rw [neg_eq, ← hld_eq]
    have := hld_range (4 * x.a1)
    split
    · split <;> omega
    · omega
  rw [e1, neg_eq p0 x.p2]
  rfl
theorem fa2_range (x : Bd) (p0 : Int) : -12288 ≤ fa2 x p0 ∧ fa2 x p0 ≤ 12288 := btw_range _ (by decide)
theorem fa1_eq (x : Bd) (p0 a2 : Int) (h1 : -12288 ≤ a2) (h2 : a2 ≤ 12288) : fa1 x p0 a2 = Sa69.between (Sa69.held ((if (Sa69.neg p0 == Sa69.neg x.p1) = true then 192 else -192) + Sa69.down (x.a1 * 32640) 15))
    (-(Sa69.held (15360 - a2))) (Sa69.held (15360 - a2)) := by
  unfold fa1
  rw [btw_eq, ← hld_eq, ← hld_eq, neg_eq]
  · rfl
  · unfold hld btw
    split
    · omega
    · split <;> omega
theorem gon_eq (x : Bd) (d : Int) : (gon x d).spec = Sa69.goOn x.spec d := by
  have h2 := fa2_range x (hld (x.sz + d))
  unfold gon ftl Bd.spec Sa69.goOn gon0 ftS ftSz
  simp only [List.getD_cons_zero, List.getD_cons_succ, List.take_succ_cons, List.take_zero]
  rw [fa1_eq _ _ _ h2.1 h2.2, fa2_eq, fb_eq, zer_eq]
  simp only [hld_eq]
  rfl
def scl (x : Bd) (g : Int) : Bd := { x with n := btw 0 (x.n * 127 / 2 ^ 7 + g) (most x.hi), t := wid (btw 0 (x.n * 127 / 2 ^ 7 + g) (most x.hi)) (shf x.hi) }
theorem most_nn (hi : Bool) : 0 ≤ most hi ∧ most hi ≤ 22528 := by cases hi <;> decide
theorem scl_eq (x : Bd) (g : Int) : (scl x g).spec = Sa69.scaled x.spec g := by
  unfold scl Bd.spec Sa69.scaled
  simp only
  rw [btw_eq (most_nn x.hi).1]
  unfold wid Sa69.down most shf
  congr 1
  split
  · split
    · rfl
    · rfl
  · split
    · rfl
    · rfl
/-- move, by its code -/
def mov (x : Bd) (c : Nat) : Bd := gon (scl x ((gain x.hi).getD c 0)) (x.t * (tabl x.hi).getD c 0 / 2 ^ 15)
theorem gain_eq (hi : Bool) (c : Nat) (h : hi = true → c < 4) : (gain hi).getD c 0 = if hi = true then (if c % 2 = 0 then 798 else -214) else Sa69.GOES.getD c 0 := by
  cases hi with
  | false => rfl
  | true =>
    have := h rfl
    match c, this with
    | 0, _ => rfl
    | 1, _ => rfl
    | 2, _ => rfl
    | 3, _ => rfl
theorem mov_eq (x : Bd) (c : Nat) (h : x.hi = true → c < 4) : (mov x c).spec = Sa69.moved x.spec c := by
  unfold mov Sa69.moved
  rw [gon_eq, scl_eq, gain_eq _ _ h]
  show Sa69.goOn _ _ = Sa69.goOn _ _
  congr 1
  unfold tabl Sa69.down Bd.spec
  cases x.hi <;> rfl
/-- x[k::2] -/
def evens : List Int → List Int
  | [] => []
  | [a] => [a]
  | a :: _ :: r => a :: evens r
def odds : List Int → List Int
  | [] => []
  | [_] => []
  | _ :: b :: r => b :: odds r
def dot (xs qs : List Int) : Int := ((xs.zip qs).map fun q => q.1 * q.2).sum
theorem len24 {x : List Int} (h : x.length = 24) : ∃ a0 a1 a2 a3 a4 a5 a6 a7 a8 a9 a10 a11 a12 a13 a14 a15 a16 a17 a18 a19 a20 a21 a22 a23, x = [a0, a1, a2, a3, a4, a5, a6, a7, a8, a9, a10, a11, a12, a13, a14, a15, a16, a17, a18, a19, a20, a21, a22, a23] := by
  match x, h with
  | [a0, a1, a2, a3, a4, a5, a6, a7, a8, a9, a10, a11, a12, a13, a14, a15, a16, a17, a18, a19, a20, a21, a22, a23], _ => exact ⟨_, _, _, _, _, _, _, _, _, _, _, _, _, _, _, _, _, _, _, _, _, _, _, _, rfl⟩
theorem odd_eq {x : List Int} (h : x.length = 24) : dot (evens x) Sa69.Q = Sa69.odd x := by
  obtain ⟨a0, a1, a2, a3, a4, a5, a6, a7, a8, a9, a10, a11, a12, a13, a14, a15, a16, a17, a18, a19, a20, a21, a22, a23, rfl⟩ := len24 h
  rfl
theorem even_eq {x : List Int} (h : x.length = 24) : dot (odds x) Sa69.Q.reverse = Sa69.even x := by
  obtain ⟨a0, a1, a2, a3, a4, a5, a6, a7, a8, a9, a10, a11, a12, a13, a14, a15, a16, a17, a18, a19, a20, a21, a22, a23, rfl⟩ := len24 h
  rfl
def siz (u : Int) : Int := if 0 ≤ u then u else -u - 1
theorem siz_eq (u : Int) : siz u = Sa69.size u := by
  unfold siz Sa69.size
  split
  · rw [if_neg (by omega)]
  · rw [if_pos (by omega)]
/-- the rung -/
def rng (z t : Int) : Nat := ((Sa69.STEPS.findIdx? fun h => decide (z < h * t / 2 ^ 12)).getD 29) + 1
theorem rng_range (z t : Int) : 1 ≤ rng z t ∧ rng z t ≤ 30 := by
  unfold rng
  cases e : Sa69.STEPS.findIdx? fun h => decide (z < h * t / 2 ^ 12) with
  | none => exact ⟨by simp, by simp⟩
  | some i =>
    have h := List.findIdx?_eq_some_iff_findIdx_eq.mp e
    have hl : Sa69.STEPS.length = 29 := rfl
    simp only [Option.getD_some]
    omega
theorem rng_at {z t : Int} {i : Nat} {h : Int} (hi : Sa69.STEPS[i]? = some h) (hz : z < h * t / 2 ^ 12) (hb : ∀ (j : Nat) (g : Int), j < i → Sa69.STEPS[j]? = some g → ¬ z < g * t / 2 ^ 12) : rng z t = i + 1 := by
  have e : (Sa69.STEPS.findIdx? fun h => decide (z < h * t / 2 ^ 12)) = some i := by
    rw [List.findIdx?_eq_some_iff_getElem]
    obtain ⟨hl, he⟩ := List.getElem?_eq_some_iff.mp hi
    refine ⟨hl, by rw [he]; exact decide_eq_true hz, fun j hj => ?_⟩
    have := hb j (Sa69.STEPS[j]'(Nat.lt_trans hj hl)) hj (List.getElem?_eq_getElem _)
    simpa using this
  unfold rng
  rw [e]
  rfl
theorem rng_none {z t : Int} (hb : ∀ (j : Nat) (g : Int), j < 29 → Sa69.STEPS[j]? = some g → ¬ z < g * t / 2 ^ 12) : rng z t = 30 := by
  have e : (Sa69.STEPS.findIdx? fun h => decide (z < h * t / 2 ^ 12)) = none := by
    rw [List.findIdx?_eq_none_iff]
    intro g hg
    obtain ⟨j, hj⟩ := List.getElem?_of_mem hg
    have hl : j < 29 := (List.getElem?_eq_some_iff.mp hj).1
    exact decide_eq_false (hb j g hl hj)
  unfold rng
  rw [e]
  rfl
def lowB (b : Bd) (v : Int) : Int :=
  if 0 ≤ hld (v - b.s) then 62 - (rng (siz (hld (v - b.s))) b.t : Int) else if (rng (siz (hld (v - b.s))) b.t : Int) ≤ 2 then 64 - (rng (siz (hld (v - b.s))) b.t : Int) else 34 - (rng (siz (hld (v - b.s))) b.t : Int)
theorem lowBits_range (b : Sa69.Band) (v : Int) : 4 ≤ Sa69.lowBits b v ∧ Sa69.lowBits b v ≤ 63 := by
  have h := rng_range (Sa69.size (Sa69.held (v - b.s))) b.t
  unfold Sa69.lowBits
  simp only
  have e : ((Sa69.STEPS.findIdx? fun h => decide (Sa69.size (Sa69.held (v - b.s)) < Sa69.down (h * b.t) 12)).getD 29) + 1 = rng (Sa69.size (Sa69.held (v - b.s))) b.t := rfl
  rw [e]
  split
  · split <;> omega
  · omega
theorem lowB_eq (b : Bd) (v : Int) : lowB b v = (Sa69.lowBits b.spec v : Nat) := by
  have h := rng_range (Sa69.size (Sa69.held (v - b.s))) b.t
  unfold lowB Sa69.lowBits
  simp only [siz_eq, hld_eq]
  have e : ((Sa69.STEPS.findIdx? fun h => decide (Sa69.size (Sa69.held (v - b.spec.s)) < Sa69.down (h * b.spec.t) 12)).getD 29) + 1 = rng (Sa69.size (Sa69.held (v - b.s))) b.t := rfl
  rw [e]
  have es : b.spec.s = b.s := rfl
  rw [es]
  by_cases hu : 0 ≤ Sa69.held (v - b.s)
  · rw [if_pos hu, if_neg (show ¬ Sa69.held (v - b.s) < 0 by omega)]
    omega
  · rw [if_neg hu, if_pos (show Sa69.held (v - b.s) < 0 by omega)]
    by_cases hi : rng (Sa69.size (Sa69.held (v - b.s))) b.t ≤ 2
    · rw [if_pos (show (rng (Sa69.size (Sa69.held (v - b.s))) b.t : Int) ≤ 2 by omega), if_pos hi]
      omega
    · rw [if_neg (show ¬ (rng (Sa69.size (Sa69.held (v - b.s))) b.t : Int) ≤ 2 by omega), if_neg hi]
      omega
def highB (b : Bd) (v : Int) : Int :=
  if 0 ≤ hld (v - b.s) then (if 564 * b.t / 2 ^ 12 ≤ siz (hld (v - b.s)) then 2 else 3) else (if 564 * b.t / 2 ^ 12 ≤ siz (hld (v - b.s)) then 0 else 1)
theorem highB_eq (b : Bd) (v : Int) : highB b v = (Sa69.highBits b.spec v : Nat) := by
  unfold highB Sa69.highBits
  simp only [siz_eq, hld_eq]
  have es : b.spec.s = b.s := rfl
  have et : b.spec.t = b.t := rfl
  rw [es, et]
  unfold Sa69.down
  by_cases hu : 0 ≤ Sa69.held (v - b.s)
  · rw [if_pos hu, if_neg (show ¬ Sa69.held (v - b.s) < 0 by omega)]
    by_cases h : 564 * b.t / 2 ^ 12 ≤ Sa69.size (Sa69.held (v - b.s))
    · rw [if_pos h, if_pos (decide_eq_true h)]; rfl
    · rw [if_neg h, if_neg (by simpa using h)]; rfl
  · rw [if_neg hu, if_pos (show Sa69.held (v - b.s) < 0 by omega)]
    by_cases h : 564 * b.t / 2 ^ 12 ≤ Sa69.size (Sa69.held (v - b.s))
    · rw [if_pos h, if_pos (decide_eq_true h)]; rfl
    · rw [if_neg h, if_neg (by simpa using h)]; rfl
theorem highBits_range (b : Sa69.Band) (v : Int) : Sa69.highBits b v ≤ 3 := by
  unfold Sa69.highBits
  simp only
  split
  · split <;> omega
  · split <;> omega
/-- the decoder's low table -/
def lowT (bits : Nat) : List Int := if bits = 8 then Sa69.M6 else if bits = 7 then Sa69.M5 else Sa69.M4
theorem lowT_length {bits : Nat} (h1 : 6 ≤ bits) (h2 : bits ≤ 8) : (lowT bits).length = 2 ^ (bits - 2) := by
  have : bits = 6 ∨ bits = 7 ∨ bits = 8 := by omega
  rcases this with rfl | rfl | rfl <;> rfl
theorem lowT_eq {bits : Nat} (h1 : 6 ≤ bits) (h2 : bits ≤ 8) (lo : Nat) : (lowT bits).getD lo 0 = if bits - 2 = 6 then Sa69.M6.getD lo 0 else if bits - 2 = 5 then Sa69.M5.getD lo 0 else Sa69.M4.getD lo 0 := by
  have : bits = 6 ∨ bits = 7 ∨ bits = 8 := by omega
  rcases this with rfl | rfl | rfl <;> rfl
end TB
/-! The flat list of calls, as the program's loop reads it. -/
namespace TB
/-- what is left to read, and the calls in it -/
inductive Rest : List Int → List (List (List Int)) → Prop
  | nil : Rest [] []
  | beg {r : List Int} {cs : List (List (List Int))} : Rest r cs → Rest (1 :: r) ([[1]] :: cs)
  | enc {a : Int} {x r : List Int} {cs : List (List (List Int))} : (∀ z ∈ x, -32768 ≤ z ∧ z ≤ 32767) → ((x.length : Int) = if 0 ≤ a ∧ a ≤ 65536 then 2 * a else 0) → Rest r cs →
      Rest (2 :: a :: (x.length : Int) :: (x ++ r)) ([[2, a], x] :: cs)
  | dec {b : Int} {x r : List Int} {cs : List (List (List Int))} : (∀ z ∈ x, 0 ≤ z ∧ z ≤ 255) → Rest r cs →
      Rest (3 :: b :: (x.length : Int) :: (x ++ r)) ([[3, (x.length : Int), b], x] :: cs)
theorem row_inv {l x s : List Int} (h : PyFlat.row l = some (x, s)) : l = (x.length : Int) :: (x ++ s) := by
  cases l with
  | nil => cases h
  | cons n r =>
    have h' : (if 0 ≤ n ∧ n.toNat ≤ r.length then some (r.take n.toNat, r.drop n.toNat) else none) = some (x, s) := h
    by_cases k : 0 ≤ n ∧ n.toNat ≤ r.length
    · rw [if_pos k] at h'
      obtain ⟨e1, e2⟩ := Prod.mk.inj (Option.some.inj h')
      have hl : x.length = n.toNat := by
        rw [← e1, List.length_take]
        omega
      have hn : (x.length : Int) = n := by omega
      rw [hn, ← e1, ← e2, List.take_append_drop]
    · rw [if_neg k] at h'
      cases h'
theorem rows1_inv {l t : List Int} {xs : List (List Int)} (h : PyFlat.rows 1 l = some (xs, t)) : ∃ x, xs = [x] ∧ l = (x.length : Int) :: (x ++ t) := by
  have h' : (match PyFlat.row l with
    | none => none
    | some (x, s) => match PyFlat.rows 0 s with
      | none => none
      | some (xs, t) => some (x :: xs, t)) = some (xs, t) := h
  cases e : PyFlat.row l with
  | none => rw [e] at h'; cases h'
  | some p =>
    obtain ⟨x, s⟩ := p
    rw [e] at h'
    have h2 : some ([x], s) = some (xs, t) := h'
    obtain ⟨e1, e2⟩ := Prod.mk.inj (Option.some.inj h2)
    exact ⟨x, e1.symm, by rw [← e2]; exact row_inv e⟩
theorem rest_of : ∀ (f : Nat) (l : List Int) (cs : List (List (List Int))), PyFlat.calls PySa69.shape f l = some cs → (∀ c ∈ cs.map PySa69.whole, Sa69Neutral.asked1 c = true) → Rest l (cs.map PySa69.whole)
  | f, [], cs, h, _ => by
    have h' : some [] = some cs := by cases f <;> exact h
    cases h'
    exact .nil
  | 0, _ :: _, cs, h, _ => by cases h
  | f + 1, p :: r, cs, h, ha => by
    have h1 : (match PyFlat.call PySa69.shape (p :: r) with
      | none => none
      | some (c, t) => match PyFlat.calls PySa69.shape f t with
        | none => none
        | some cs => some (c :: cs)) = some cs := h
    cases e : PyFlat.call PySa69.shape (p :: r) with
    | none => rw [e] at h1; cases h1
    | some q =>
      obtain ⟨c, t⟩ := q
      rw [e] at h1
      have h2 : (match PyFlat.calls PySa69.shape f t with
        | none => none
        | some cs => some (c :: cs)) = some cs := h1
      cases e2 : PyFlat.calls PySa69.shape f t with
      | none => rw [e2] at h2; cases h2
      | some ds =>
        rw [e2] at h2
        have h3 : c :: ds = cs := Option.some.inj h2
        subst h3
        have ih := rest_of f t ds e2 (fun d hd => ha d (List.mem_cons_of_mem _ hd))
        have hc : Sa69Neutral.asked1 (PySa69.whole c) = true := ha _ List.mem_cons_self
        have e3 : (match PySa69.shape p with
          | none => none
          | some (n, k) => if r.length < n then none else match PyFlat.rows k (r.drop n) with
            | none => none
            | some (xs, t) => some ((p :: r.take n) :: xs, t)) = some (c, t) := e
        rw [List.map_cons]
        by_cases p1 : p = 1
        · subst p1
          have e4 : some ([[(1 : Int)]], r) = some (c, t) := e3
          obtain ⟨e5, e6⟩ := Prod.mk.inj (Option.some.inj e4)
          subst e5 e6
          exact .beg ih
        · have two : ∀ (hp : PySa69.shape p = some (1, 1)), ∃ a x, r = a :: (x.length : Int) :: (x ++ t) ∧ c = [[p, a], x] := by
            intro hp
            rw [hp] at e3
            have e4 : (if r.length < 1 then none else match PyFlat.rows 1 (r.drop 1) with
              | none => none
              | some (xs, t) => some ((p :: r.take 1) :: xs, t)) = some (c, t) := e3
            cases r with
            | nil => simp at e4
            | cons a r' =>
              rw [if_neg (by simp)] at e4
              have e5 : (match PyFlat.rows 1 r' with
                | none => none
                | some (xs, t) => some ((p :: [a]) :: xs, t)) = some (c, t) := e4
              cases e6 : PyFlat.rows 1 r' with
              | none => rw [e6] at e5; cases e5
              | some q =>
                obtain ⟨xs, t'⟩ := q
                rw [e6] at e5
                have e7 : some ((p :: [a]) :: xs, t') = some (c, t) := e5
                obtain ⟨e8, e9⟩ := Prod.mk.inj (Option.some.inj e7)
                subst e8 e9
                obtain ⟨x, rfl, hx⟩ := rows1_inv e6
                exact ⟨a, x, by rw [hx], rfl⟩
          by_cases p2 : p = 2
          · subst p2
            obtain ⟨a, x, rfl, rfl⟩ := two rfl
            have hc' : ((x.all (fun (z : Int) => decide (-32768 ≤ z) && decide (z ≤ 32767)) && decide ((x.length : Int) = if 0 ≤ a ∧ a ≤ 65536 then 2 * a else 0)) && (Sa69Neutral.whole32 a)) = true := hc
            simp only [Bool.and_eq_true, List.all_eq_true, decide_eq_true_eq] at hc'
            exact .enc (fun z hz => hc'.1.1 z hz) hc'.1.2 ih
          · by_cases p3 : p = 3
            · subst p3
              obtain ⟨a, x, rfl, rfl⟩ := two rfl
              have hc' : ((x.all (fun (z : Int) => Sa69Neutral.natural z 8) && Sa69Neutral.long x (x.length : Int) 0 65536) && (Sa69Neutral.whole32 (x.length : Int) && (Sa69Neutral.whole32 a))) = true := hc
              simp only [Bool.and_eq_true, List.all_eq_true] at hc'
              refine .dec (fun z hz => ?_) ih
              have := hc'.1.1 z hz
              unfold Sa69Neutral.natural at this
              simp only [Bool.and_eq_true, decide_eq_true_eq] at this
              omega
            · have hs : PySa69.shape p = none := by
                unfold PySa69.shape
                rw [if_neg p1, if_neg p2, if_neg p3]
              rw [hs] at e3
              cases e3
/-- the whole list, asked -/
theorem asked_rest {ns : List Int} (h : PySa69.answers_asked ns = true) :
    ∃ cs, Rest ns ([[1]] :: cs) ∧ PySa69.answers ns = PyFlat.told (PyFlat.played Sa69Neutral.step Sa69Neutral.start ([[1]] :: cs)) := by
  unfold PySa69.answers_asked at h
  unfold PySa69.answers
  cases e : PySa69.calls ns with
  | none => rw [e] at h; cases h
  | some ds =>
    rw [e] at h
    have h' : (PyFlat.atMost 400 ds && Sa69Neutral.asked ds) = true := h
    unfold Sa69Neutral.asked at h'
    simp only [Bool.and_eq_true] at h'
    obtain ⟨_, ⟨⟨⟨h1, _⟩, _⟩, _⟩, h5⟩ := h'
    unfold PySa69.calls at e
    cases e2 : PyFlat.calls PySa69.shape ns.length ns with
    | none => rw [e2] at e; cases e
    | some cs =>
      rw [e2] at e
      have e3 : cs.map PySa69.whole = ds := Option.some.inj e
      have hr := rest_of _ _ _ e2 (fun c hc => by rw [e3] at hc; exact List.all_eq_true.mp h1 c hc)
      rw [e3] at hr
      cases ds with
      | nil => simp at h5
      | cons c r =>
        have h6 : (c == [[1]]) = true := by simpa using h5
        have h7 : c = [[1]] := eq_of_beq h6
        subst h7
        exact ⟨r, hr, rfl⟩
theorem played_cons (s : Sa69.Abs) (c : List (List Int)) (cs : List (List (List Int))) : PyFlat.told (PyFlat.played Sa69Neutral.step s (c :: cs)) =
    ((Sa69Neutral.step s c).2.length : Int) :: (Sa69Neutral.step s c).2 ++ PyFlat.told (PyFlat.played Sa69Neutral.step (Sa69Neutral.step s c).1 cs) := rfl
theorem step_beg (s : Sa69.Abs) : Sa69Neutral.step s [[1]] = (some ⟨Sa69.begun, Sa69.begun⟩, [0]) := by cases s <;> rfl
theorem step_enc_bad (S : Sa69.St) (a : Int) (x : List Int) (h : ¬ (0 ≤ a ∧ a ≤ 65536)) : Sa69Neutral.step (some S) [[2, a], x] = (some S, [-2]) := by
  have hw : Sa69.within a 0 65536 = false := by
    unfold Sa69.within
    rw [← Bool.decide_and]
    exact decide_eq_false h
  show ((Sa69.does (some S) (.encode x a)).1, (Sa69.does (some S) (.encode x a)).2.v :: (Sa69.does (some S) (.encode x a)).2.l) = _
  have e : Sa69.does (some S) (.encode x a) = (some S, Sa69.ok (-2)) := by
    show (if Sa69.within a 0 65536 = false then _ else _) = _
    rw [if_pos hw]
  rw [e]
  rfl
theorem step_enc (S : Sa69.St) (a : Int) (x : List Int) (h : 0 ≤ a ∧ a ≤ 65536) : Sa69Neutral.step (some S) [[2, a], x] = (some { S with to := (Sa69.encodeAll S.to x).1 }, a :: (Sa69.encodeAll S.to x).2.map fun (n : Nat) => (n : Int)) := by
  have hw : ¬ Sa69.within a 0 65536 = false := by
    unfold Sa69.within
    rw [← Bool.decide_and, decide_eq_true h]
    decide
  show ((Sa69.does (some S) (.encode x a)).1, (Sa69.does (some S) (.encode x a)).2.v :: (Sa69.does (some S) (.encode x a)).2.l) = _
  have e : Sa69.does (some S) (.encode x a) = (let r := Sa69.encodeAll S.to x; (some { S with to := r.1 }, ⟨a, r.2.map fun (x : Nat) => (x : Int)⟩)) := by
    show (if Sa69.within a 0 65536 = false then _ else _) = _
    rw [if_neg hw]
  rw [e]
theorem step_dec_bad (S : Sa69.St) (n b : Int) (x : List Int) (h : ¬ (6 ≤ b ∧ b ≤ 8)) : Sa69Neutral.step (some S) [[3, n, b], x] = (some S, [-2]) := by
  have hw : (Sa69.within n 0 65536 && Sa69.within b 6 8) = false := by
    have : Sa69.within b 6 8 = false := by
      unfold Sa69.within
      rw [← Bool.decide_and]
      exact decide_eq_false h
    rw [this, Bool.and_false]
  show ((Sa69.does (some S) (.decode (x.map Int.toNat) n b)).1, (Sa69.does (some S) (.decode (x.map Int.toNat) n b)).2.v :: (Sa69.does (some S) (.decode (x.map Int.toNat) n b)).2.l) = _
  have e : Sa69.does (some S) (.decode (x.map Int.toNat) n b) = (some S, Sa69.ok (-2)) := by
    show (if (Sa69.within n 0 65536 && Sa69.within b 6 8) = false then _ else _) = _
    rw [if_pos hw]
  rw [e]
  rfl
theorem step_dec (S : Sa69.St) (n b : Int) (x : List Int) (hn : 0 ≤ n ∧ n ≤ 65536) (h : 6 ≤ b ∧ b ≤ 8) : Sa69Neutral.step (some S) [[3, n, b], x] =
    (some { S with back := (Sa69.decodeAll b.toNat S.back (x.map Int.toNat)).1 }, n :: (Sa69.decodeAll b.toNat S.back (x.map Int.toNat)).2) := by
  have hw : ¬ (Sa69.within n 0 65536 && Sa69.within b 6 8) = false := by
    have h1 : Sa69.within n 0 65536 = true := by
      unfold Sa69.within
      rw [← Bool.decide_and, decide_eq_true hn]
    have h2 : Sa69.within b 6 8 = true := by
      unfold Sa69.within
      rw [← Bool.decide_and, decide_eq_true h]
    rw [h1, h2]
    decide
  show ((Sa69.does (some S) (.decode (x.map Int.toNat) n b)).1, (Sa69.does (some S) (.decode (x.map Int.toNat) n b)).2.v :: (Sa69.does (some S) (.decode (x.map Int.toNat) n b)).2.l) = _
  have e : Sa69.does (some S) (.decode (x.map Int.toNat) n b) = (let r := Sa69.decodeAll b.toNat S.back (x.map Int.toNat); (some { S with back := r.1 }, ⟨n, r.2⟩)) := by
    show (if (Sa69.within n 0 65536 && Sa69.within b 6 8) = false then _ else _) = _
    rw [if_neg hw]
  rw [e]
/-- encoding pair by pair -/
theorem encodeAll_append : ∀ (k : Nat) (e : Sa69.End) (x y : List Int), x.length = 2 * k → Sa69.encodeAll e (x ++ y) = ((Sa69.encodeAll (Sa69.encodeAll e x).1 y).1, (Sa69.encodeAll e x).2 ++ (Sa69.encodeAll (Sa69.encodeAll e x).1 y).2)
  | 0, e, x, y, h => by
    cases x with
    | nil => rfl
    | cons a r => simp at h
  | k + 1, e, x, y, h => by
    match x, h with
    | a :: b :: r, h =>
      have ih := encodeAll_append k (Sa69.encode e a b).1 r y (by simp at h; omega)
      show ((Sa69.encodeAll (Sa69.encode e a b).1 (r ++ y)).1, (Sa69.encode e a b).2 :: (Sa69.encodeAll (Sa69.encode e a b).1 (r ++ y)).2) = _
      rw [ih]
      rfl
    | [_], h => simp at h; omega
    | [], h => simp at h
theorem encodeAll_length : ∀ (k : Nat) (e : Sa69.End) (x : List Int), x.length = 2 * k → (Sa69.encodeAll e x).2.length = k
  | 0, e, x, h => by
    cases x with
    | nil => rfl
    | cons a r => simp at h
  | k + 1, e, x, h => by
    match x, h with
    | a :: b :: r, h =>
      have ih := encodeAll_length k (Sa69.encode e a b).1 r (by simp at h; omega)
      show ((Sa69.encode e a b).2 :: (Sa69.encodeAll (Sa69.encode e a b).1 r).2).length = k + 1
      rw [List.length_cons, ih]
    | [_], h => simp at h; omega
    | [], h => simp at h
theorem decodeAll_snoc (n : Nat) : ∀ (e : Sa69.End) (x : List Nat) (c : Nat), Sa69.decodeAll n e (x ++ [c]) =
    ((Sa69.decode (Sa69.decodeAll n e x).1 n c).1, (Sa69.decodeAll n e x).2 ++ [(Sa69.decode (Sa69.decodeAll n e x).1 n c).2.1, (Sa69.decode (Sa69.decodeAll n e x).1 n c).2.2])
  | e, [], c => rfl
  | e, a :: r, c => by
    have ih := decodeAll_snoc n (Sa69.decode e n a).1 r c
    show ((Sa69.decodeAll n (Sa69.decode e n a).1 (r ++ [c])).1, (Sa69.decode e n a).2.1 :: (Sa69.decode e n a).2.2 :: (Sa69.decodeAll n (Sa69.decode e n a).1 (r ++ [c])).2) = _
    rw [ih]
    rfl
theorem decodeAll_length (n : Nat) : ∀ (e : Sa69.End) (x : List Nat), (Sa69.decodeAll n e x).2.length = 2 * x.length
  | e, [] => rfl
  | e, a :: r => by
    have ih := decodeAll_length n (Sa69.decode e n a).1 r
    show ((Sa69.decode e n a).2.1 :: (Sa69.decode e n a).2.2 :: (Sa69.decodeAll n (Sa69.decode e n a).1 r).2).length = 2 * (a :: r).length
    rw [List.length_cons, List.length_cons, ih, List.length_cons]
    omega
end TB
/-! Steps of the machine that the layer lacks: zip of a list and a tuple, enumerate(tuple, start=1), t[::-1]. -/
namespace TBR
open PySem
open AutoSeq1 (wpAny_loadPart')
section
variable {prog : Program} {w : World} {A : Around} {E : Value → Shared → Prop} {s : Shared}
/-- a tuple's iterator hands on its next item -/
theorem drawT {j t : Addr} {k : Nat} {xs : Array Value} {x : Value} {Q : Value → Shared → Prop} (hj : s.heap.IsTupleIter j t k) (ht : s.heap.IsTuple t xs) (hx : xs[k]? = some x)
    (q : ∀ h', h'.IsTupleIter j t (k + 1) → Heap.SameBut j s.heap h' → Q x { s with heap := h' }) : wpAny (model prog w) A (Builtin.SmallTypes.nextOf (.ref j)) Q E s := by
  obtain ⟨oj, gj, cj, dj⟩ := id hj
  obtain ⟨ot, gt, _, nt, dt⟩ := ht
  unfold Builtin.SmallTypes.nextOf
  refine wpAny_bind (wpAny_callSpecial?_slot (name := Str.ofString "__next__") hj.typeIs F.slot_tuple_iterator_next
    (wpAny_call_entry F.slot_tuple_iterator_next hj.typeIs F.entry_tuple_iterator_next (show wpAny _ _ (field (.ref j) 0 >>= _) _ _ s from wpAny_bind (wpAny_field gj dj (x := .ref t) rfl ?_)) (F.args_tuple_iterator_next_1 _)))
  show wpAny _ _ (if (Value.ref t == Value.none) = true then _ else _) _ _ s
  rw [if_neg (fun z : (Value.ref t == Value.none) = true => Bool.false_ne_true z)]
  refine (show wpAny _ _ (field (.ref j) 1 >>= _) _ _ s from wpAny_bind (wpAny_field gj dj (x := .int k 0) rfl ?_))
  refine (show wpAny _ _ (seqItems? (.ref t) >>= _) _ _ s from wpAny_bind (wpAny_seqItems gt dt ?_))
  simp only [Int.toNat_natCast, hx]
  refine wpAny_bind (wpAny_setField gj dj (by simp) (wpAny_pure ⟨x, rfl, wpAny_pure (q _ ⟨_, Heap.get?_update_self _ gj (Obj.isFreed_of_fields (Obj.data_mapFields dj _)), (Obj.cls_mapFields ..).trans cj, ?_⟩ (Heap.SameBut.update ..))⟩))
  rw [Obj.data_mapFields dj]
  simp [rawInt]
/-- or ends -/
theorem drawT_end {j t : Addr} {k : Nat} {xs : Array Value} {Q : Value → Shared → Prop} (hh : A.handled = none) (hj : s.heap.IsTupleIter j t k) (ht : s.heap.IsTuple t xs) (hx : xs[k]? = none)
    (q : ∀ h' e, Heap.ExtBut j s.heap h' → (∃ o, h'.get? e = some o ∧ o.cls = .type "StopIteration") → E (.ref e) { s with heap := h' }) : wpAny (model prog w) A (Builtin.SmallTypes.nextOf (.ref j)) Q E s := by
  obtain ⟨oj, gj, cj, dj⟩ := id hj
  obtain ⟨ot, gt, _, nt, dt⟩ := ht
  unfold Builtin.SmallTypes.nextOf
  refine wpAny_bind (wpAny_callSpecial?_slot (name := Str.ofString "__next__") hj.typeIs F.slot_tuple_iterator_next
    (wpAny_call_entry F.slot_tuple_iterator_next hj.typeIs F.entry_tuple_iterator_next (show wpAny _ _ (field (.ref j) 0 >>= _) _ _ s from wpAny_bind (wpAny_field gj dj (x := .ref t) rfl ?_)) (F.args_tuple_iterator_next_1 _)))
  show wpAny _ _ (if (Value.ref t == Value.none) = true then _ else _) _ _ s
  rw [if_neg (fun z : (Value.ref t == Value.none) = true => Bool.false_ne_true z)]
  refine (show wpAny _ _ (field (.ref j) 1 >>= _) _ _ s from wpAny_bind (wpAny_field gj dj (x := .int k 0) rfl ?_))
  refine (show wpAny _ _ (seqItems? (.ref t) >>= _) _ _ s from wpAny_bind (wpAny_seqItems gt dt ?_))
  simp only [Int.toNat_natCast, hx]
  refine wpAny_bind (wpAny_rule (wpAny_bind (wpAny_setField gj dj (by simp) ?_)))
  refine (show wpAny _ _ (newExc (.type "StopIteration") [] >>= _) _ _ _ from wpAny_bind ?_)
  simp only [newExc, newTuple]
  refine wpAny_bind (wpAny_newObj_type (wpAny_bind (m := firstArgMember _ _) (wpAny_of_eq (a := Value.none) (by first | rfl | (simp only [firstArgMember]; rfl)) (wpAny_newObj_type ?_ (by size_fits)))) (by size_fits))
  simp only [raiseNew]
  refine wpAny_bind (wpAny_handled ?_)
  first | rw [show A.in1.handled = none from hh] | rw [hh]
  exact wpAny_bind (wpAny_pure (wpAny_throw (q _ _ (((Heap.SameBut.update ..).extBut.push _).push _) ⟨_, Heap.get?_push_size _ rfl, rfl⟩)))
/-- from 1 on: the j-th draw is the item at j - 1 -/
theorem drawsT1 (hh : A.handled = none) (j t : Addr) (hne : t ≠ j) (xs : Array Value) :
    Draws prog w A j [j, t] (xs.size + 1) (fun m x => ∃ i, m = i + 1 ∧ xs[i]? = some x) (fun m h => ∃ i, m = i + 1 ∧ h.IsTupleIter j t i ∧ h.IsTuple t xs) where
  live := fun m h ⟨i, _, ⟨o, g, _⟩, _⟩ => ⟨o, g⟩
  frame := fun m h h' ⟨i, e, hi, ⟨o, g, r⟩⟩ k => ⟨i, e, hi.at fun o' q => k j (by simp) o' q, ⟨o, k t (by simp) o g, r⟩⟩
  item := fun m s Q E hm ⟨i, e, hi, ht⟩ q => by
    subst e
    have hl : i < xs.size := by omega
    exact drawT hi ht (Array.getElem?_eq_getElem hl) fun h' hi' sb => q _ h' s.toks ⟨i, rfl, Array.getElem?_eq_getElem hl⟩ ⟨i + 1, rfl, hi', ht.extBut sb.extBut hne⟩ sb
  done := fun s Q E ⟨i, e, hi, ht⟩ q => by
    have hl : i = xs.size := by omega
    subst hl
    exact drawT_end hh hi ht (Array.getElem?_eq_none (Nat.le_refl _)) q
/-! ### zip(list, tuple) -/
theorem zipLT_next {z TI TO i1 i2 l1 t2 : Addr} {k1 k2 : Nat} {xs ys : Array Value} {x y a b : Value} {Q : Value → Shared → Prop} (D : ZipApart z TI TO i1 i2 l1 t2)
    (hz : IsZip s.heap z TI TO .none) (hTI : IsPair s.heap TI (.ref i1) (.ref i2)) (hTO : IsPair s.heap TO a b)
    (g1 : s.heap.IsListIter i1 l1 k1) (g2 : s.heap.IsTupleIter i2 t2 k2) (gl : s.heap.IsList l1 xs) (gt : s.heap.IsTuple t2 ys) (hx : xs[k1]? = some x) (hy : ys[k2]? = some y)
    (q : ∀ h', IsZip h' z TI TO (rawInt s.heap.objs.size) → IsPair h' TO x y → h'.IsListIter i1 l1 (k1 + 1) → h'.IsTupleIter i2 t2 (k2 + 1) → IsPair h' s.heap.objs.size x y → h'.objs.size = s.heap.objs.size + 1 →
      (∀ c o, c ≠ z → c ≠ TO → c ≠ i1 → c ≠ i2 → s.heap.get? c = some o → h'.get? c = some o) → Q (.ref s.heap.objs.size) { s with heap := h' }) :
    wpAny (model prog w) A (Builtin.«zip.__next__» ⟨[.ref z], []⟩) (fun fin s' => ∃ v, fin = .done (.ret v) ∧ Q v s') E s := by
  refine (show wpAny _ _ (field (.ref z) 2 >>= _) _ _ _ from wpAny_bind (wpAny_field hz rfl (x := .bool false) rfl ?_))
  refine (show wpAny _ _ (field (.ref z) 3 >>= _) _ _ _ from wpAny_bind (wpAny_field hz rfl (x := .ref TI) rfl (wpAny_bind (wpAny_seqItems hTI rfl ?_))))
  refine (show wpAny _ _ (Builtin.SmallTypes.ownedTupleIsFree (.ref z) >>= _) _ _ _ from wpAny_bind ?_)
  unfold Builtin.SmallTypes.ownedTupleIsFree
  refine wpAny_bind (wpAny_field hz rfl (x := .none) rfl (wpAny_pure ?_))
  simp only [if_true]
  refine wpAny_bind (wpAny_rule (wpAny_bind (wpAny_field hz rfl (x := .ref TO) rfl (wpAny_bind (wpAny_setField_rec hz (by simp) fun hA zA sA => ?_)))))
  replace zA : IsZip hA z TI TO .ellipsis := zA
  refine wpAny_bind ?_
  simp only [List.zipIdx_cons, List.zipIdx_nil, List.forIn_cons, List.forIn_nil]
  -- the list's item
  refine wpAny_bind (wpAny_bind (wpAny_onRaise (show wpAny _ _ (Builtin.SmallTypes.nextOf (.ref i1) >>= _) _ _ _ from ?_)))
  refine wpAny_bind (wpAny_nextOf_list_item (g1.extBut sA.extBut D.i1z) (gl.extBut sA.extBut D.l1z) hx fun hB g1B sB => wpAny_pure ?_)
  have oB : IsPair hB TO a b := sB.extBut _ _ D.TOi1 (sA.extBut _ _ D.TOz hTO)
  refine wpAny_bind (wpAny_seqItems oB rfl (wpAny_bind (wpAny_updateSeq_pair oB fun hC oC sC => ?_)))
  replace oC : IsPair hC TO x b := oC
  -- the tuple's
  refine wpAny_bind (wpAny_letGo (wpAny_pure (wpAny_bind (wpAny_bind (wpAny_onRaise (show wpAny _ _ (Builtin.SmallTypes.nextOf (.ref i2) >>= _) _ _ _ from ?_))))))
  refine wpAny_bind (drawT (((g2.extBut sA.extBut D.i2z).extBut sB.extBut D.i12.symm).extBut sC.extBut D.TOi2.symm) (((gt.extBut sA.extBut D.l2z).extBut sB.extBut D.l2i1).extBut sC.extBut D.l2TO) hy fun hD g2D sD => wpAny_pure ?_)
  have oD : IsPair hD TO x b := sD.extBut _ _ D.TOi2 oC
  refine wpAny_bind (wpAny_seqItems oD rfl (wpAny_bind (wpAny_updateSeq_pair oD fun hF oF sF => ?_)))
  replace oF : IsPair hF TO x y := oF
  refine wpAny_bind (wpAny_letGo (wpAny_pure (wpAny_pure (wpAny_bind (wpAny_seqItems oF rfl (wpAny_bind (wpAny_newTuple ?_)))))))
  -- what stands now
  have size : hF.objs.size = s.heap.objs.size := by rw [sF.1, sD.1, sC.1, sB.1, sA.1]
  have zF : IsZip hF z TI TO .ellipsis := sF.extBut _ _ D.TOz.symm (sD.extBut _ _ D.i2z.symm (sC.extBut _ _ D.TOz.symm (sB.extBut _ _ D.i1z.symm zA)))
  have keepF : ∀ c o, c ≠ z → c ≠ TO → c ≠ i1 → c ≠ i2 → s.heap.get? c = some o → hF.get? c = some o := fun c o n1 n2 n3 n4 e =>
    sF.extBut _ _ n2 (sD.extBut _ _ n4 (sC.extBut _ _ n2 (sB.extBut _ _ n3 (sA.extBut _ _ n1 e))))
  have g1F : hF.IsListIter i1 l1 (k1 + 1) := ((g1B.extBut sC.extBut D.TOi1.symm).extBut sD.extBut D.i12).extBut sF.extBut D.TOi1.symm
  have g2F : hF.IsTupleIter i2 t2 (k2 + 1) := g2D.extBut sF.extBut D.TOi2.symm
  have ltz : z < hF.objs.size := Heap.lt_size zF
  refine (show wpAny _ _ (Builtin.SmallTypes.ownedTupleHandOut (.ref z) (.ref hF.objs.size) >>= _) _ _ _ from wpAny_bind ?_)
  unfold Builtin.SmallTypes.ownedTupleHandOut
  have zG : IsZip (hF.push { cls := .type "tuple", data := .seq #[x, y] }) z TI TO .ellipsis := Heap.get?_push_of_some _ zF
  refine wpAny_bind (wpAny_setField_rec zG (by simp) fun hH zH sH => ?_)
  replace zH : IsZip hH z TI TO (rawInt hF.objs.size) := zH
  refine wpAny_setField_rec zH (by simp) fun hJ zJ sJ => ?_
  replace zJ : IsZip hJ z TI TO (rawInt hF.objs.size) := zJ
  have up : ∀ c o, c ≠ z → hF.get? c = some o → hJ.get? c = some o := fun c o n e => sJ.extBut _ _ n (sH.extBut _ _ n (Heap.get?_push_of_some _ e))
  have newT : IsPair hJ hF.objs.size x y := sJ.extBut _ _ (Nat.ne_of_gt ltz) (sH.extBut _ _ (Nat.ne_of_gt ltz) (Heap.get?_push_size _ rfl))
  have sizeJ : hJ.objs.size = hF.objs.size + 1 := by rw [sJ.1, sH.1, Heap.size_push]
  rw [size] at zJ newT sizeJ
  refine wpAny_pure ⟨_, rfl, ?_⟩
  show Q (.ref hF.objs.size) _
  rw [size]
  exact q hJ zJ (up _ _ D.TOz oF) (g1F.at fun o e => up _ o D.i1z e) (g2F.at fun o e => up _ o D.i2z e) newT sizeJ fun c o n1 n2 n3 n4 e => up c o n1 (keepF c o n1 n2 n3 n4 e)
theorem zipLT_stop {z TI TO i1 i2 l1 t2 : Addr} {k1 k2 : Nat} {xs ys : Array Value} {a b : Value} {Q : Fin → Shared → Prop} (hh : A.handled = none) (D : ZipApart z TI TO i1 i2 l1 t2)
    (hz : IsZip s.heap z TI TO .none) (hTI : IsPair s.heap TI (.ref i1) (.ref i2)) (hTO : IsPair s.heap TO a b)
    (g1 : s.heap.IsListIter i1 l1 k1) (g2 : s.heap.IsTupleIter i2 t2 k2) (gl : s.heap.IsList l1 xs) (gt : s.heap.IsTuple t2 ys) (hend : xs[k1]? = none ∨ ys[k2]? = none)
    (q : ∀ h' e, (∀ c o, c ≠ z → c ≠ TO → c ≠ i1 → c ≠ i2 → s.heap.get? c = some o → h'.get? c = some o) → (∃ o, h'.get? e = some o ∧ o.cls = .type "StopIteration") → E (.ref e) { s with heap := h' }) :
    wpAny (model prog w) A (Builtin.«zip.__next__» ⟨[.ref z], []⟩) Q E s := by
  refine (show wpAny _ _ (field (.ref z) 2 >>= _) _ _ _ from wpAny_bind (wpAny_field hz rfl (x := .bool false) rfl ?_))
  refine (show wpAny _ _ (field (.ref z) 3 >>= _) _ _ _ from wpAny_bind (wpAny_field hz rfl (x := .ref TI) rfl (wpAny_bind (wpAny_seqItems hTI rfl ?_))))
  refine (show wpAny _ _ (Builtin.SmallTypes.ownedTupleIsFree (.ref z) >>= _) _ _ _ from wpAny_bind ?_)
  unfold Builtin.SmallTypes.ownedTupleIsFree
  refine wpAny_bind (wpAny_field hz rfl (x := .none) rfl (wpAny_pure ?_))
  simp only [if_true]
  refine wpAny_bind (wpAny_rule (wpAny_bind (wpAny_field hz rfl (x := .ref TO) rfl (wpAny_bind (wpAny_setField_rec hz (by simp) fun hA zA sA => ?_)))))
  replace zA : IsZip hA z TI TO .ellipsis := zA
  refine wpAny_bind ?_
  simp only [List.zipIdx_cons, List.zipIdx_nil, List.forIn_cons, List.forIn_nil]
  refine wpAny_bind (wpAny_bind (wpAny_onRaise (show wpAny _ _ (Builtin.SmallTypes.nextOf (.ref i1) >>= _) _ _ _ from ?_)))
  have stopped : ∀ {hB : Heap} {e : Addr}, IsZip hB z TI TO .ellipsis → (∃ o, hB.get? e = some o ∧ o.cls = .type "StopIteration") → e ≠ z := fun zB ⟨o, ho, hc⟩ w => by
    subst w
    rw [zB] at ho
    cases ho
    simp at hc
  cases hx : xs[k1]? with
  | none =>
    refine wpAny_bind (wpAny_nextOf_list_end hh (g1.extBut sA.extBut D.i1z) (gl.extBut sA.extBut D.l1z) hx fun hB e sB he => ?_)
    have zB : IsZip hB z TI TO .ellipsis := sB _ _ D.i1z.symm zA
    have nz := stopped zB he
    obtain ⟨oe, ho, hc⟩ := he
    exact wpAny_setField_rec zB (by simp) fun hC _ sC => q hC e (fun c o n1 _ n3 _ w => sC.extBut _ _ n1 (sB _ _ n3 (sA.extBut _ _ n1 w))) ⟨oe, sC.extBut _ _ nz ho, hc⟩
  | some x =>
    have hy : ys[k2]? = none := hend.resolve_left fun w => by rw [hx] at w; cases w
    refine wpAny_bind (wpAny_nextOf_list_item (g1.extBut sA.extBut D.i1z) (gl.extBut sA.extBut D.l1z) hx fun hB g1B sB => wpAny_pure ?_)
    have oB : IsPair hB TO a b := sB.extBut _ _ D.TOi1 (sA.extBut _ _ D.TOz hTO)
    refine wpAny_bind (wpAny_seqItems oB rfl (wpAny_bind (wpAny_updateSeq_pair oB fun hC oC sC => ?_)))
    refine wpAny_bind (wpAny_letGo (wpAny_pure (wpAny_bind (wpAny_bind (wpAny_onRaise (show wpAny _ _ (Builtin.SmallTypes.nextOf (.ref i2) >>= _) _ _ _ from ?_))))))
    refine wpAny_bind (drawT_end hh (((g2.extBut sA.extBut D.i2z).extBut sB.extBut D.i12.symm).extBut sC.extBut D.TOi2.symm) (((gt.extBut sA.extBut D.l2z).extBut sB.extBut D.l2i1).extBut sC.extBut D.l2TO) hy fun hD e sD he => ?_)
    have zD : IsZip hD z TI TO .ellipsis := sD _ _ D.i2z.symm (sC.extBut _ _ D.TOz.symm (sB.extBut _ _ D.i1z.symm zA))
    have nz := stopped zD he
    obtain ⟨oe, ho, hc⟩ := he
    exact wpAny_setField_rec zD (by simp) fun hF _ sF => q hF e (fun c o n1 n2 n3 n4 w => sF.extBut _ _ n1 (sD _ _ n4 (sC.extBut _ _ n2 (sB.extBut _ _ n3 (sA.extBut _ _ n1 w))))) ⟨oe, sF.extBut _ _ nz ho, hc⟩
theorem nextLT {z TI TO i1 i2 l1 t2 : Addr} {k1 k2 : Nat} {xs ys : Array Value} {x y a b : Value} {Q : Option Value → Shared → Prop} (D : ZipApart z TI TO i1 i2 l1 t2)
    (hz : IsZip s.heap z TI TO .none) (hTI : IsPair s.heap TI (.ref i1) (.ref i2)) (hTO : IsPair s.heap TO a b)
    (g1 : s.heap.IsListIter i1 l1 k1) (g2 : s.heap.IsTupleIter i2 t2 k2) (gl : s.heap.IsList l1 xs) (gt : s.heap.IsTuple t2 ys) (hx : xs[k1]? = some x) (hy : ys[k2]? = some y)
    (q : ∀ h', IsZip h' z TI TO (rawInt s.heap.objs.size) → IsPair h' TO x y → h'.IsListIter i1 l1 (k1 + 1) → h'.IsTupleIter i2 t2 (k2 + 1) → IsPair h' s.heap.objs.size x y → h'.objs.size = s.heap.objs.size + 1 →
      (∀ c o, c ≠ z → c ≠ TO → c ≠ i1 → c ≠ i2 → s.heap.get? c = some o → h'.get? c = some o) → Q (some (.ref s.heap.objs.size)) { s with heap := h' }) : wpAny (model prog w) A (pyNext (.ref z)) Q E s := by
  have tz : s.TypeIs (.ref z) "zip" := ⟨_, hz, rfl⟩
  unfold pyNext
  exact wpAny_bind (wpAny_attempt (wpAny_callSpecial?_slot (name := Str.ofString "__next__") tz F.slot_zip_next (wpAny_call_entry F.slot_zip_next tz F.entry_zip_next
    (zipLT_next D hz hTI hTO g1 g2 gl gt hx hy fun h' b1 b2 b3 b4 b5 b6 b7 => wpAny_pure (q h' b1 b2 b3 b4 b5 b6 b7)) (F.args_zip_next_1 _))))
theorem nextLT_end {z TI TO i1 i2 l1 t2 : Addr} {k1 k2 : Nat} {xs ys : Array Value} {a b : Value} {Q : Option Value → Shared → Prop} (hh : A.handled = none) (D : ZipApart z TI TO i1 i2 l1 t2)
    (hz : IsZip s.heap z TI TO .none) (hTI : IsPair s.heap TI (.ref i1) (.ref i2)) (hTO : IsPair s.heap TO a b)
    (g1 : s.heap.IsListIter i1 l1 k1) (g2 : s.heap.IsTupleIter i2 t2 k2) (gl : s.heap.IsList l1 xs) (gt : s.heap.IsTuple t2 ys) (hend : xs[k1]? = none ∨ ys[k2]? = none)
    (q : ∀ h', (∀ c o, c ≠ z → c ≠ TO → c ≠ i1 → c ≠ i2 → s.heap.get? c = some o → h'.get? c = some o) → Q none { s with heap := h' }) : wpAny (model prog w) A (pyNext (.ref z)) Q E s := by
  have tz : s.TypeIs (.ref z) "zip" := ⟨_, hz, rfl⟩
  unfold pyNext
  refine wpAny_bind (wpAny_attempt (wpAny_callSpecial?_slot (name := Str.ofString "__next__") tz F.slot_zip_next (wpAny_call_entry F.slot_zip_next tz F.entry_zip_next
    (zipLT_stop hh D hz hTI hTO g1 g2 gl gt hend fun h' e hk ⟨o, ho, hc⟩ => ?_) (F.args_zip_next_1 _))))
  exact wpAny_bind (wpAny_isInstance (T := "StopIteration") (b := true) ⟨o, ho, hc⟩ isSubtype_stop (wpAny_pure (q _ hk)))
end
abbrev zq1 (h : Heap) (l : Addr) : Heap := h.push { cls := .type "list_iterator", data := .fields #[.ref l, .int 0 0] }
abbrev zq2 (h : Heap) (l t : Addr) : Heap := (zq1 h l).push { cls := .type "tuple_iterator", data := .fields #[.ref t, .int 0 0] }
abbrev zq3 (h : Heap) (l t : Addr) : Heap := (zq2 h l t).push { cls := .type "tuple", data := .seq #[.ref h.objs.size, .ref (zq1 h l).objs.size] }
abbrev zq4 (h : Heap) (l t : Addr) : Heap := (zq3 h l t).push { cls := .type "tuple", data := .seq #[.none, .none] }
abbrev zq5 (h : Heap) (l t : Addr) : Heap := (zq4 h l t).push { cls := .type "zip", data := .fields #[.none, .bool false, .bool false, .ref (zq2 h l t).objs.size, .ref (zq3 h l t).objs.size] }
theorem meets_zipLT (l t : Addr) (xs ys : Array Value) : Meets (Builtin.«zip.__new__» ⟨[.type "zip", .ref l, .ref t], []⟩) (fun _ R s => s.heap.IsList l xs ∧ s.heap.IsTuple t ys ∧
    R (.ok (.ret (.ref (zq4 s.heap l t).objs.size))) { s with heap := zq5 s.heap l t }) :=
  .of_wp fun prog w A R s h => by
    obtain ⟨hp, g, d, tk, os⟩ := s
    obtain ⟨hl, ht, h⟩ := h
    have hsub := sub_zip
    have hL : Heap.IsList (Shared.heap ⟨hp, g, d, tk, os⟩) l xs := hl
    have hT : Heap.IsTuple (Shared.heap ⟨hp.push { cls := .type "list_iterator", data := .fields #[.ref l, .int 0 0] }, g, d, tk, os⟩) t ys := Heap.IsTuple.push ht _
    wp_walk using wpAny_pyIter_list hL, wpAny_pyIter_tuple hT
    exact ⟨_, rfl, h⟩
section
variable {prog : Program} {w : World} {A : Around} {E : Value → Shared → Prop} {s : Shared}
theorem call_zipLT {l t : Addr} {xs ys : Array Value} {Q : Value → Shared → Prop} (hl : s.heap.IsList l xs) (ht : s.heap.IsTuple t ys)
    (q : ∀ h', IsZip h' (s.heap.objs.size + 4) (s.heap.objs.size + 2) (s.heap.objs.size + 3) .none → IsPair h' (s.heap.objs.size + 2) (.ref s.heap.objs.size) (.ref (s.heap.objs.size + 1)) →
      IsPair h' (s.heap.objs.size + 3) .none .none → h'.IsListIter s.heap.objs.size l 0 → h'.IsTupleIter (s.heap.objs.size + 1) t 0 →
      (∀ c o, s.heap.get? c = some o → h'.get? c = some o) → Q (.ref (s.heap.objs.size + 4)) { s with heap := h' }) : wpAny (model prog w) A (call (.type "zip") [.ref l, .ref t]) Q E s := by
  refine callType_new F.called_zip (by decide) (F.typeCall_zip_2 _ _) (F.newCall_zip_2 _ _) (fun obj => F.args_object_init_3 obj _ _) F.entry_zip_new (meets_zipLT l t xs ys) ⟨hl, ht, ?_⟩
  have n1 : (zq1 s.heap l).objs.size = s.heap.objs.size + 1 := Heap.size_push ..
  have n2 : (zq2 s.heap l t).objs.size = s.heap.objs.size + 2 := by rw [Heap.size_push, n1]
  have n3 : (zq3 s.heap l t).objs.size = s.heap.objs.size + 3 := by rw [Heap.size_push, n2]
  have n4 : (zq4 s.heap l t).objs.size = s.heap.objs.size + 4 := by rw [Heap.size_push, n3]
  have g5 : (zq5 s.heap l t).get? (zq4 s.heap l t).objs.size = some _ := Heap.get?_push_size _ rfl
  have g4 : (zq5 s.heap l t).get? (zq3 s.heap l t).objs.size = some _ := Heap.get?_push_of_some _ (Heap.get?_push_size _ rfl)
  have g3 : (zq5 s.heap l t).get? (zq2 s.heap l t).objs.size = some _ := Heap.get?_push_of_some _ (Heap.get?_push_of_some _ (Heap.get?_push_size _ rfl))
  have g2 : (zq5 s.heap l t).get? (zq1 s.heap l).objs.size = some _ := Heap.get?_push_of_some _ (Heap.get?_push_of_some _ (Heap.get?_push_of_some _ (Heap.get?_push_size _ rfl)))
  have g1 : (zq5 s.heap l t).get? s.heap.objs.size = some _ := Heap.get?_push_of_some _ (Heap.get?_push_of_some _ (Heap.get?_push_of_some _ (Heap.get?_push_of_some _ (Heap.get?_push_size _ rfl))))
  show _ ∧ _
  rw [n2, n3, n4] at g5
  rw [n1, n2] at g3
  rw [n3] at g4
  rw [n1] at g2
  rw [n4]
  exact ⟨⟨_, g5, rfl⟩, q _ g5 g3 g4 ⟨_, g1, rfl, rfl⟩ ⟨_, g2, rfl, rfl⟩ fun c o e => Heap.get?_push_of_some _ (Heap.get?_push_of_some _ (Heap.get?_push_of_some _ (Heap.get?_push_of_some _ (Heap.get?_push_of_some _ e))))⟩
end
end TBR
namespace TBR
open PySem
open AutoSeq1 (wpAny_loadPart')
section
variable {prog : Program} {w : World} {A : Around} {E : Value → Shared → Prop} {s : Shared}
/-- a type called with keywords, its __init__ object's -/
theorem makeK {T nid : String} {Bn : Builtin} {vs : List Value} {kw : List (Str × Value)} {S : Spec} {Q : Value → Shared → Prop} (ft : TypeCalled T nid "object.__init__") (hne : (some nid != some "object.__new__") = true)
    (c1 : checkTypeCall T ⟨vs, kw⟩ = pure ()) (c2 : checkBuiltinCall nid ⟨.type T :: vs, kw⟩ = pure ()) (hok : ∀ obj, argsOk "object.__init__" ⟨obj :: vs, kw⟩) (en : entryFor table nid = some Bn) (g : Meets (Bn ⟨.type T :: vs, kw⟩) S)
    (h : S A.in1 (wants (fun obj s' => s'.TypeIs obj T ∧ Q obj s') E) s) : wpAny (model prog w) A (call (.type T) vs kw) Q E s := by
  obtain ⟨mc, mt, hmro⟩ := ft.mro
  have made := ft.made
  have sub := ft.sub
  have a1 := ft.notType
  have a2 := ft.canCreate
  refine wpAny_call (codeAny_of_tree (show wpAny _ _ (callAny (.type T) _) _ _ _ from wpAny_pure ⟨Code.quiet_builtin _ (by decide +kernel), codeAny_builtin F.entry_type_call ?_⟩))
  rw [Around.under_plain (weight_type_call_type T vs kw) (units_type_call_type T vs kw)]
  repeat (any_goals (first | assumption | wp_step))
  refine codeAny_mono (codeAny_call_builtin ft.plain en (wpAny_of_eq c2 (g prog w A.in1 _ s h))) fun r s1 hr => ?_
  cases r with
  | error e => exact hr
  | ok fl =>
    cases fl with
    | ret obj =>
      obtain ⟨tp, qq⟩ := hr
      have li := ft.init.lookup
      have bi := ft.init.bind obj
      have gi : Meets (Builtin.«object.__init__» ⟨obj :: vs, kw⟩) (fun _ R s => s.TypeIs obj T ∧ R (.ok (.ret .none)) s) := by
        refine Meets.of_wp fun prog w A R s hs => ?_
        obtain ⟨hT, hq⟩ := hs
        by_cases e : (!vs.isEmpty || !kw.isEmpty) = true
        · have made' := ft.made
          repeat (any_goals (first | assumption | wp_step))
          exact ⟨_, rfl, hq⟩
        · repeat (any_goals (first | assumption | wp_step))
          exact ⟨_, rfl, hq⟩
      repeat (any_goals (first | assumption | wp_step))
      refine codeAny_mono (codeAny_call_builtin ft.init.plain F.entry_object_init (ft.init.check _ _ _ _ _ _ _ _ tp (hok obj) (gi prog w A.in1 (wants (fun r s2 => r = .none ∧ Q obj s2) E) s1 ⟨tp, rfl, qq⟩))) fun r2 s2 hr2 => ?_
      cases r2 with
      | error e => exact hr2
      | ok f2 =>
        cases f2 with
        | ret r =>
          obtain ⟨rfl, hq⟩ := hr2
          repeat (any_goals (first | assumption | wp_step))
        | _ => exact hr2.elim
    | _ => exact hr.elim
end
theorem meets_enumT (t : Addr) (xs : Array Value) (k : Nat) (dct : Option Addr) (sl : Array (Option Value)) (tk : Tok) :
    Meets (Builtin.«enumerate.__new__» ⟨[.type "enumerate", .ref t], [("start", .int 1 tk)]⟩) (fun _ R s => s.heap.get? t = some { cls := .type "tuple", dict := dct, data := .seq xs k, slots := sl } ∧
      R (.ok (.ret (.ref (s.heap.push { cls := .type "tuple_iterator", data := .fields #[.ref t, .int 0 0] }).objs.size)))
        { s with heap := (s.heap.push { cls := .type "tuple_iterator", data := .fields #[.ref t, .int 0 0] }).push { cls := .type "enumerate", data := .fields #[.none, .bool false, .ref s.heap.objs.size, rawInt 1, .none, .none] } }) :=
  .of_wp fun prog w A R s h => by
    obtain ⟨hp, g, d, tt, os⟩ := s
    obtain ⟨hl, h⟩ := h
    have hsub := sub_enumerate
    have hL : Heap.IsTuple (Shared.heap ⟨hp, g, d, tt, os⟩) t xs := ⟨_, hl, rfl, k, rfl⟩
    wp_walk using wpAny_loadPart' hl
    refine wpAny_stack_any fun st => wpAny_pure ?_
    split
    · rename_i c _ _ _ _ _
      generalize (c == Value.type "enumerate") = short
      cases short <;> (wp_walk using wpAny_loadPart' hl, wpAny_pyIter_tuple hL; exact ⟨_, rfl, h⟩)
    · wp_walk using wpAny_loadPart' hl, wpAny_pyIter_tuple hL
      exact ⟨_, rfl, h⟩
theorem okT_enum (t : Value) (tk : Tok) : checkTypeCall "enumerate" ⟨[t], [("start", .int 1 tk)]⟩ = pure () := by kernel_rfl
theorem okN_enum (t : Value) (tk : Tok) : checkBuiltinCall "enumerate.__new__" ⟨[.type "enumerate", t], [("start", .int 1 tk)]⟩ = pure () := by kernel_rfl
theorem okI_enum (a t : Value) (tk : Tok) : argsOk "object.__init__" ⟨[a, t], [("start", .int 1 tk)]⟩ := by
  unfold argsOk
  rw [signature?_of (id := "object.__init__") (n := ['_', '_', 't', 'i', 'n', 'i', '_', '_']) (o := ['t', 'c', 'e', 'j', 'b', 'o']) (by kernel_rfl) F.owner_object]
  kernel_rfl
section
variable {prog : Program} {w : World} {A : Around} {E : Value → Shared → Prop} {s : Shared}
theorem call_enumT {t : Addr} {xs : Array Value} {tk : Tok} {Q : Value → Shared → Prop} (ht : s.heap.IsTuple t xs)
    (q : ∀ h', IsEnum h' (s.heap.objs.size + 1) s.heap.objs.size 1 .none → h'.IsTupleIter s.heap.objs.size t 0 → (∀ b o, s.heap.get? b = some o → h'.get? b = some o) → Q (.ref (s.heap.objs.size + 1)) { s with heap := h' }) :
    wpAny (model prog w) A (call (.type "enumerate") [.ref t] [("start", .int 1 tk)]) Q E s := by
  obtain ⟨⟨oc, od, dd, osl⟩, ho, hc, n, hd⟩ := ht
  obtain rfl : oc = .type "tuple" := hc
  obtain rfl : dd = .seq xs n := hd
  refine makeK F.called_enumerate (by decide) (okT_enum _ _) (okN_enum _ _) (fun obj => okI_enum obj _ _) F.entry_enumerate_new (meets_enumT t xs n od osl tk) ⟨ho, ?_⟩
  have n1 : (s.heap.push { cls := .type "tuple_iterator", data := .fields #[.ref t, .int 0 0] }).objs.size = s.heap.objs.size + 1 := Heap.size_push ..
  have he := Heap.get?_push_size (s.heap.push { cls := .type "tuple_iterator", data := .fields #[.ref t, .int 0 0] }) (o := { cls := .type "enumerate", data := .fields #[.none, .bool false, .ref s.heap.objs.size, rawInt 1, .none, .none] }) rfl
  show _ ∧ _
  rw [n1] at he ⊢
  exact ⟨⟨_, he, rfl⟩, q _ he ⟨_, Heap.get?_push_of_some _ (Heap.get?_push_size _ rfl), rfl, rfl⟩ fun b o e => Heap.get?_push_of_some _ (Heap.get?_push_of_some _ e)⟩
end
end TBR
/-! Over the hand layer: slices with a step, zip of a list and a tuple, enumerate from 1 on, comprehensions over a zip. -/
namespace TBR
open PySem PySem.Spec PyProof.Rows L2
/-! ### a[lo:hi:st] -/
section
variable {X : Cx} {e stE : Expr} {te : TE} {lo hi : Option Expr} {tl th ts : TO} {pos p2 : Pos}
abbrev RSS := V → Option Int → Option Int → Option Int → Hp → VK → Prop
def SlRS (X : Cx) (r : RSS) : Prop :=
  ∀ (pins : List (Addr × Obj)) (s : Shared) (σ : L2.St) (H : Hp) (x : V) (v vl vu vt : Value) (lo hi st : Option Int) (sl : Addr) (Q : VK), Inv X pins σ H s → RelV x v → s.heap.IsSliceOf sl vl vu vt → IsPart vl lo → IsPart vu hi → IsPart vt st → r x lo hi st H Q →
    ∃ T id, typeLookup (.type T) "__getitem__" = pure (some (.builtin id)) ∧ s.TypeIs v T ∧ wpAny (model X.prog X.w) X.A (getItem v (.ref sl)) (EP X pins σ Q) X.xe s
def tSlS (r : RSS) (te : TE) (tl th ts : TO) : TE := fun σ H Q => te σ H fun x H1 => tl σ H1 fun l H2 => th σ H2 fun u H3 => ts σ H3 fun st H4 => r x l u st H4 Q
theorem pe_sliceS {r : RSS} (hr : SlRS X r) (he : PE X e te) (hl : PO X lo tl) (hu : PO X hi th) (ht : PO X (some stE) ts) : PE X (.Subscript e (.Slice lo hi (some stE) p2) pos) (tSlS r te tl th ts) := by
  intro pins s σ H Q I h
  refine Subscript_ (thn (he pins s σ H _ I h) fun v s1 ⟨x, H1, I1, r1, q1⟩ => ?_)
  refine wpAny_Slice (thn (hl pins s1 σ H1 _ I1 q1) fun vl s2 ⟨l, H2, I2, pl, q2⟩ => thn (hu pins s2 σ H2 _ I2 q2) fun vu s3 ⟨u, H3, I3, pu, q3⟩ => thn (ht pins s3 σ H3 _ I3 q3) fun vt s4 ⟨st, H4, I4, pt, q4⟩ => ?_)
  have I5 : Inv X pins σ H4 { s4 with heap := s4.heap.push { cls := .type "slice", data := .fields #[vl, vu, vt] } } := I4.kept (t' := s4.toks) fun b ob q => Heap.get?_push_of_some _ q
  obtain ⟨T, id, hT, hy, hg⟩ := hr pins { s4 with heap := s4.heap.push { cls := .type "slice", data := .fields #[vl, vu, vt] } } σ H4 x v vl vu vt l u st s4.heap.objs.size Q I5 r1 (Heap.IsSliceOf.new ..) pl pu pt q4
  show wpAny (model X.prog X.w) X.A (subscriptTail e (.Slice lo hi (some stE) p2) v (.ref s4.heap.objs.size)) (EP X pins σ Q) X.xe { s4 with heap := s4.heap.push { cls := .type "slice", data := .fields #[vl, vu, vt] } }
  exact tail_any (ops := [v, .ref s4.heap.objs.size]) hy hT hg (by with_unfolding_all rfl)
/-- the places of a slice -/
def places (n : Nat) (lo hi st : Option Int) : List Nat := sliceRange (sliceBounds lo hi st n).1 (sliceBounds lo hi st n).2.1 (sliceBounds lo hi st n).2.2
def pickV (xs : List V) (lo hi st : Option Int) : List V := (places xs.length lo hi st).filterMap fun i => xs[i]?
theorem vals_at {xs : List V} {us : List Value} (r : Vals xs us) : ∀ is : List Nat, Vals (is.filterMap fun i => xs[i]?) (is.filterMap fun i => us[i]?)
  | [] => .nil
  | i :: is => by
    have ih := vals_at r is
    cases e : xs[i]? with
    | none =>
      rw [List.filterMap_cons_none (by rw [e]), List.filterMap_cons_none (by rw [r.none_of e])]
      exact ih
    | some x =>
      obtain ⟨u, hu, ru⟩ := r.get e
      rw [List.filterMap_cons_some (by rw [e]), List.filterMap_cons_some (by rw [hu])]
      exact .cons ru ih
theorem pick_list (us : List Value) (lo hi st : Option Int) : slicePick us.toArray lo hi st = ((places us.length lo hi st).filterMap fun i => us[i]?).toArray := by
  unfold slicePick places
  simp
def rSlLS (K : PySem.W.Frag) : RSS := fun x lo hi st H Q => ∃ a xs, x = .ref a ∧ SqL K H a xs ∧ st ≠ some 0 ∧ ∀ p, H p = none → Q (.ref p) (upd H p (.lst (pickV xs lo hi st)))
theorem sls_list : SlRS X (rSlLS X.K) := by
  intro pins s σ H x v vl vu vt lo hi st sl Q I rx hs pl pu pt h
  obtain ⟨a, xs, rfl, hx, h0, q⟩ := h
  cases rx
  obtain ⟨its, r, ht, hz⟩ := I.list hx
  have hlen := r.length
  refine ⟨"list", _, slot_list_getitem.lookup, ht.isList.typeIs, ?_⟩
  refine wpAny_getItem_list_slice ht.isList hs pl pu pt h0 ?_ (by rw [List.size_toArray] <;> omega)
  have size := slicePick_size_le its.toArray lo hi st
  rw [pick_list] at size ⊢
  have rr := vals_at r (places its.length lo hi st)
  have e : pickV xs lo hi st = (places its.length lo hi st).filterMap fun i => xs[i]? := by unfold pickV; rw [hlen]
  refine ⟨.ref s.heap.objs.size, _, I.laid (t' := s.toks) (o := .lst (pickV xs lo hi st)) (fun b ob q => Heap.get?_push_of_some _ q) (Nat.le_refl _) ?_, rfl, q _ (I.hok.fresh (Nat.le_refl _))⟩
  refine ⟨?_, _, 0, ?_, Heap.get?_push_size _ rfl⟩
  · rw [e, rr.length]
    rw [List.size_toArray, List.size_toArray] at size
    omega
  · rw [e]
    exact rr
end
/-! ### t[::-1] -/
section
variable {prog : Program} {w : World} {A : Around} {E : Value → Shared → Prop} {s : Shared}
theorem back_adjust (n : Nat) : Builtin.Slice.sliceAdjust none none (-1) (n : Int) = ((n : Int) - 1, -1) := by
  unfold Builtin.Slice.sliceAdjust
  simp only [show ((-1 : Int) < 0) from by decide, if_true]
theorem back_places (n : Nat) : Builtin.Slice.slicePlaces ((n : Int) - 1) (-1) (-1) = n := by
  unfold Builtin.Slice.slicePlaces
  simp only [show ¬ ((-1 : Int) > 0) from by decide, if_false]
  by_cases h : (n : Int) - 1 > -1
  · rw [if_pos h]
    have : (n : Int) - 1 - -1 - 1 = n - 1 := by omega
    rw [this, show -(-1 : Int) = 1 from rfl, Int.ediv_one]
    omega
  · rw [if_neg h]
    omega
theorem back_pick (us : List Value) : ((List.range us.length).filterMap fun (m : Nat) => us.toArray[((us.length : Int) - 1 + (m : Int) * -1).toNat]?) = us.reverse := by
  apply List.ext_getElem?
  intro i
  have key : ∀ k, k ≤ us.length → ((List.range k).filterMap fun (m : Nat) => us.toArray[((us.length : Int) - 1 + (m : Int) * -1).toNat]?) = us.reverse.take k := by
    intro k
    induction k with
    | zero => intro _; simp
    | succ k ih =>
      intro hk
      rw [List.range_succ, List.filterMap_append, ih (by omega)]
      have e : ((us.length : Int) - 1 + (k : Int) * -1).toNat = us.length - 1 - k := by omega
      have hl : us.length - 1 - k < us.length := by omega
      have e2 : us.toArray[((us.length : Int) - 1 + (k : Int) * -1).toNat]? = some us[us.length - 1 - k] := by
        rw [e]
        simp [hl]
      have hr : k < us.reverse.length := by rw [List.length_reverse]; omega
      have e3 : (List.filterMap (fun (m : Nat) => us.toArray[((us.length : Int) - 1 + (m : Int) * -1).toNat]?) [k]) = [us[us.length - 1 - k]] := by simp only [List.filterMap_cons, List.filterMap_nil, e2]
      rw [e3, List.take_succ_eq_append_getElem hr, List.getElem_reverse]
  rw [key us.length (Nat.le_refl _), List.take_of_length_le (by rw [List.length_reverse]; exact Nat.le_refl _)]
theorem applied_back {sl : Addr} {vt : Value} {n : Nat} {Q : Int × Int × Nat → Shared → Prop} (hs : s.heap.IsSliceOf sl .none .none vt) (pt : IsPart vt (some (-1)))
    (h : Q ((n : Int) - 1, -1, n) s) : wpAny (model prog w) A (Builtin.Slice.sliceApplied (.ref sl) (pure (n : Int))) Q E s := by
  obtain ⟨os, hos, hcs, hds⟩ := id hs
  unfold Builtin.Slice.sliceApplied Builtin.Slice.sliceFields
  refine wpAny_bind (wpAny_bind (wpAny_field hos hds (x := .none) rfl (wpAny_bind (wpAny_field hos hds (x := .none) rfl (wpAny_bind (wpAny_field hos hds (x := vt) rfl (wpAny_pure ?_)))))))
  refine wpAny_bind (HT.slicePart_ pt ?_)
  show wpAny _ _ (if ((-1 : Int) == 0) = true then _ else _) _ _ s
  rw [if_neg (by decide)]
  refine wpAny_bind (HT.slicePart_ .none (wpAny_bind (HT.slicePart_ .none (wpAny_bind (wpAny_pure ?_)))))
  show wpAny _ _ (match Builtin.Slice.sliceAdjust none none (-1) (n : Int) with | (lo, hi) => pure (lo, (-1 : Int), Builtin.Slice.slicePlaces lo hi (-1))) _ _ s
  rw [back_adjust n]
  show wpAny _ _ (pure ((n : Int) - 1, (-1 : Int), Builtin.Slice.slicePlaces ((n : Int) - 1) (-1) (-1))) _ _ s
  rw [back_places]
  exact wpAny_pure h
open HT in
theorem getItem_back {t sl : Addr} {us : List Value} {vt : Value} {Q : Value → Shared → Prop} (ht : IsTup s.heap t us.toArray) (hs : s.heap.IsSliceOf sl .none .none vt) (pt : IsPart vt (some (-1)))
    (h : Q (.ref s.heap.objs.size) { s with heap := s.heap.push { cls := .type "tuple", data := .seq us.reverse.toArray } }) (hsz : us.length ≤ sizeLine) : wpAny (model prog w) A (getItem (.ref t) (.ref sl)) Q E s := by
  have fits : sizeOk (.seq us.reverse.toArray) := by
    show us.reverse.toArray.size ≤ sizeLine
    rw [List.size_toArray, List.length_reverse]
    exact hsz
  obtain ⟨os, hos, hcs, hds⟩ := id hs
  have ty : s.TypeIs (.ref sl) "slice" := ⟨os, hos, hcs⟩
  unfold getItem
  try with_reducible refine wpAny_holding ?_
  first | refine wpAny_bind (wpAny_pure ?_) | skip
  refine wpAny_bind (wpAny_sequenceKey ht.typeIs (by decide) (wpAny_bind (wpAny_callSpecial?_slot (name := Str.ofString "__getitem__") ht.typeIs PyProof.Rows.slot_tuple_getitem
    (wpAny_call_entry PyProof.Rows.slot_tuple_getitem ht.typeIs entry_tuple_getitem ?_ (args_tuple_getitem _ _)))))
  show wpAny _ _ (Builtin.Tuple.tupleItemsOf (.ref t) >>= _) _ _ s
  refine wpAny_bind (tupleItemsOf_ ht (wpAny_bind (wpAny_typeOf ty ?_)))
  rw [if_pos (by decide)]
  refine wpAny_bind (applied_back hs pt ?_)
  have size : us.toArray.size = us.length := List.size_toArray ..
  rw [size]
  show wpAny _ _ (if ((((us.length : Int) - 1) == 0 && (-1 : Int) == 1 && us.length == us.toArray.size) = true) then _ else _) _ _ s
  rw [if_neg (by simp), back_pick]
  first
    | exact wpAny_bind (m := Builtin.Tuple.tupleExact _) (wpAny_newObj_type (wpAny_pure ⟨_, rfl, wpAny_pure h⟩) fits)
    | exact wpAny_bind (m := Builtin.Tuple.tupleExact _) (wpAny_newObj_type (wpAny_bind (wpAny_pure (wpAny_pure ⟨_, rfl, wpAny_pure h⟩))) fits)
    | exact wpAny_bind (wpAny_bind (m := Builtin.Tuple.tupleExact _) (wpAny_newObj_type (wpAny_pure (wpAny_pure ⟨_, rfl, wpAny_pure h⟩)) fits))
    | exact wpAny_bind (wpAny_bind (m := Builtin.Tuple.tupleExact _) (wpAny_newObj_type (wpAny_pure ⟨_, rfl, wpAny_pure h⟩) fits))
end
section
variable {X : Cx}
def rSlBack (K : PySem.W.Frag) : RSS := fun x lo hi st H Q => ∃ a xs, x = .ref a ∧ SqT K H a xs ∧ lo = none ∧ hi = none ∧ st = some (-1) ∧ ∀ p, H p = none → Q (.ref p) (upd H p (.tup xs.reverse))
theorem sls_back : SlRS X (rSlBack X.K) := by
  intro pins s σ H x v vl vu vt lo hi st sl Q I rx hs pl pu pt h
  obtain ⟨a, xs, rfl, hx, rfl, rfl, rfl, q⟩ := h
  cases rx
  cases pl
  cases pu
  obtain ⟨its, r, ht, hz⟩ := I.tuple hx
  have hlen := r.length
  refine ⟨"tuple", _, PyProof.Rows.slot_tuple_getitem.lookup, ht.typeIs, ?_⟩
  refine getItem_back ht hs pt ?_ (by omega)
  refine ⟨.ref s.heap.objs.size, _, I.laid (t' := s.toks) (o := .tup xs.reverse) (fun b ob q => Heap.get?_push_of_some _ q) (Nat.le_refl _) ?_, rfl, q _ (I.hok.fresh (Nat.le_refl _))⟩
  exact ⟨by rw [List.length_reverse]; exact hz, its.reverse, r.reverse, ⟨_, Heap.get?_push_size _ rfl, rfl, _, rfl⟩⟩
end
/-! ### zip: two sequences as they stand, the items in new pairs -/
def Itzz (SX SY : Hp → List V → Prop) : It :=
  ⟨fun i H => ∃ (xs ys : List V) (x y : V), SX H xs ∧ SY H ys ∧ xs[i]? = some x ∧ ys[i]? = some y,
    fun i H v H' => ∃ T x y, v = .ref T ∧ H T = none ∧ H' = upd H T (.tup [x, y]) ∧ (∀ xs, SX H xs → xs[i]? = some x) ∧ ∀ ys, SY H ys → ys[i]? = some y,
    fun i H => ∃ xs ys : List V, SX H xs ∧ SY H ys ∧ (xs.length ≤ i ∨ ys.length ≤ i)⟩
theorem turn_zipT {P : Program} {w : World} {K : PySem.W.Frag} {elts : List Expr} {kk : Nat} {tpos : Pos} {a b z TI TO i1 i2 : Addr} (D : ZipApart z TI TO i1 i2 a b) :
    Turn P w K (.Tuple elts kk tpos) (Itzz (fun H xs => SqL K H a xs) (fun H ys => SqT K H b ys)) [z, TI, TO, i1, i2] z
      (fun i h => IsZip h z TI TO .none ∧ IsPair h TI (.ref i1) (.ref i2) ∧ (∃ x y, IsPair h TO x y) ∧ h.IsListIter i1 a i ∧ h.IsTupleIter i2 b i) where
  mem := by simp
  obj := fun i h st c hc => by
    obtain ⟨hz, hTI, ⟨x, y, hTO⟩, ⟨o1, e1, _, d1⟩, ⟨o2, e2, _, d2⟩⟩ := st
    have e' : c = z ∨ c = TI ∨ c = TO ∨ c = i1 ∨ c = i2 := by simpa using hc
    rcases e' with q | q | q | q | q
    · rw [q]; exact ⟨_, hz, fun v q => nomatch q⟩
    · rw [q]; exact ⟨_, hTI, fun v q => nomatch q⟩
    · rw [q]; exact ⟨_, hTO, fun v q => nomatch q⟩
    · rw [q]; exact ⟨o1, e1, fun v q => by rw [d1] at q; cases q⟩
    · rw [q]; exact ⟨o2, e2, fun v q => by rw [d2] at q; cases q⟩
  keep := fun i h h' st k => by
    obtain ⟨hz, hTI, ⟨x, y, hTO⟩, h1, h2⟩ := st
    exact ⟨k z (by simp) _ hz, k TI (by simp) _ hTI, ⟨x, y, k TO (by simp) _ hTO⟩, h1.at fun o q => k i1 (by simp) o q, h2.at fun o q => k i2 (by simp) o q⟩
  item := by
    intro X hP hw hK hc i pins s σ H E I hf st hg
    subst hP hw hK
    obtain ⟨hz, hTI, ⟨x0, y0, hTO⟩, h1, h2⟩ := st
    obtain ⟨xs, ys, x, y, hqx, hqy, hx, hy⟩ := hg
    obtain ⟨its, rv, p, _⟩ := I.list hqx
    obtain ⟨its2, rv2, p2, _⟩ := I.tuple hqy
    obtain ⟨u, hu, ru⟩ := rv.get hx
    obtain ⟨u2, hu2, ru2⟩ := rv2.get hy
    have hzl : z < s.heap.objs.size := Heap.lt_size hz
    refine nextLT D hz hTI hTO h1 h2 p.isList (show s.heap.IsTuple b its2.toArray from p2) (x := u) (y := u2) (by simpa using hu) (by simpa using hu2) fun h' z' TO' h1' h2' hT hsz hk => ?_
    refine ⟨_, rfl, wpAny_letOwnedTupleGo_zip (s := { s with heap := h' }) z' fun h'' z'' sb => ?_⟩
    have hT2 : h''.get? s.heap.objs.size = some { cls := .type "tuple", data := .seq #[u, u2] } := (sb.2 _ (Nat.ne_of_gt hzl)).trans hT
    have new : ObjOk X.prog X.w (upd H s.heap.objs.size (.tup [x, y])) h'' s.heap.objs.size (.tup [x, y]) :=
      ⟨by show 2 ≤ sizeLine; decide, [u, u2], .cons ru (.cons ru2 .nil), ⟨_, hT2, rfl, _, rfl⟩⟩
    have I1 : Inv X pins σ (upd H s.heap.objs.size (.tup [x, y])) { s with heap := h'' } :=
      I.turnedNew (t' := s.toks) (ch := [z, TI, TO, i1, i2]) (fun c o hb q => (sb.2 c (fun q' => hb (by simp [q']))).trans (hk c o (fun q' => hb (by simp [q'])) (fun q' => hb (by simp [q'])) (fun q' => hb (by simp [q'])) (fun q' => hb (by simp [q'])) q)) hf (Nat.le_refl _) new
    refine ⟨.ref s.heap.objs.size, _, I1, rfl, ⟨_, x, y, rfl, I.hok.fresh (Nat.le_refl _), rfl, fun l hl => by rw [I.list_inj hl hqx]; exact hx, fun l hl => by rw [I.tuple_inj hl hqy]; exact hy⟩, ⟨z'', ?_, ⟨u, u2, ?_⟩, ?_, ?_⟩, fun c hcm => ?_⟩
    · exact (sb.2 _ D.TIz).trans (hk _ _ D.TIz D.TITO D.TIi1 D.TIi2 hTI)
    · exact (sb.2 _ D.TOz).trans TO'
    · exact h1'.at fun o q => (sb.2 _ D.i1z).trans q
    · exact h2'.at fun o q => (sb.2 _ D.i2z).trans q
    · have hlt : c < s.heap.objs.size := by
        have e' : c = z ∨ c = TI ∨ c = TO ∨ c = i1 ∨ c = i2 := by simpa using hcm
        rcases e' with q | q | q | q | q
        · rw [q]; exact hzl
        · rw [q]; exact Heap.lt_size hTI
        · rw [q]; exact Heap.lt_size hTO
        · rw [q]; obtain ⟨_, e1, _⟩ := h1; exact Heap.lt_size e1
        · rw [q]; obtain ⟨_, e2, _⟩ := h2; exact Heap.lt_size e2
      rw [upd_ne (Nat.ne_of_lt hlt)]
      exact (hf c hcm).1
  done := by
    intro X hP hw hK hc i pins s σ H E I hf st hg
    subst hP hw hK
    obtain ⟨hz, hTI, ⟨x0, y0, hTO⟩, h1, h2⟩ := st
    obtain ⟨xs, ys, hqx, hqy, hend⟩ := hg
    obtain ⟨its, rv, p, _⟩ := I.list hqx
    obtain ⟨its2, rv2, p2, _⟩ := I.tuple hqy
    have l1 := rv.length
    have l2 := rv2.length
    have he : its.toArray[i]? = none ∨ its2.toArray[i]? = none := by
      rcases hend with q | q
      · exact .inl (by simp; omega)
      · exact .inr (by simp; omega)
    exact nextLT_end (I.ok.hd hc) D hz hTI hTO h1 h2 p.isList (show s.heap.IsTuple b its2.toArray from p2) he fun h' hk => ⟨rfl, I.turnedL (t' := s.toks) (ch := [z, TI, TO, i1, i2]) (fun c o hb q =>
      hk c o (fun q' => hb (by simp [q'])) (fun q' => hb (by simp [q'])) (fun q' => hb (by simp [q'])) (fun q' => hb (by simp [q'])) q) hf⟩
  self := fun A i s Q E st h => wpAny_pyIter_zip st.1 h
def iZipT (K : PySem.W.Frag) (ta : TA) : TI := fun σ H R => ta σ H fun vs H1 => ∃ a b xs ys, vs = [.ref a, .ref b] ∧ SqL K H1 a xs ∧ SqT K H1 b ys ∧ R (Itzz (fun H xs => SqL K H a xs) (fun H ys => SqT K H b ys)) H1
theorem pi_zipT {X : Cx} {e e2 : Expr} {ta : TA} {p pos tpos : Pos} {elts : List Expr} {kk : Nat} (hg : Gl X "zip") (hm : X.mg "zip" = none) (ha : PA X [e, e2] ta)
    (hs : starEach [e, e2] X.env = (false, eval e X.env) :: starEach [e2] X.env := by rfl) (hpl : (backTo pos (starEach [e2] X.env)).any (·.1) = false := by rfl) :
    PI X (.Tuple elts kk tpos) (.Call (.Name "zip" p) [e, e2] [] pos) (iZipT X.K ta) := by
  intro pins s σ H R I h
  refine Call_ (ld_blt I hg hm boot_zip5 (PyProof.Rows.callWith_type1 (thn (ha pos pins s σ H _ I h) fun us s1 ⟨vs, H1, I1, r1, q1⟩ => ?_) hs hpl))
  obtain ⟨a, b, xs, ys, ex, hqx, hqy, q⟩ := q1
  subst ex
  cases r1 with
  | cons r rr =>
    cases rr with
    | cons r' rr =>
      cases rr
      cases r
      cases r'
      obtain ⟨its, rv, p1, _⟩ := I1.list hqx
      obtain ⟨its2, rv2, p2, _⟩ := I1.tuple hqy
      have la : a < s1.heap.objs.size := p1.lt
      have lb : b < s1.heap.objs.size := p2.lt
      refine call_zipLT p1.isList (show s1.heap.IsTuple b its2.toArray from p2) fun h' hz hTI hTO h1 h2 hk => wpAny_pyIter_zip hz ?_
      have I2 : Inv X pins σ H1 { s1 with heap := h' } := I1.kept (t' := s1.toks) hk
      refine ⟨s1.heap.objs.size + 4, [s1.heap.objs.size + 4, s1.heap.objs.size + 2, s1.heap.objs.size + 3, s1.heap.objs.size, s1.heap.objs.size + 1], _, _, H1, rfl, I2, turn_zipT (PySem.W.ktu_apart s1.heap.objs.size a b la lb), ⟨hz, hTI, ⟨_, _, hTO⟩, h1, h2⟩, fun c hcm => ?_, q⟩
      have e' : c = s1.heap.objs.size + 4 ∨ c = s1.heap.objs.size + 2 ∨ c = s1.heap.objs.size + 3 ∨ c = s1.heap.objs.size ∨ c = s1.heap.objs.size + 1 := by simpa using hcm
      have hle : s1.heap.objs.size ≤ c := by rcases e' with z | z | z | z | z <;> (rw [z]; first | exact Nat.le_add_right _ _ | exact Nat.le_refl _)
      exact I1.fpOk hle (I1.hok.fresh hle)
/-! ### enumerate(tuple, start=1) -/
def Ite1 (K : PySem.W.Frag) (a : Addr) : It :=
  ⟨fun i H => ∃ (xs : List V) (x : V), SqT K H a xs ∧ xs[i]? = some x, fun i H v H' => ∃ T x, v = .ref T ∧ H T = none ∧ H' = upd H T (.tup [.int ((i + 1 : Nat) : Int), x]) ∧ ∀ xs, SqT K H a xs → xs[i]? = some x, fun i H => ∃ xs : List V, SqT K H a xs ∧ xs.length ≤ i⟩
theorem turn_enum1 {P : Program} {w : World} {K : PySem.W.Frag} {elts : List Expr} {kk : Nat} {tpos : Pos} (a e it : Addr) :
    Turn P w K (.Tuple elts kk tpos) (Ite1 K a) [e, it] e (fun i h => (∃ old, IsEnum h e it ((i + 1 : Nat) : Int) old) ∧ h.IsTupleIter it a i ∧ e ≠ it ∧ a ≠ it ∧ a ≠ e) where
  mem := by simp
  obj := fun i h st b hb => by
    obtain ⟨⟨old, he⟩, ⟨o, ho, hc, hd⟩, _⟩ := st
    have e' : b = e ∨ b = it := by simpa using hb
    rcases e' with z | z
    · rw [z]; exact ⟨_, he, fun v q => nomatch q⟩
    · rw [z]; exact ⟨o, ho, fun v q => by rw [hd] at q; cases q⟩
  keep := fun i h h' st k => let ⟨⟨old, he⟩, hi, hne⟩ := st; ⟨⟨old, k e (by simp) _ he⟩, hi.at fun o q => k it (by simp) o q, hne⟩
  item := by
    intro X hP hw hK hc i pins s σ H E I hf st hg
    subst hP hw hK
    obtain ⟨⟨old, he⟩, hit, hne, hai, hae⟩ := st
    obtain ⟨xs, x, hq, hx⟩ := hg
    obtain ⟨its, rv, p, hz⟩ := I.tuple hq
    obtain ⟨u, hu, ru⟩ := rv.get hx
    have hel : e < s.heap.objs.size := Heap.lt_size he
    have hil : it < s.heap.objs.size := by obtain ⟨_, q, _⟩ := hit; exact Heap.lt_size q
    have hlt : i < its.length := (List.getElem?_eq_some_iff.mp hu).1
    have DD := drawsT1 (prog := X.prog) (w := X.w) (A := X.A.in1) (I.ok.hd hc) it a hai its.toArray
    refine wpAny_pyNext_enum_itemD DD he ⟨i, rfl, hit, p⟩ (by rw [List.size_toArray]; omega) hne (by simp [hne, Ne.symm hae]) fun x' h' tk hP ho hst hT hsz hk => ?_
    obtain ⟨i', ei, hx'⟩ := hP
    obtain rfl : i' = i := by omega
    obtain rfl : x' = u := by
      have z : its[i']? = some x' := by simpa using hx'
      rw [hu] at z
      exact (Option.some.inj z).symm
    obtain ⟨i2, e2, hit', _⟩ := hst
    obtain rfl : i2 = i' + 1 := by omega
    refine ⟨_, rfl, wpAny_letOwnedTupleGo_enum (s := { s with heap := h', toks := tk + 1 }) ho fun h'' he' sb => ?_⟩
    have hT2 : h''.get? s.heap.objs.size = some { cls := .type "tuple", data := .seq #[.int ((i' + 1 : Nat) : Int) tk, x'] } := (sb.2 _ (Nat.ne_of_gt hel)).trans hT
    have new : ObjOk X.prog X.w (upd H s.heap.objs.size (.tup [.int ((i' + 1 : Nat) : Int), x])) h'' s.heap.objs.size (.tup [.int ((i' + 1 : Nat) : Int), x]) :=
      ⟨by show 2 ≤ sizeLine; decide, [.int ((i' + 1 : Nat) : Int) tk, x'], .cons ⟨_, rfl⟩ (.cons ru .nil), ⟨_, hT2, rfl, _, rfl⟩⟩
    have I1 : Inv X pins σ (upd H s.heap.objs.size (.tup [.int ((i' + 1 : Nat) : Int), x])) { s with heap := h'', toks := tk + 1 } :=
      I.turnedNew (ch := [e, it]) (fun b ob hb q => (sb.2 b (fun z => hb (by simp [z]))).trans (hk b ob (fun z => hb (by simp [z])) (fun z => hb (by simp [z])) q)) hf (Nat.le_refl _) new
    refine ⟨.ref s.heap.objs.size, _, I1, rfl, ⟨_, x, rfl, I.hok.fresh (Nat.le_refl _), rfl, fun ys hy => by rw [I.tuple_inj hy hq]; exact hx⟩, ⟨⟨x', ?_⟩, hit'.at fun o q => (sb.2 it (Ne.symm hne)).trans q, hne, hai, hae⟩, fun b hb => ?_⟩
    · have e1 : ((i' + 1 + 1 : Nat) : Int) = ((i' + 1 : Nat) : Int) + 1 := by omega
      rw [e1]; exact he'
    · have hb' : b < s.heap.objs.size := by
        have e' : b = e ∨ b = it := by simpa using hb
        rcases e' with z | z
        · rw [z]; exact hel
        · rw [z]; exact hil
      rw [upd_ne (Nat.ne_of_lt hb')]
      exact (hf b hb).1
  done := by
    intro X hP hw hK hc i pins s σ H E I hf st hg
    subst hP hw hK
    obtain ⟨⟨old, he⟩, hit, hne, hai, hae⟩ := st
    obtain ⟨xs, hq, hx⟩ := hg
    obtain ⟨its, rv, p, hz⟩ := I.tuple hq
    obtain ⟨f0, f1, f2, f3, f4, f5⟩ := hf it (by simp)
    have hl := rv.length
    have hT : s.TypeIs (.ref e) "enumerate" := ⟨_, he, rfl⟩
    unfold pyNext
    refine wpAny_bind (wpAny_attempt (wpAny_callSpecial?_slot (name := Str.ofString "__next__") hT F.slot_enumerate_next (wpAny_call_entry F.slot_enumerate_next hT F.entry_enumerate_next
      (show wpAny _ _ (field (.ref e) 2 >>= _) _ _ _ from wpAny_bind (wpAny_field he rfl (x := .ref it) rfl (wpAny_bind (drawT_end (I.ok.hd hc) hit (show s.heap.IsTuple a its.toArray from p) (by simp; omega) fun h' x he' ⟨o, ho, hcl⟩ => ?_)))) (F.args_enumerate_next_1 _))))
    exact wpAny_bind (wpAny_isInstance (T := "StopIteration") (b := true) ⟨o, ho, hcl⟩ isSubtype_stop (wpAny_pure ⟨rfl, I.turned (t' := s.toks) (fun b o hb q => he' b o hb q) f0 f1 f3 f4 f5⟩))
  self := fun A i s Q E st h => let ⟨⟨_, he⟩, _⟩ := st; wpAny_pyIter_enum he h
theorem callWith_tyK {M : Model} {A : Around} {E : Value → Shared → Prop} {s : Shared} {env : Env} {pos : Pos} {T : String} {e : Expr} {rest : List Expr} {kws : List Keyword} {Q : Value → Shared → Prop}
    (hall : (backToKw pos (keywordEach kws env)).all (·.1.isSome) = true)
    (h : wpAny M A (spliced (backTo pos (starEach (e :: rest) env))) (fun vs s1 => wpAny M A (evalAll ((backToKw pos (keywordEach kws env)).map (·.2)))
      (fun ks s2 => wpAny M A (call (.type T) vs (((backToKw pos (keywordEach kws env)).filterMap (·.1)).zip ks)) Q E s2) E s1) E s)
    (hplain : ((backTo pos (starEach (e :: rest) env)).any (·.1) || (backToKw pos (keywordEach kws env)).any (·.1.isNone)) = false)
    (he : starEach (e :: rest) env = (false, eval e env) :: starEach rest env) :
    wpAny M A (callWith pos (.type T) [] (backTo pos (starEach (e :: rest) env)) (backToKw pos (keywordEach kws env))) Q E s := by
  have h2 := evalArgs_kw2 (f := Value.type T) (Q := fun a s2 => wpAny M A (call (.type T) ([] ++ a.pos) a.kw) Q E s2) hall h he
  unfold callWith
  refine wpAny_bind (wpAny_holding (wpAny_mono h2 (fun a s1 h1 => wpAny_bind (wpAny_standAt ?_)) fun _ _ x => x))
  simp only [hplain]
  exact wpAny_bind (wpAny_pure (wpAny_bind (wpAny_mono h1 (fun r s2 hr => wpAny_bind (wpAny_holding (wpAny_point (wpAny_pure hr)))) fun _ _ x => x)))
def iEnum1 (K : PySem.W.Frag) (ta tk : TA) : TI := fun σ H R => ta σ H fun vs H1 => tk σ H1 fun zs H2 => ∃ a xs, vs = [.ref a] ∧ zs = [.int 1] ∧ SqT K H2 a xs ∧ R (Ite1 K a) H2
theorem pi_enum1 {X : Cx} {e k1 : Expr} {ta tk : TA} {p pos tpos kpos : Pos} {elts : List Expr} {kk : Nat} (hg : Gl X "enumerate") (hm : X.mg "enumerate" = none) (ha : PA X [e] ta) (hk : PK X [⟨some "start", k1, kpos⟩] tk)
    (hall : (backToKw pos (keywordEach [⟨some "start", k1, kpos⟩] X.env)).all (·.1.isSome) = true := by rfl) (hks : (backToKw pos (keywordEach [⟨some "start", k1, kpos⟩] X.env)).filterMap (·.1) = [("start" : Str)] := by rfl)
    (he : starEach [e] X.env = (false, eval e X.env) :: starEach [] X.env := by rfl)
    (hpl : ((backTo pos (starEach [e] X.env)).any (·.1) || (backToKw pos (keywordEach [⟨some "start", k1, kpos⟩] X.env)).any (·.1.isNone)) = false := by rfl) :
    PI X (.Tuple elts kk tpos) (.Call (.Name "enumerate" p) [e] [⟨some "start", k1, kpos⟩] pos) (iEnum1 X.K ta tk) := by
  intro pins s σ H R I h
  refine wpAny_Call_Name_kw (ld_blt I hg hm boot_enumerate (callWith_tyK hall (thn (ha pos pins s σ H _ I h) fun us s1 ⟨vs, H1, I1, r1, q1⟩ => thn (hk pos pins s1 σ H1 _ I1 q1) fun ws s2 ⟨zs, H2, I2, r2, q2⟩ => ?_) hpl he))
  rw [hks]
  obtain ⟨a, xs, rfl, rfl, hq, q⟩ := q2
  cases r1 with
  | cons r rr =>
    cases rr
    cases r
    cases r2 with
    | cons z zz =>
      cases zz
      obtain ⟨t1, rfl⟩ := z
      obtain ⟨its, rv, p', hz⟩ := I2.tuple hq
      have la : a < s2.heap.objs.size := p'.lt
      refine call_enumT (show s2.heap.IsTuple a its.toArray from p') fun h' hen hit hk' => wpAny_pyIter_enum hen ?_
      have I3 : Inv X pins σ H2 { s2 with heap := h' } := I2.kept (t' := s2.toks) hk'
      refine ⟨s2.heap.objs.size + 1, [s2.heap.objs.size + 1, s2.heap.objs.size], _, _, H2, rfl, I3, turn_enum1 a (s2.heap.objs.size + 1) s2.heap.objs.size, ⟨⟨.none, hen⟩, hit, Nat.succ_ne_self _, Nat.ne_of_lt la, Nat.ne_of_lt (Nat.lt_succ_of_lt la)⟩, fun b hb => ?_, q⟩
      have e' : b = s2.heap.objs.size + 1 ∨ b = s2.heap.objs.size := by simpa using hb
      have hle : s2.heap.objs.size ≤ b := by rcases e' with z | z <;> (rw [z]; first | exact Nat.le_add_right _ _ | exact Nat.le_refl _)
      exact I2.fpOk hle (I2.hok.fresh hle)
end TBR
/-! The program's text by places, its data on the heap, what each def promises. -/
namespace TB
open PySem L2 TBR
def topS (i : Nat) : Stmt := PySem.Challenge.pw_twobands_s01_answers.main.body.getD i (.Pass ⟨0, 0, 0, 0⟩)
abbrev sBetween : Stmt := topS 15
abbrev sHeld : Stmt := topS 16
abbrev sOneSign : Stmt := topS 17
abbrev sPlusIf : Stmt := topS 18
abbrev sWidth : Stmt := topS 19
abbrev sBandInit : Stmt := inClass (topS 20) 0
abbrev sMove : Stmt := inClass (topS 20) 1
abbrev sGoOn : Stmt := inClass (topS 20) 2
abbrev sA2 : Stmt := inClass (topS 20) 3
abbrev sA1 : Stmt := inClass (topS 20) 4
abbrev sB : Stmt := inClass (topS 20) 5
abbrev sForetell : Stmt := inClass (topS 20) 6
abbrev sEndInit : Stmt := inClass (topS 21) 0
abbrev sTake : Stmt := inClass (topS 21) 1
abbrev sSumO : Stmt := inClass (topS 21) 2
abbrev sSumE : Stmt := inClass (topS 21) 3
abbrev sSizeOf : Stmt := topS 22
abbrev sRung : Stmt := topS 23
abbrev sLowBits : Stmt := topS 24
abbrev sHighBits : Stmt := topS 25
abbrev sByteOf : Stmt := topS 26
abbrev sLowTable : Stmt := topS 27
abbrev sBandValue : Stmt := topS 28
abbrev sPairOf : Stmt := topS 29
abbrev sLineInit : Stmt := inClass (topS 30) 0
abbrev sBegun : Stmt := inClass (topS 30) 1
abbrev sEncoded : Stmt := inClass (topS 30) 2
abbrev sDecoded : Stmt := inClass (topS 30) 3
abbrev sAnswerTo : Stmt := inClass (topS 30) 4
abbrev sLenCall : Stmt := topS 31
abbrev sAnswers : Stmt := topS 32
/-! ### calls in short: a def by its global name, a method, a maker -/
section
variable (P : Program) (w : World) (K : PySem.W.Frag) (mg : Str → Option Value) (base : Heap)
structure GF (k : Nat) (x : Str) (ps : List Str) (sp : Sp) : Prop where
  ex : ∃ (f : Addr) (fd : FuncData), FnOk P w K mg base CX0 k f fd ps sp ∧ mg x = some (.ref f) ∧ PySem.W.keepIn K (.ref f) = true ∧ Binds K fd ps []
structure MF (C : Addr) (k : Nat) (m : Str) (ps : List Str) (sp : Sp) : Prop where
  ex : ∃ (f : Addr) (fd : FuncData), FnOk P w K mg base CX0 k f fd ps sp ∧ Meth K C m f ∧ Binds K fd ps []
structure KF (C : Addr) (k : Nat) (x : Str) (ps : List Str) (sp : Sp) : Prop where
  ex : ∃ (f : Addr) (fd : FuncData), FnOk P w K mg base CX0 k f fd ps sp ∧ Mk K C f ∧ mg x = some (.ref C) ∧ Binds K fd ps []
end
section
variable {X : Cx} {k : Nat} {x m : Str} {ps : List Str} {sp : Sp} {e o : Expr} {es : List Expr} {t : TA} {ta : TE} {p pos apos : Pos} {C : Addr}
theorem pe_g (G : GF X.prog X.w X.K X.mg X.base k x ps sp) (hr : Room k X.A) (hg : Gl X x) (ha : PA X (e :: es) t) (hdb : (x == ("__debug__" : Str)) = false := by decide)
    (he : starEach (e :: es) X.env = (false, eval e X.env) :: starEach es X.env := by rfl) (hpl : (backTo pos (starEach es X.env)).any (·.1) = false := by rfl) : PE X (.Call (.Name x p) (e :: es) [] pos) (tCall sp [] E0 t) := by
  obtain ⟨f, fd, F, hm, hk, hb⟩ := G.ex
  exact pe_call F hr hg hm hk hb .nil pass0 ha hdb he hpl
theorem pe_m {pl : Sem Bool} (he : PE X o ta) (c : Cls X.K C) (M : MF X.prog X.w X.K X.mg X.base C k m ps sp) (hr : Room k X.A) (ha : PA X (e :: es) t)
    (hst : starEach (e :: es) X.env = (false, eval e X.env) :: starEach es X.env := by rfl) (hpl : (backTo pos (starEach es X.env)).any (·.1) = false := by rfl)
    (ht : eval (.Call (.Attribute o m apos) (e :: es) [] pos) X.env = (do
      let ov ← eval o X.env
      standAt apos.atName
      let (f, first) ← holding [ov] (getMethod ov m pl)
      callWith pos f first (backTo pos (starEach (e :: es) X.env)) (backToKw pos (keywordEach [] X.env))) := by rfl) : PE X (.Call (.Attribute o m apos) (e :: es) [] pos) (tMeth C m sp [] E0 ta t) := by
  obtain ⟨f, fd, F, hm, hb⟩ := M.ex
  exact pe_meth (pl := pl) he c hm F hr hb .nil pass0 ha hst hpl ht
theorem pe_m0 {pl : Sem Bool} (he : PE X o ta) (c : Cls X.K C) (M : MF X.prog X.w X.K X.mg X.base C k m ps sp) (hr : Room k X.A)
    (ht : eval (.Call (.Attribute o m apos) [] [] pos) X.env = (do
      let ov ← eval o X.env
      standAt apos.atName
      let (f, first) ← holding [ov] (getMethod ov m pl)
      callWith pos f first (backTo pos (starEach [] X.env)) (backToKw pos (keywordEach [] X.env))) := by rfl) : PE X (.Call (.Attribute o m apos) [] [] pos) (tMeth C m sp [] E0 ta tNil) := by
  obtain ⟨f, fd, F, hm, hb⟩ := M.ex
  exact pe_meth0 (pl := pl) he c hm F hr hb .nil pass0 ht
theorem pe_k (M : KF X.prog X.w X.K X.mg X.base C k x ps sp) (hr : Room (k + 1) X.A) (hg : Gl X x) (ha : PA X (e :: es) t) (hdb : (x == ("__debug__" : Str)) = false := by decide)
    (he : starEach (e :: es) X.env = (false, eval e X.env) :: starEach es X.env := by rfl) (hpl : (backTo pos (starEach es X.env)).any (·.1) = false := by rfl) : PE X (.Call (.Name x p) (e :: es) [] pos) (tMake C sp [] E0 t) := by
  obtain ⟨f, fd, F, hM, hm, hb⟩ := M.ex
  exact pe_make hM F hr hg hm hb .nil pass0 ha hdb he hpl
theorem pe_k0 (M : KF X.prog X.w X.K X.mg X.base C k x ps sp) (hr : Room (k + 1) X.A) (hg : Gl X x) (hdb : (x == ("__debug__" : Str)) = false := by decide) : PE X (.Call (.Name x p) [] [] pos) (tMake C sp [] E0 tNil) := by
  obtain ⟨f, fd, F, hM, hm, hb⟩ := M.ex
  exact pe_make0 hM F hr hg hm hb .nil pass0 hdb
end
/-! ### the module's numbers and tables -/
def GI (mg : Str → Option Value) (x : Str) (i : Int) : Prop := ∃ t, mg x = some (.int i t)
def TupK (K : PySem.W.Frag) (a : Addr) (xs : List Int) : Prop := ∀ H : Hp, SqT K H a (xs.map V.int)
def GT (K : PySem.W.Frag) (mg : Str → Option Value) (x : Str) (xs : List Int) : Prop := ∃ a, mg x = some (.ref a) ∧ TupK K a xs
theorem pe_gi {X : Cx} {x : Str} {i : Int} {pos : Pos} (h : GI X.mg x i) (hg : Gl X x) (hd : (x == ("__debug__" : Str)) = false := by decide) : PE X (.Name x pos) (tC (.int i)) := by
  obtain ⟨t, h⟩ := h
  exact pe_glob hg h ⟨t, rfl⟩ hd
theorem pe_gr {X : Cx} {x : Str} {a : Addr} {pos : Pos} (h : X.mg x = some (.ref a)) (hg : Gl X x) (hd : (x == ("__debug__" : Str)) = false := by decide) : PE X (.Name x pos) (tC (.ref a)) := pe_glob hg h (show RelV (.ref a) (.ref a) from rfl) hd
theorem castI {Q : VK} {H : Hp} {i j : Int} (e : i = j) (k : Q (.int i) H) : Q (.int j) H := e ▸ k
/-! ### comprehensions over a zip: [f x y for x, y in ..], the element's heap is the block's own -/
theorem zip_at {ns ms : List Int} {i : Nat} {x y : V} (hx : (ns.map V.int)[i]? = some x) (hy : (ms.map V.int)[i]? = some y) : ∃ a b, x = .int a ∧ y = .int b ∧ (ns.zip ms)[i]? = some (a, b) := by
  rw [List.getElem?_map] at hx hy
  cases e1 : ns[i]? with
  | none => rw [e1] at hx; cases hx
  | some a =>
    cases e2 : ms[i]? with
    | none => rw [e2] at hy; cases hy
    | some b =>
      rw [e1] at hx
      rw [e2] at hy
      exact ⟨a, b, (Option.some.inj hx).symm, (Option.some.inj hy).symm, by rw [List.getElem?_zip_eq_some]; exact ⟨e1, e2⟩⟩
theorem lc_zz {SX SY : Hp → List V → Prop} {ns ms : List Int} {g : TG} {te : TE} {vs : List Nat} {σ : St} {H1 : Hp} {D : Addr} {Qd : Hp → Prop} (f : Int → Int → Int)
    (hX : ∀ H, Same H1 H → SX H (ns.map V.int)) (hY : ∀ H, Same H1 H → SY H (ms.map V.int)) (hD : H1 D = none) (small : ns.length < sizeLine)
    (hs : ∀ (x y : Int) (H : Hp) (T : Addr) (R : VK), (x, y) ∈ ns.zip ms → H T = some (.tup [.int x, .int y]) → R (.int (f x y)) H → g (.ref T) (wipe σ vs) H fun σ2 H2 => wipe σ2 vs = wipe σ vs ∧ te σ2 H2 R)
    (hd : ∀ H, Same H1 H → H D = some (.lst (((ns.zip ms).map fun q => f q.1 q.2).map V.int)) → Qd H) :
    ∃ W : Nat → Nat → Hp → Prop, (∃ m, W 0 m (upd H1 D (.lst []))) ∧ ∀ i m H, W i m H →
      ((Itzz SX SY).stop i H ∧ Qd H) ∨ ((Itzz SX SY).go i H ∧ ∃ Nx : Hp → Prop, (∀ H', Nx H' → ∃ m', m' < m ∧ W (i + 1) m' H') ∧ ∀ x H', (Itzz SX SY).yld i H x H' → g x (wipe σ vs) H' fun σ2 H2 => wipe σ2 vs = wipe σ vs ∧ tYes σ2 H2 fun b H3 =>
        if b = true then te σ2 H3 fun y H4 => ∃ acc, H4 D = some (.lst acc) ∧ acc.length < sizeLine ∧ Nx (upd H4 D (.lst (acc ++ [y]))) else Nx H3) := by
  have lz : (ns.zip ms).length = min ns.length ms.length := List.length_zip
  let L : List V := ((ns.zip ms).map fun q => f q.1 q.2).map V.int
  have lL : L.length = min ns.length ms.length := by show (((ns.zip ms).map fun q => f q.1 q.2).map V.int).length = _; rw [List.length_map, List.length_map, lz]
  let Pv : Nat → Hp → Prop := fun i H => Same H1 H ∧ H D = some (.lst (L.take i))
  refine ⟨fun i m H => m = min ns.length ms.length - i ∧ i ≤ min ns.length ms.length ∧ Pv i H, ⟨min ns.length ms.length, by simp, Nat.zero_le _, fun b o e => ?_, ?_⟩, ?_⟩
  · rw [upd_ne (ne_of_none e hD)]
    exact e
  · rw [upd_same]
    rfl
  · rintro i m H ⟨rfl, hi, s1, hacc⟩
    by_cases hlt : i < min ns.length ms.length
    · have l1 : i < (ns.map V.int).length := by rw [List.length_map]; omega
      have l2 : i < (ms.map V.int).length := by rw [List.length_map]; omega
      refine .inr ⟨⟨_, _, _, _, hX H s1, hY H s1, List.getElem?_eq_getElem l1, List.getElem?_eq_getElem l2⟩, Pv (i + 1), fun H' p' => ⟨min ns.length ms.length - (i + 1), by omega, rfl, hlt, p'⟩, fun v H' hy => ?_⟩
      obtain ⟨T, x, y, rfl, hT, rfl, hx, hy⟩ := hy
      obtain ⟨a, b, rfl, rfl, hab⟩ := zip_at (hx _ (hX H s1)) (hy _ (hY H s1))
      have nTD : D ≠ T := ne_of_none hacc hT
      have hL : L[i]? = some (.int (f a b)) := by
        show (((ns.zip ms).map fun q => f q.1 q.2).map V.int)[i]? = _
        rw [List.getElem?_map, List.getElem?_map, hab]
        rfl
      refine hs a b _ T _ (List.mem_of_getElem? hab) upd_same ⟨L.take i, ?_, ?_, fun c o e => ?_, ?_⟩
      · rw [upd_ne nTD]
        exact hacc
      · rw [List.length_take]
        omega
      · rw [upd_ne (fun z => by subst z; rw [hD] at e; cases e), upd_ne (ne_of_none (s1 c o e) hT)]
        exact s1 c o e
      · rw [upd_same, List.take_succ, hL]
        rfl
    · have e : i = min ns.length ms.length := by omega
      refine .inl ⟨⟨_, _, hX H s1, hY H s1, by rw [List.length_map, List.length_map]; omega⟩, hd H s1 ?_⟩
      rw [hacc, List.take_of_length_le (by rw [lL]; omega)]
/-! ### for i, x in enumerate(tuple, start=1) -/
theorem for_enum1 {K : PySem.W.Frag} {a : Addr} {xs : List V} {g : TG} {tb : TS} {D : Ends} {σ : St} {H : Hp} (Pv : Nat → St → Hp → Prop) (h0 : Pv 0 σ H) (hl : ∀ i σ H, i ≤ xs.length → Pv i σ H → SqT K H a xs)
    (hs : ∀ i x σ H T, xs[i]? = some x → H T = none → Pv i σ H → g (.ref T) σ (upd H T (.tup [.int ((i + 1 : Nat) : Int), x])) fun σ2 H2 => tb { D with nx := Pv (i + 1), ct := Pv (i + 1), bk := D.nx } σ2 H2) (hd : ∀ σ H, Pv xs.length σ H → D.nx σ H) :
    ∃ W : Nat → Nat → St → Hp → Prop, (∃ m, W 0 m σ H) ∧ ∀ i m σ H, W i m σ H →
      ((Ite1 K a).stop i H ∧ D.nx σ H) ∨ ((Ite1 K a).go i H ∧ ∃ N : St → Hp → Prop, (∀ σ' H', N σ' H' → ∃ m', m' < m ∧ W (i + 1) m' σ' H') ∧ ∀ x H', (Ite1 K a).yld i H x H' → g x σ H' fun σ2 H2 => tb { D with nx := N, ct := N, bk := D.nx } σ2 H2) := by
  refine ⟨fun i m σ H => m = xs.length - i ∧ i ≤ xs.length ∧ Pv i σ H, ⟨xs.length, by simp, Nat.zero_le _, h0⟩, ?_⟩
  rintro i m σ H ⟨rfl, hi, p⟩
  have q := hl i σ H hi p
  by_cases hlt : i < xs.length
  · refine .inr ⟨⟨xs, xs[i], q, by simp [hlt]⟩, Pv (i + 1), fun σ' H' p' => ⟨xs.length - (i + 1), by omega, rfl, hlt, p'⟩, fun x H' y => ?_⟩
    obtain ⟨T, x, rfl, hT, rfl, y⟩ := y
    exact hs i x σ _ T (y xs q) hT p
  · have e : i = xs.length := by omega
    subst e
    exact .inl ⟨⟨xs, q, Nat.le_refl _⟩, hd σ H p⟩
/-! ### the data -/
/-- all but what stands at p is as it was -/
def Frm (p : Addr) (H H' : Hp) : Prop := ∀ b o, H b = some o → b ≠ p → H' b = some o
theorem Frm.of_same {p : Addr} {H H' : Hp} (h : Same H H') : Frm p H H' := fun b o e _ => h b o e
theorem Frm.trans {p : Addr} {H H1 H2 : Hp} (a : Frm p H H1) (b : Frm p H1 H2) : Frm p H H2 := fun c o e n => b c o (a c o e n) n
theorem Frm.upd {p : Addr} {H : Hp} (o : HO) : Frm p H (L2.upd H p o) := fun b u e n => by rw [upd_ne n]; exact e
theorem Frm.free {p : Addr} {H H' : Hp} (a : Frm p H H') {l : Addr} (h : H' l = none) (n : l ≠ p) : H l = none := by
  cases q : H l with
  | none => rfl
  | some o => rw [a l o q n] at h; cases h
theorem same_new {H : Hp} {l : Addr} {o : HO} (h : H l = none) : Same H (upd H l o) := fun b u e => by rw [upd_ne (ne_of_none e h)]; exact e
/-- a band's attributes, as __init__ stores them -/
def bf (tb ga dl bl : Addr) (x : Bd) : List (Str × V) :=
  [("table", .ref tb), ("gains", .ref ga), ("most", .int (most x.hi)), ("shift", .int (shf x.hi)), ("s", .int x.s), ("sz", .int x.sz), ("n", .int x.n), ("t", .int x.t), ("r1", .int x.r1), ("r2", .int x.r2),
    ("p1", .int x.p1), ("p2", .int x.p2), ("a1", .int x.a1), ("a2", .int x.a2), ("d", .ref dl), ("b", .ref bl)]
structure BandIs (K : PySem.W.Frag) (C : Addr) (H : Hp) (p dx tb ga dl bl : Addr) (x : Bd) : Prop where
  ob : H p = some (.ins C dx (bf tb ga dl bl x))
  tb : TupK K tb (tabl x.hi)
  ga : TupK K ga (gain x.hi)
  dl : H dl = some (.lst (x.d.map V.int))
  bl : H bl = some (.lst (x.b.map V.int))
  ld : x.d.length = 6
  lb : x.b.length = 6
/-- a band stands at p -/
def BandAt (K : PySem.W.Frag) (C : Addr) (H : Hp) (p : Addr) (x : Bd) : Prop := ∃ dx tb ga dl bl, BandIs K C H p dx tb ga dl bl x
theorem BandIs.nd {K : PySem.W.Frag} {C : Addr} {H : Hp} {p dx tb ga dl bl : Addr} {x : Bd} (B : BandIs K C H p dx tb ga dl bl x) : dl ≠ p := ne_of B.dl B.ob (by intro z; cases z)
theorem BandIs.nb {K : PySem.W.Frag} {C : Addr} {H : Hp} {p dx tb ga dl bl : Addr} {x : Bd} (B : BandIs K C H p dx tb ga dl bl x) : bl ≠ p := ne_of B.bl B.ob (by intro z; cases z)
theorem BandIs.keep {K : PySem.W.Frag} {C : Addr} {H H' : Hp} {p dx tb ga dl bl : Addr} {x : Bd} (B : BandIs K C H p dx tb ga dl bl x) (h : ∀ b o, H b = some o → (b = p ∨ b = dl ∨ b = bl) → H' b = some o) : BandIs K C H' p dx tb ga dl bl x :=
  ⟨h _ _ B.ob (.inl rfl), B.tb, B.ga, h _ _ B.dl (.inr (.inl rfl)), h _ _ B.bl (.inr (.inr rfl)), B.ld, B.lb⟩
theorem BandIs.same {K : PySem.W.Frag} {C : Addr} {H H' : Hp} {p dx tb ga dl bl : Addr} {x : Bd} (B : BandIs K C H p dx tb ga dl bl x) (h : Same H H') : BandIs K C H' p dx tb ga dl bl x := B.keep fun b o e _ => h b o e
theorem BandAt.same {K : PySem.W.Frag} {C : Addr} {H H' : Hp} {p : Addr} {x : Bd} (B : BandAt K C H p x) (h : Same H H') : BandAt K C H' p x := by
  obtain ⟨dx, tb, ga, dl, bl, B⟩ := B
  exact ⟨dx, tb, ga, dl, bl, B.same h⟩
/-- another object is turned -/
theorem BandAt.frame {K : PySem.W.Frag} {C : Addr} {H H' : Hp} {p q : Addr} {x : Bd} (B : BandAt K C H p x) (h : Frm q H H') (n : p ≠ q) (nq : ∀ xs, H q ≠ some (.lst xs)) : BandAt K C H' p x := by
  obtain ⟨dx, tb, ga, dl, bl, B⟩ := B
  refine ⟨dx, tb, ga, dl, bl, B.keep fun b o e hb => h b o e ?_⟩
  rcases hb with rfl | rfl | rfl
  · exact n
  · exact fun z => nq _ (z ▸ B.dl)
  · exact fun z => nq _ (z ▸ B.bl)
def bd0 (hi : Bool) : Bd := ⟨hi, 0, 0, 0, wid 0 (shf hi), 0, 0, 0, 0, 0, 0, [0, 0, 0, 0, 0, 0], [0, 0, 0, 0, 0, 0]⟩
theorem bd0_spec (hi : Bool) : (bd0 hi).spec = Sa69.first hi := by cases hi <;> rfl
/-- an end: its bands, its numbers -/
structure Ed where
  lo : Bd
  hi : Bd
  x : List Int
def Ed.spec (e : Ed) : Sa69.End := ⟨e.lo.spec, e.hi.spec, e.x⟩
def ef (lo hi xl : Addr) : List (Str × V) := [("low", .ref lo), ("high", .ref hi), ("x", .ref xl)]
structure EndAt (K : PySem.W.Frag) (C D : Addr) (H : Hp) (e lo hi : Addr) (E : Ed) : Prop where
  ob : ∃ dx xl, H e = some (.ins D dx (ef lo hi xl)) ∧ H xl = some (.lst (E.x.map V.int))
  bl : BandAt K C H lo E.lo
  bh : BandAt K C H hi E.hi
  hl : E.lo.hi = false
  hh : E.hi.hi = true
  lx : E.x.length = 24
  nlh : lo ≠ hi
def ed0 : Ed := ⟨bd0 false, bd0 true, List.replicate 24 0⟩
theorem ed0_spec : ed0.spec = Sa69.begun := rfl
theorem BandAt.noLst {K : PySem.W.Frag} {C : Addr} {H : Hp} {p : Addr} {x : Bd} (B : BandAt K C H p x) : ∀ xs, H p ≠ some (.lst xs) := fun xs z => by
  obtain ⟨dx, tb, ga, dl, bl, B⟩ := B
  have := B.ob.symm.trans z
  cases this
theorem BandAt.ne_ins {K : PySem.W.Frag} {C D : Addr} {H : Hp} {p e dx : Addr} {x : Bd} {lo hi xl : Addr} (B : BandAt K C H p x) (h : H e = some (.ins D dx (ef lo hi xl))) : e ≠ p := fun z => by
  obtain ⟨dx', tb, ga, dl, bl, B⟩ := B
  subst z
  have e2 := Option.some.inj (h.symm.trans B.ob)
  injection e2 with _ _ e3
  have l := congrArg List.length e3
  exact absurd l (by show ¬ (3 = 16); decide)
end TB
set_option maxHeartbeats 4000000
/-! The small defs: between, held, one_sign, plus_if, width, size_of. -/
namespace TB
open PySem L2 TBR
def spBetween : Sp := fun vs H Q _ => ∃ a b c, vs = [.int a, .int b, .int c] ∧ Q (.int (btw a b c)) H
def spHeld : Sp := fun vs H Q _ => ∃ a, vs = [.int a] ∧ Q (.int (hld a)) H
def spOneSign : Sp := fun vs H Q _ => ∃ a b, vs = [.int a, .int b] ∧ Q (.bl (osg a b)) H
def spPlusIf : Sp := fun vs H Q _ => ∃ c a, vs = [.bl c, .int a] ∧ Q (.int (plus c a)) H
def spWidth : Sp := fun vs H Q _ => ∃ n sh, vs = [.int n, .int sh] ∧ 0 ≤ n ∧ n ≤ 22528 ∧ (sh = 8 ∨ sh = 10) ∧ Q (.int (wid n sh)) H
def spSizeOf : Sp := fun vs H Q _ => ∃ u, vs = [.int u] ∧ Q (.int (siz u)) H
theorem tabAt (xs : List Int) {j : Nat} (h : j < xs.length) : (xs.map V.int)[j]? = some (.int (xs.getD j 0)) := by
  rw [List.getElem?_map, List.getElem?_eq_getElem h, List.getD_eq_getElem?_getD, List.getElem?_eq_getElem h]
  rfl
theorem dec_t {p : Prop} [Decidable p] (h : decide p = true) : p := of_decide_eq_true h
theorem dec_f {p : Prop} [Decidable p] (h : ¬ decide p = true) : ¬ p := fun q => h (decide_eq_true q)
theorem getD_all {q : Int → Prop} (xs : List Int) (h0 : q 0) (h : ∀ v ∈ xs, q v) (j : Nat) : q (xs.getD j 0) := by
  by_cases hj : j < xs.length
  · rw [List.getD_eq_getElem?_getD, List.getElem?_eq_getElem hj]
    exact h _ (List.getElem_mem hj)
  · rw [List.getD_eq_getElem?_getD, List.getElem?_eq_none (by omega)]
    exact h0
section
variable {P : Program} {w : World} {K : PySem.W.Frag} {mg : Str → Option Value} {base : Heap} {f : Addr} {fd : FuncData}
theorem scBetween : FnScope ["least", "number", "most"] ["least", "number", "most"] (defScope sBetween) := ⟨rfl, rfl, rfl, by decide +kernel, rfl, by decide +kernel, by decide +kernel⟩
theorem ok_between (F : Fun K "between" "between" sBetween f fd) : FnOk P w K mg base CX0 1 f fd ["least", "number", "most"] spBetween := by
  refine F.ok scBetween (fun vs H Q E h => ?_) (fun cdv A outer s H vs Q E hr h => ?_)
  · obtain ⟨a, b, c, rfl, _⟩ := h
    rfl
  · obtain ⟨a, b, c, rfl, k⟩ := h
    refine ⟨_, pss_cons (ps_if (pt_cmpR op_lt (pv 1) (pv 0) (nomark _)) (pss_one (ps_ret (pv 0))) pss_nil)
      (pss_cons (ps_if (pt_cmpR op_gt (pv 1) (pv 2) (nomark _)) (pss_one (ps_ret (pv 2))) pss_nil)
      (pss_one (ps_ret (pv 1)))), ?_⟩
    refine ⟨_, rfl, _, rfl, _, _, rfl, rfl, _, rfl, ite2 (fun h1 => ?_) (fun h1 => ?_)⟩
    · have e : btw a b c = a := by unfold btw; rw [if_pos (dec_t h1)]
      exact ⟨_, rfl, castI (Q := Q) e k⟩
    · refine ⟨_, rfl, _, rfl, _, _, rfl, rfl, _, rfl, ite2 (fun h2 => ?_) (fun h2 => ?_)⟩
      · have e : btw a b c = c := by unfold btw; rw [if_neg (dec_f h1), if_pos (dec_t h2)]
        exact ⟨_, rfl, castI (Q := Q) e k⟩
      · have e : btw a b c = b := by unfold btw; rw [if_neg (dec_f h1), if_neg (dec_f h2)]
        exact ⟨_, rfl, castI (Q := Q) e k⟩
theorem scHeld : FnScope ["number"] ["number"] (defScope sHeld) := ⟨rfl, rfl, rfl, by decide +kernel, rfl, by decide +kernel, by decide +kernel⟩
theorem ok_held (F : Fun K "held" "held" sHeld f fd) (GB : GF P w K mg base 1 "between" ["least", "number", "most"] spBetween) : FnOk P w K mg base CX0 2 f fd ["number"] spHeld := by
  refine F.ok scHeld (fun vs H Q E h => ?_) (fun cdv A outer s H vs Q E hr h => ?_)
  · obtain ⟨a, rfl, _⟩ := h
    rfl
  · obtain ⟨a, rfl, k⟩ := h
    refine ⟨_, pss_one (ps_ret (pe_g GB hr rfl (pa_cons (pe_un un_neg pe_int) (pa_cons (pv 0) (pa_cons pe_int pa_nil))))), ?_⟩
    exact ⟨_, rfl, _, rfl, _, _, _, rfl, k⟩
theorem scOneSign : FnScope ["first", "second"] ["first", "second"] (defScope sOneSign) := ⟨rfl, rfl, rfl, by decide +kernel, rfl, by decide +kernel, by decide +kernel⟩
theorem ok_oneSign (F : Fun K "one_sign" "one_sign" sOneSign f fd) : FnOk P w K mg base CX0 1 f fd ["first", "second"] spOneSign := by
  refine F.ok scOneSign (fun vs H Q E h => ?_) (fun cdv A outer s H vs Q E hr h => ?_)
  · obtain ⟨a, b, rfl, _⟩ := h
    rfl
  · obtain ⟨a, b, rfl, k⟩ := h
    refine ⟨_, pss_one (ps_ret (pe_cmpR op_eq (pe_cmpR op_lt (pv 0) pe_int (nomark _)) (pe_cmpR op_lt (pv 1) pe_int (nomark _)) (nomark _))), ?_⟩
    refine ⟨_, rfl, _, _, rfl, rfl, _, rfl, _, _, rfl, rfl, rfl, ?_⟩
    show Q (V.bl (decide (V.bl (decide (a < 0)) = V.bl (decide (b < 0))))) _
    rw [dec_bl]
    exact k
theorem scPlusIf : FnScope ["chosen", "amount"] ["chosen", "amount"] (defScope sPlusIf) := ⟨rfl, rfl, rfl, by decide +kernel, rfl, by decide +kernel, by decide +kernel⟩
theorem ok_plusIf (F : Fun K "plus_if" "plus_if" sPlusIf f fd) : FnOk P w K mg base CX0 1 f fd ["chosen", "amount"] spPlusIf := by
  refine F.ok scPlusIf (fun vs H Q E h => ?_) (fun cdv A outer s H vs Q E hr h => ?_)
  · obtain ⟨c, a, rfl, _⟩ := h
    rfl
  · obtain ⟨c, a, rfl, k⟩ := h
    refine ⟨_, pss_one (ps_ret (pe_ifExp (pt_truth (pv 0) (fun _ => rfl)) (pv 1) (pe_un un_neg (pv 1)))), ?_⟩
    refine ⟨_, rfl, c, rfl, ?_⟩
    cases c with
    | true => exact iteT ⟨_, rfl, k⟩
    | false => exact iteF ⟨_, rfl, _, rfl, k⟩
theorem scWidth : FnScope ["n", "shift", "level", "k"] ["n", "shift"] (defScope sWidth) := ⟨rfl, rfl, rfl, by decide +kernel, rfl, by decide +kernel, by decide +kernel⟩
theorem logs_small (j : Nat) : (Sa69.LOGS.getD j 0).natAbs < 2 ^ 64 := getD_all (q := fun v => v.natAbs < 2 ^ 64) Sa69.LOGS (by decide) (by decide) j
theorem ok_width (F : Fun K "width" "width" sWidth f fd) (TL : GT K mg "L" Sa69.LOGS) : FnOk P w K mg base CX0 1 f fd ["n", "shift"] spWidth := by
  obtain ⟨aL, hL, tL⟩ := TL
  refine F.ok scWidth (fun vs H Q E h => ?_) (fun cdv A outer s H vs Q E hr h => ?_)
  · obtain ⟨n, sh, rfl, _⟩ := h
    rfl
  · obtain ⟨n, sh, rfl, h0, h1, hs, k⟩ := h
    refine ⟨_, pss_cons (ps_set (i := 2) scWidth.nd rfl (Or.inl rfl) (pe_ix ix_tup (pe_gr hL rfl) (pe_op op_mod (pe_op op_fdiv (pv 0) pe_int) pe_int) (fun _ _ => rfl)))
      (pss_cons (ps_set (i := 3) scWidth.nd rfl (Or.inl rfl) (pe_op op_sub (pv 1) (pe_op op_fdiv (pv 0) pe_int)))
      (pss_cons (ps_if (pt_cmpR op_lt (pv 3) pe_int (nomark _)) (pss_one (ps_ret (pe_op op_mul pe_int (pe_op op_shl (pv 2) (pe_un un_neg (pv 3)))))) pss_nil)
      (pss_one (ps_ret (pe_op op_mul pe_int (pe_op op_shr (pv 2) (pv 3))))))), ?_⟩
    have hj : (n / 64 % 32).toNat < Sa69.LOGS.length := by show _ < 32; omega
    refine ⟨_, rfl, _, _, rfl, rfl, ⟨by decide, by decide⟩, _, _, rfl, rfl, (by show (0 : Int) < 32; decide), aL, _, _, _, rfl, rfl, tL H, at_of (j := (n / 64 % 32).toNat) (by omega) (tabAt _ hj), ?_⟩
    refine ⟨_, rfl, _, rfl, _, _, rfl, rfl, ⟨by decide, by decide⟩, _, _, rfl, rfl, ?_⟩
    refine ⟨_, rfl, _, _, rfl, rfl, _, rfl, ite2 (fun h2 => ?_) (fun h2 => ?_)⟩
    · have h2 : sh - n / 2048 < 0 := dec_t h2
      refine ⟨_, rfl, _, rfl, _, rfl, _, _, rfl, rfl, ⟨by omega, by omega, logs_small _⟩, _, _, rfl, rfl, .inl ⟨by decide, by decide⟩, ?_⟩
      have e : wid n sh = 4 * (Sa69.LOGS.getD (n / 64 % 32).toNat 0 * 2 ^ (-(sh - n / 2048)).toNat) := by unfold wid; rw [if_pos h2]
      exact castI (Q := Q) e k
    · have h2 : ¬ sh - n / 2048 < 0 := dec_f h2
      refine ⟨_, rfl, _, rfl, _, _, rfl, rfl, (by omega), _, _, rfl, rfl, .inl ⟨by decide, by decide⟩, ?_⟩
      have e : wid n sh = 4 * (Sa69.LOGS.getD (n / 64 % 32).toNat 0 / 2 ^ (sh - n / 2048).toNat) := by unfold wid; rw [if_neg h2]
      exact castI (Q := Q) e k
theorem scSizeOf : FnScope ["u"] ["u"] (defScope sSizeOf) := ⟨rfl, rfl, rfl, by decide +kernel, rfl, by decide +kernel, by decide +kernel⟩
theorem ok_sizeOf (F : Fun K "size_of" "size_of" sSizeOf f fd) : FnOk P w K mg base CX0 1 f fd ["u"] spSizeOf := by
  refine F.ok scSizeOf (fun vs H Q E h => ?_) (fun cdv A outer s H vs Q E hr h => ?_)
  · obtain ⟨u, rfl, _⟩ := h
    rfl
  · obtain ⟨u, rfl, k⟩ := h
    refine ⟨_, pss_one (ps_ret (pe_ifExp (pt_cmpR op_ge (pv 0) pe_int (nomark _)) (pv 0) (pe_op op_sub (pe_un un_neg (pv 0)) pe_int))), ?_⟩
    refine ⟨_, rfl, _, _, rfl, rfl, _, rfl, ite2 (fun h1 => ?_) (fun h1 => ?_)⟩
    · have e : siz u = u := by unfold siz; rw [if_pos (dec_t h1)]
      exact ⟨_, rfl, castI (Q := Q) e k⟩
    · have e : siz u = -u - 1 := by unfold siz; rw [if_neg (dec_f h1)]
      exact ⟨_, rfl, _, rfl, _, _, rfl, rfl, castI (Q := Q) e k⟩
end
end TB
set_option maxHeartbeats 4000000
/-! The methods of Band. -/
namespace TB
open PySem L2 TBR
structure BTx (K : PySem.W.Frag) (C : Addr) : Prop where
  cl : Cls K C
  n_table : NoAttr K C "table"
  n_gains : NoAttr K C "gains"
  n_most : NoAttr K C "most"
  n_shift : NoAttr K C "shift"
  n_s : NoAttr K C "s"
  n_sz : NoAttr K C "sz"
  n_n : NoAttr K C "n"
  n_t : NoAttr K C "t"
  n_r1 : NoAttr K C "r1"
  n_r2 : NoAttr K C "r2"
  n_p1 : NoAttr K C "p1"
  n_p2 : NoAttr K C "p2"
  n_a1 : NoAttr K C "a1"
  n_a2 : NoAttr K C "a2"
  n_d : NoAttr K C "d"
  n_b : NoAttr K C "b"
/-- what stands for Python's own names -/
structure PyN (mg : Str → Option Value) : Prop where
  zip : mg "zip" = none
  sum : mg "sum" = none
  min : mg "min" = none
  len : mg "len" = none
  range : mg "range" = none
  enumerate : mg "enumerate" = none
def spBandInit (K : PySem.W.Frag) (C : Addr) : Sp := fun vs H Q _ => ∃ (p dx tb ga : Addr) (hi : Bool), vs = [.ref p, .ref tb, .ref ga, .int (most hi), .int (shf hi)] ∧ H p = some (.ins C dx []) ∧ TupK K tb (tabl hi) ∧ TupK K ga (gain hi) ∧
  ∀ H', BandAt K C H' p (bd0 hi) → Frm p H H' → Q .non H'
def spMove (K : PySem.W.Frag) (C : Addr) : Sp := fun vs H Q _ => ∃ (p : Addr) (x : Bd) (c : Nat) (z : Int), vs = [.ref p, .int z] ∧ z = (c : Int) ∧ BandAt K C H p x ∧ c < (tabl x.hi).length ∧ ∀ H', BandAt K C H' p (mov x c) → Frm p H H' → Q .non H'
def spGoOn (K : PySem.W.Frag) (C : Addr) : Sp := fun vs H Q _ => ∃ (p : Addr) (x : Bd) (d : Int), vs = [.ref p, .int d] ∧ BandAt K C H p x ∧ ∀ H', BandAt K C H' p (gon x d) → Frm p H H' → Q .non H'
def spA2 (K : PySem.W.Frag) (C : Addr) : Sp := fun vs H Q _ => ∃ (p : Addr) (x : Bd) (p0 : Int), vs = [.ref p, .int p0] ∧ BandAt K C H p x ∧ Q (.int (fa2 x p0)) H
def spA1 (K : PySem.W.Frag) (C : Addr) : Sp := fun vs H Q _ => ∃ (p : Addr) (x : Bd) (p0 a2 : Int), vs = [.ref p, .int p0, .int a2] ∧ BandAt K C H p x ∧ Q (.int (fa1 x p0 a2)) H
def spB (K : PySem.W.Frag) (C : Addr) : Sp := fun vs H Q _ => ∃ (p : Addr) (x : Bd) (d : Int), vs = [.ref p, .int d] ∧ BandAt K C H p x ∧ ∀ (l : Addr) (H' : Hp), Same H H' → H l = none → H' l = some (.lst ((fb x d).map V.int)) → Q (.ref l) H'
def spForetell (K : PySem.W.Frag) (C : Addr) : Sp := fun vs H Q _ => ∃ (p : Addr) (x : Bd), vs = [.ref p] ∧ BandAt K C H p x ∧ ∀ H', BandAt K C H' p (ftl x) → Frm p H H' → Q .non H'
section
variable {P : Program} {w : World} {K : PySem.W.Frag} {mg : Str → Option Value} {base : Heap} {f C : Addr} {fd : FuncData}
abbrev pB3 : List Str := ["least", "number", "most"]
theorem scA2 : FnScope ["self", "p0", "v", "w"] ["self", "p0"] (defScope sA2) := ⟨rfl, rfl, rfl, by decide +kernel, rfl, by decide +kernel, by decide +kernel⟩
theorem ok_a2 (F : Fun K "following_a2" "Band.following_a2" sA2 f fd) (T : BTx K C) (N : PyN mg) (GB : GF P w K mg base 1 "between" pB3 spBetween) (GH : GF P w K mg base 2 "held" ["number"] spHeld) (GO : GF P w K mg base 1 "one_sign" ["first", "second"] spOneSign)
    (GP : GF P w K mg base 1 "plus_if" ["chosen", "amount"] spPlusIf) : FnOk P w K mg base CX0 3 f fd ["self", "p0"] (spA2 K C) := by
  refine F.ok scA2 (fun vs H Q E h => ?_) (fun cdv A outer s H vs Q E hr h => ?_)
  · obtain ⟨p, x, p0, rfl, _⟩ := h
    rfl
  · obtain ⟨p, x, p0, rfl, ⟨dx, tb, ga, dl, bl, B⟩, k⟩ := h
    have hr1 : Room 1 _ := hr.mono (by decide)
    refine ⟨_, pss_cons (ps_set (i := 2) scA2.nd rfl (Or.inl rfl) (pe_g GH hr rfl (pa_cons (pe_op op_mul pe_int (pe_fld (pv 0) rfl)) pa_nil)))
      (pss_cons (ps_if (pt_truth (pe_g GO hr1 rfl (pa_cons (pv 1) (pa_cons (pe_fld (pv 0) rfl) pa_nil))) (fun _ => rfl))
        (pss_one (ps_set (i := 2) scA2.nd rfl (Or.inl rfl) (pe_callB (call_min2 rfl) rfl N.min PyProof.Rows.boot_min (pa_cons (pe_un un_neg (pv 2)) (pa_cons pe_int pa_nil))))) pss_nil)
      (pss_cons (ps_set (i := 3) scA2.nd rfl (Or.inl rfl) (pe_op op_add (pe_op op_add (pe_op op_shr (pv 2) pe_int) (pe_g GP hr1 rfl (pa_cons (pe_g GO hr1 rfl (pa_cons (pv 1) (pa_cons (pe_fld (pv 0) rfl) pa_nil))) (pa_cons pe_int pa_nil))))
        (pe_op op_shr (pe_op op_mul (pe_fld (pv 0) rfl) pe_int) pe_int)))
      (pss_one (ps_ret (pe_g GB hr1 rfl (pa_cons (pe_un un_neg pe_int) (pa_cons (pv 3) (pa_cons pe_int pa_nil)))))))), ?_⟩
    refine ⟨_, rfl, p, C, dx, _, _, rfl, B.ob, T.cl, T.n_a1, rfl, _, _, rfl, rfl, .inl ⟨by decide, by decide⟩, _, rfl, ?_⟩
    refine ⟨_, rfl, _, rfl, p, C, dx, _, _, rfl, B.ob, T.cl, T.n_p1, rfl, _, _, rfl, _, rfl, ite2 (fun h1 => ?_) (fun h1 => ?_)⟩
    · refine ⟨_, rfl, _, rfl, _, _, rfl, ?_⟩
      refine ⟨_, rfl, _, _, rfl, rfl, (by show (0 : Int) ≤ _; decide), _, rfl, _, rfl, p, C, dx, _, _, rfl, B.ob, T.cl, T.n_p2, rfl, _, _, rfl, _, _, rfl, _, _, rfl, rfl, _, rfl, p, C, dx, _, _, rfl, B.ob, T.cl, T.n_a2, rfl, _, _, rfl, rfl, .inr ⟨by decide, by decide⟩, _, _, rfl, rfl, (by show (0 : Int) ≤ _; decide), _, _, rfl, rfl, ?_⟩
      refine ⟨_, rfl, _, rfl, _, _, _, rfl, ?_⟩
      have e : fa2 x p0 = btw (-12288) ((if 32767 < -(hld (4 * x.a1)) then 32767 else -(hld (4 * x.a1))) / 2 ^ 7 + plus (osg p0 x.p2) 128 + x.a2 * 32512 / 2 ^ 15) 12288 := by unfold fa2; rw [if_pos h1]
      exact castI (Q := Q) e k
    · refine ⟨_, rfl, _, _, rfl, rfl, (by show (0 : Int) ≤ _; decide), _, rfl, _, rfl, p, C, dx, _, _, rfl, B.ob, T.cl, T.n_p2, rfl, _, _, rfl, _, _, rfl, _, _, rfl, rfl, _, rfl, p, C, dx, _, _, rfl, B.ob, T.cl, T.n_a2, rfl, _, _, rfl, rfl, .inr ⟨by decide, by decide⟩, _, _, rfl, rfl, (by show (0 : Int) ≤ _; decide), _, _, rfl, rfl, ?_⟩
      refine ⟨_, rfl, _, rfl, _, _, _, rfl, ?_⟩
      have e : fa2 x p0 = btw (-12288) (hld (4 * x.a1) / 2 ^ 7 + plus (osg p0 x.p2) 128 + x.a2 * 32512 / 2 ^ 15) 12288 := by unfold fa2; rw [if_neg h1]
      exact castI (Q := Q) e k
theorem scA1 : FnScope ["self", "p0", "new_a2", "w", "limit"] ["self", "p0", "new_a2"] (defScope sA1) := ⟨rfl, rfl, rfl, by decide +kernel, rfl, by decide +kernel, by decide +kernel⟩
theorem ok_a1 (F : Fun K "following_a1" "Band.following_a1" sA1 f fd) (T : BTx K C) (GB : GF P w K mg base 1 "between" pB3 spBetween) (GH : GF P w K mg base 2 "held" ["number"] spHeld) (GO : GF P w K mg base 1 "one_sign" ["first", "second"] spOneSign)
    (GP : GF P w K mg base 1 "plus_if" ["chosen", "amount"] spPlusIf) : FnOk P w K mg base CX0 3 f fd ["self", "p0", "new_a2"] (spA1 K C) := by
  refine F.ok scA1 (fun vs H Q E h => ?_) (fun cdv A outer s H vs Q E hr h => ?_)
  · obtain ⟨p, x, p0, a2, rfl, _⟩ := h
    rfl
  · obtain ⟨p, x, p0, a2, rfl, ⟨dx, tb, ga, dl, bl, B⟩, k⟩ := h
    have hr1 : Room 1 _ := hr.mono (by decide)
    refine ⟨_, pss_cons (ps_set (i := 3) scA1.nd rfl (Or.inl rfl) (pe_g GH hr rfl (pa_cons (pe_op op_add (pe_g GP hr1 rfl (pa_cons (pe_g GO hr1 rfl (pa_cons (pv 1) (pa_cons (pe_fld (pv 0) rfl) pa_nil))) (pa_cons pe_int pa_nil)))
        (pe_op op_shr (pe_op op_mul (pe_fld (pv 0) rfl) pe_int) pe_int)) pa_nil)))
      (pss_cons (ps_set (i := 4) scA1.nd rfl (Or.inl rfl) (pe_g GH hr rfl (pa_cons (pe_op op_sub pe_int (pv 2)) pa_nil)))
      (pss_one (ps_ret (pe_g GB hr1 rfl (pa_cons (pe_un un_neg (pv 4)) (pa_cons (pv 3) (pa_cons (pv 4) pa_nil))))))), ?_⟩
    refine ⟨_, rfl, _, rfl, p, C, dx, _, _, rfl, B.ob, T.cl, T.n_p1, rfl, _, _, rfl, _, _, rfl, _, rfl, p, C, dx, _, _, rfl, B.ob, T.cl, T.n_a1, rfl, _, _, rfl, rfl, .inr ⟨by decide, by decide⟩, _, _, rfl, rfl, (by show (0 : Int) ≤ _; decide), _, _, rfl, rfl, _, rfl, ?_⟩
    refine ⟨_, rfl, _, _, rfl, rfl, _, rfl, ?_⟩
    exact ⟨_, rfl, _, rfl, _, rfl, _, rfl, _, _, _, rfl, k⟩
theorem scB : FnScope ["self", "d", "amount", "di", "bi"] ["self", "d"] (defScope TB.sB) := ⟨rfl, rfl, rfl, by decide +kernel, rfl, by decide +kernel, by decide +kernel⟩
theorem small6 : 6 < sizeLine := by decide
theorem ok_b (F : Fun K "following_b" "Band.following_b" TB.sB f fd) (T : BTx K C) (N : PyN mg) (GH : GF P w K mg base 2 "held" ["number"] spHeld) (GO : GF P w K mg base 1 "one_sign" ["first", "second"] spOneSign)
    (GP : GF P w K mg base 1 "plus_if" ["chosen", "amount"] spPlusIf) : FnOk P w K mg base CX0 3 f fd ["self", "d"] (spB K C) := by
  refine F.ok scB (fun vs H Q E h => ?_) (fun cdv A outer s H vs Q E hr h => ?_)
  · obtain ⟨p, x, d, rfl, _⟩ := h
    rfl
  · obtain ⟨p, x, d, rfl, ⟨dx, tb, ga, dl, bl, B⟩, k⟩ := h
    have hr1 : Room 1 _ := hr.mono (by decide)
    refine ⟨_, pss_cons (ps_set (i := 2) scB.nd rfl (Or.inr rfl) (pe_ifExp (pt_cmpR op_eq (pv 1) pe_int (nomark _)) pe_int pe_int))
      (pss_one (ps_ret (pe_lc (own := [("di", 3), ("bi", 4)]) (g := gTup K 2 (gCons (gName 3) (gCons (gName 4) gNil))) rfl scB.nd (pi_zip rfl N.zip (pa_cons (pe_fld (pv 0) rfl) (pa_cons (pe_fld (pv 0) rfl) pa_nil))) (blkOk_by (by rfl))
        (fun _ _ _ _ _ => pg_tup rfl (pgs_cons (pg_name (i := 3) scB.nd rfl (Or.inl rfl) (Or.inr rfl)) (pgs_cons (pg_name (i := 4) scB.nd rfl (Or.inl rfl) (Or.inr rfl)) pgs_nil))) (fun _ _ _ _ _ => pts_nil)
        (fun _ _ _ _ _ => pe_g GH hr rfl (pa_cons (pe_op op_add (pe_g GP hr1 rfl (pa_cons (pe_g GO hr1 rfl (pa_cons (pv 3) (pa_cons (pv 1) pa_nil))) (pa_cons (pv 2) pa_nil))) (pe_op op_shr (pe_op op_mul (pv 4) pe_int) pe_int)) pa_nil))))), ?_⟩
    refine ⟨_, rfl, rfl, _, rfl, ite2 (fun h1 => ?_) (fun h1 => ?_)⟩
    · have hd : d = 0 := by
        have := dec_t h1
        injection this
      refine ⟨_, rfl, p, C, dx, _, _, rfl, B.ob, T.cl, T.n_d, rfl, _, rfl, p, C, dx, _, _, rfl, B.ob, T.cl, T.n_b, rfl, dl, bl, _, _, rfl, SqL.of B.dl, SqL.of B.bl, fun D hD => ?_⟩
      refine lc_zz (SX := fun H xs => SqL K H dl xs) (SY := fun H xs => SqL K H bl xs) (fun di bi => hld (plus (osg di d) 0 + bi * 32640 / 2 ^ 15)) (fun H' s' => SqL.of (s' _ _ B.dl)) (fun H' s' => SqL.of (s' _ _ B.bl)) hD (by rw [B.ld]; exact small6) ?_ ?_
      · intro a b H' T' R hm hT hR
        exact ⟨T', _, rfl, SqT.of hT, rfl, _, _, rfl, _, _, rfl, rfl, rfl, _, rfl, _, rfl, _, _, rfl, _, rfl, _, _, rfl, _, rfl, _, _, rfl, rfl, .inr ⟨by decide, by decide⟩, _, _, rfl, rfl, (by show (0 : Int) ≤ _; decide), _, _, rfl, rfl, _, rfl, hR⟩
      · intro H' s' hD'
        refine k D H' s' hD ?_
        rw [hD']
        unfold fb fb1
        simp only [if_pos hd]
    · have hd : ¬ d = 0 := fun z => h1 (decide_eq_true (by rw [z]))
      refine ⟨_, rfl, p, C, dx, _, _, rfl, B.ob, T.cl, T.n_d, rfl, _, rfl, p, C, dx, _, _, rfl, B.ob, T.cl, T.n_b, rfl, dl, bl, _, _, rfl, SqL.of B.dl, SqL.of B.bl, fun D hD => ?_⟩
      refine lc_zz (SX := fun H xs => SqL K H dl xs) (SY := fun H xs => SqL K H bl xs) (fun di bi => hld (plus (osg di d) 128 + bi * 32640 / 2 ^ 15)) (fun H' s' => SqL.of (s' _ _ B.dl)) (fun H' s' => SqL.of (s' _ _ B.bl)) hD (by rw [B.ld]; exact small6) ?_ ?_
      · intro a b H' T' R hm hT hR
        exact ⟨T', _, rfl, SqT.of hT, rfl, _, _, rfl, _, _, rfl, rfl, rfl, _, rfl, _, rfl, _, _, rfl, _, rfl, _, _, rfl, _, rfl, _, _, rfl, rfl, .inr ⟨by decide, by decide⟩, _, _, rfl, rfl, (by show (0 : Int) ≤ _; decide), _, _, rfl, rfl, _, rfl, hR⟩
      · intro H' s' hD'
        refine k D H' s' hD ?_
        rw [hD']
        unfold fb fb1
        simp only [if_neg hd]
theorem scF : FnScope ["self", "zeros", "poles", "di", "bi"] ["self"] (defScope sForetell) := ⟨rfl, rfl, rfl, by decide +kernel, rfl, by decide +kernel, by decide +kernel⟩
theorem hldB (a : Int) : -(2 ^ 64) < hld a ∧ hld a < 2 ^ 64 := by
  have := hld_range a
  exact ⟨by omega, by omega⟩
theorem ok_foretell (F : Fun K "foretell" "Band.foretell" sForetell f fd) (T : BTx K C) (N : PyN mg) (GH : GF P w K mg base 2 "held" ["number"] spHeld) : FnOk P w K mg base CX0 3 f fd ["self"] (spForetell K C) := by
  refine F.ok scF (fun vs H Q E h => ?_) (fun cdv A outer s H vs Q E hr h => ?_)
  · obtain ⟨p, x, rfl, _⟩ := h
    rfl
  · obtain ⟨p, x, rfl, ⟨dx, tb, ga, dl, bl, B⟩, k⟩ := h
    refine ⟨_, pss_cons (ps_set (i := 1) scF.nd rfl (Or.inl rfl) (pe_callB (cr_sum rfl) rfl N.sum PyProof.Rows.boot_sum (pa_cons (pe_lc (own := [("di", 3), ("bi", 4)]) (g := gTup K 2 (gCons (gName 3) (gCons (gName 4) gNil))) rfl scF.nd (pi_zip rfl N.zip (pa_cons (pe_fld (pv 0) rfl) (pa_cons (pe_fld (pv 0) rfl) pa_nil))) (blkOk_by (by rfl))
        (fun _ _ _ _ _ => pg_tup rfl (pgs_cons (pg_name (i := 3) scF.nd rfl (Or.inl rfl) (Or.inr rfl)) (pgs_cons (pg_name (i := 4) scF.nd rfl (Or.inl rfl) (Or.inr rfl)) pgs_nil))) (fun _ _ _ _ _ => pts_nil)
        (fun _ _ _ _ _ => pe_op op_shr (pe_op op_mul (pv 4) (pe_g GH hr rfl (pa_cons (pe_op op_mul pe_int (pv 3)) pa_nil))) pe_int)) pa_nil)))
      (pss_cons (ps_set (i := 2) scF.nd rfl (Or.inl rfl) (pe_op op_add (pe_op op_shr (pe_op op_mul (pe_fld (pv 0) rfl) (pe_g GH hr rfl (pa_cons (pe_op op_mul pe_int (pe_fld (pv 0) rfl)) pa_nil))) pe_int)
        (pe_op op_shr (pe_op op_mul (pe_fld (pv 0) rfl) (pe_g GH hr rfl (pa_cons (pe_op op_mul pe_int (pe_fld (pv 0) rfl)) pa_nil))) pe_int)))
      (pss_cons (ps_fld (pv 0) (pe_g GH hr rfl (pa_cons (pv 1) pa_nil)) rfl)
      (pss_one (ps_fld (pv 0) (pe_g GH hr rfl (pa_cons (pe_op op_add (pe_g GH hr rfl (pa_cons (pv 2) pa_nil)) (pe_fld (pv 0) rfl)) pa_nil)) rfl)))), ?_⟩
    refine ⟨_, rfl, p, C, dx, _, _, rfl, B.ob, T.cl, T.n_d, rfl, _, rfl, p, C, dx, _, _, rfl, B.ob, T.cl, T.n_b, rfl, dl, bl, _, _, rfl, SqL.of B.dl, SqL.of B.bl, fun D hD => ?_⟩
    refine lc_zz (SX := fun H xs => SqL K H dl xs) (SY := fun H xs => SqL K H bl xs) (fun di bi => bi * hld (2 * di) / 2 ^ 15) (fun H' s' => SqL.of (s' _ _ B.dl)) (fun H' s' => SqL.of (s' _ _ B.bl)) hD (by rw [B.ld]; exact small6) ?_ ?_
    · intro a b H' T' R hm hT hR
      exact ⟨T', _, rfl, SqT.of hT, rfl, _, _, rfl, _, _, rfl, rfl, rfl, _, rfl, _, rfl, _, _, rfl, rfl, .inl ⟨by decide, by decide⟩, _, rfl, _, _, rfl, rfl, .inr (hldB _), _, _, rfl, rfl, (by show (0 : Int) ≤ _; decide), hR⟩
    · intro H' s' hD'
      have B' := B.same s'
      refine ⟨D, _, rfl, SqL.of hD', ?_⟩
      refine ⟨_, rfl, p, C, dx, _, _, rfl, B'.ob, T.cl, T.n_a1, rfl, _, rfl, p, C, dx, _, _, rfl, B'.ob, T.cl, T.n_r1, rfl, _, _, rfl, rfl, .inl ⟨by decide, by decide⟩, _, rfl, _, _, rfl, rfl, .inr (hldB _), _, _, rfl, rfl, (by show (0 : Int) ≤ _; decide), _, rfl, p, C, dx, _, _, rfl, B'.ob, T.cl, T.n_a2, rfl, _, rfl, p, C, dx, _, _, rfl, B'.ob, T.cl, T.n_r2, rfl, _, _, rfl, rfl, .inl ⟨by decide, by decide⟩, _, rfl, _, _, rfl, rfl, .inr (hldB _), _, _, rfl, rfl, (by show (0 : Int) ≤ _; decide), _, _, rfl, rfl, ?_⟩
      refine ⟨_, rfl, _, rfl, _, rfl, p, C, dx, _, rfl, B'.ob, T.cl, T.n_sz, (by show 16 < 1000; decide), ?_⟩
      have ob1 : (upd H' p (.ins C dx (putF "sz" (V.int (hld (((x.d.zip x.b).map fun q => q.2 * hld (2 * q.1) / 2 ^ 15).sum))) (bf tb ga dl bl x)))) p = some (.ins C dx (bf tb ga dl bl { x with sz := ftSz x })) := upd_same
      refine ⟨_, rfl, _, rfl, _, rfl, p, C, dx, _, _, rfl, ob1, T.cl, T.n_sz, rfl, _, _, rfl, rfl, _, rfl, _, rfl, p, C, dx, _, rfl, ob1, T.cl, T.n_s, (by show 16 < 1000; decide), ?_⟩
      refine k _ ⟨dx, tb, ga, dl, bl, upd_same, B.tb, B.ga, ?_, ?_, B.ld, B.lb⟩ ?_
      · rw [upd_ne B.nd, upd_ne B.nd]
        exact B'.dl
      · rw [upd_ne B.nb, upd_ne B.nb]
        exact B'.bl
      · exact (Frm.of_same s').trans ((Frm.upd _).trans (Frm.upd _))
end
end TB
set_option maxHeartbeats 4000000
/-! go_on, move and __init__ of Band. -/
namespace TB
open PySem L2 TBR
theorem cut5 {xs : List Int} (h : xs.length = 6) : cutV (xs.map V.int) none (some 5) = (xs.take 5).map V.int := by
  match xs, h with
  | [_, _, _, _, _, _], _ => rfl
theorem fb_length {x : Bd} {d : Int} (h1 : x.d.length = 6) (h2 : x.b.length = 6) : (fb x d).length = 6 := by
  unfold fb
  rw [List.length_map, List.length_zip, h1, h2]
  rfl
section
variable {P : Program} {w : World} {K : PySem.W.Frag} {mg : Str → Option Value} {base : Heap} {f C : Addr} {fd : FuncData}
theorem scG : FnScope ["self", "d", "r0", "p0", "new_a2", "new_a1"] ["self", "d"] (defScope sGoOn) := ⟨rfl, rfl, rfl, by decide +kernel, rfl, by decide +kernel, by decide +kernel⟩
theorem ok_goOn (F : Fun K "go_on" "Band.go_on" sGoOn f fd) (T : BTx K C) (GH : GF P w K mg base 2 "held" ["number"] spHeld) (M2 : MF P w K mg base C 3 "following_a2" ["self", "p0"] (spA2 K C))
    (M1 : MF P w K mg base C 3 "following_a1" ["self", "p0", "new_a2"] (spA1 K C)) (MB : MF P w K mg base C 3 "following_b" ["self", "d"] (spB K C)) (MT : MF P w K mg base C 3 "foretell" ["self"] (spForetell K C)) :
    FnOk P w K mg base CX0 4 f fd ["self", "d"] (spGoOn K C) := by
  refine F.ok scG (fun vs H Q E h => ?_) (fun cdv A outer s H vs Q E hr h => ?_)
  · obtain ⟨p, x, d, rfl, _⟩ := h
    rfl
  · obtain ⟨p, x, d, rfl, ⟨dx, tb, ga, dl, bl, B⟩, k⟩ := h
    have hr2 : Room 2 _ := hr.mono (by decide)
    refine ⟨_, pss_cons (ps_set (i := 2) scG.nd rfl (Or.inl rfl) (pe_g GH hr2 rfl (pa_cons (pe_op op_add (pe_fld (pv 0) rfl) (pv 1)) pa_nil)))
      (pss_cons (ps_set (i := 3) scG.nd rfl (Or.inl rfl) (pe_g GH hr2 rfl (pa_cons (pe_op op_add (pe_fld (pv 0) rfl) (pv 1)) pa_nil)))
      (pss_cons (ps_set (i := 4) scG.nd rfl (Or.inl rfl) (pe_m (pv 0) T.cl M2 hr (pa_cons (pv 3) pa_nil)))
      (pss_cons (ps_set (i := 5) scG.nd rfl (Or.inl rfl) (pe_m (pv 0) T.cl M1 hr (pa_cons (pv 3) (pa_cons (pv 4) pa_nil))))
      (pss_cons (ps_fld (pv 0) (pe_m (pv 0) T.cl MB hr (pa_cons (pv 1) pa_nil)) rfl)
      (pss_cons (ps_fld (pv 0) (pe_op op_cat (pe_lst (pa_cons (pv 1) pa_nil)) (pe_slice sl_list (pe_fld (pv 0) rfl) po_none (po_some pe_int))) rfl)
      (pss_cons (ps_fld (pv 0) (pv 5) rfl)
      (pss_cons (ps_fld (pv 0) (pv 4) rfl)
      (pss_cons (ps_fld (pv 0) (pe_fld (pv 0) rfl) rfl)
      (pss_cons (ps_fld (pv 0) (pv 2) rfl)
      (pss_cons (ps_fld (pv 0) (pe_fld (pv 0) rfl) rfl)
      (pss_cons (ps_fld (pv 0) (pv 3) rfl)
      (pss_one (ps_expr (pe_m0 (pv 0) T.cl MT hr)))))))))))))), ?_⟩
    have BA : BandAt K C H p x := ⟨dx, tb, ga, dl, bl, B⟩
    -- r0, p0, new_a2, new_a1
    refine ⟨_, rfl, p, C, dx, _, _, rfl, B.ob, T.cl, T.n_s, rfl, _, rfl, _, _, rfl, rfl, _, rfl, ?_⟩
    refine ⟨_, rfl, p, C, dx, _, _, rfl, B.ob, T.cl, T.n_sz, rfl, _, rfl, _, _, rfl, rfl, _, rfl, ?_⟩
    refine ⟨_, rfl, p, dx, _, rfl, B.ob, rfl, _, rfl, p, x, _, rfl, BA, ?_⟩
    refine ⟨_, rfl, p, dx, _, rfl, B.ob, rfl, _, rfl, _, rfl, p, x, _, _, rfl, BA, ?_⟩
    -- self.b
    refine ⟨_, rfl, p, dx, _, rfl, B.ob, rfl, _, rfl, p, x, _, rfl, BA, fun l H1 s1 nl hl => ?_⟩
    have ob1 := s1 _ _ B.ob
    have nlp : l ≠ p := ne_of hl ob1 (by intro z; cases z)
    refine ⟨_, rfl, p, C, dx, _, rfl, ob1, T.cl, T.n_b, (by show 16 < 1000; decide), ?_⟩
    -- self.d
    refine ⟨_, rfl, (by show 1 ≤ sizeLine; decide), fun l1 n1 => ?_⟩
    have ob2 : (upd H1 p (.ins C dx (putF "b" (V.ref l) (bf tb ga dl bl x)))) p = some (.ins C dx (bf tb ga dl l x)) := upd_same
    have p1 : p ≠ l1 := ne_of_none ob2 n1
    have ob3 := (upd_ne (o := HO.lst [V.int d]) p1).trans ob2
    have d2 : (upd H1 p (.ins C dx (putF "b" (V.ref l) (bf tb ga dl bl x)))) dl = some (.lst (x.d.map V.int)) := by rw [upd_ne B.nd]; exact s1 _ _ B.dl
    have b2 : (upd H1 p (.ins C dx (putF "b" (V.ref l) (bf tb ga dl bl x)))) l = some (.lst ((fb x d).map V.int)) := by rw [upd_ne nlp]; exact hl
    have fr2 : Frm p H (upd H1 p (.ins C dx (putF "b" (V.ref l) (bf tb ga dl bl x)))) := (Frm.of_same s1).trans (Frm.upd _)
    generalize upd H1 p (.ins C dx (putF "b" (V.ref l) (bf tb ga dl bl x))) = H2 at n1 ob2 ob3 d2 b2 fr2 ⊢
    have s3 : Same H2 (upd H2 l1 (.lst [V.int d])) := same_new n1
    refine ⟨_, rfl, p, C, dx, _, _, rfl, ob3, T.cl, T.n_d, rfl, _, rfl, dl, _, rfl, SqL.of (s3 _ _ d2), fun l2 n2 => ?_⟩
    have s4 : Same (upd H2 l1 (.lst [V.int d])) (upd (upd H2 l1 (.lst [V.int d])) l2 (.lst (cutV (x.d.map V.int) none (some 5)))) := same_new n2
    refine ⟨l1, l2, _, _, rfl, rfl, s4 _ _ upd_same, upd_same, ?_, fun l3 n3 => ?_⟩
    · rw [cut5 B.ld, List.length_map, List.length_take, B.ld]
      show 1 + min 5 6 ≤ sizeLine
      decide
    have s5 : Same (upd (upd H2 l1 (.lst [V.int d])) l2 (.lst (cutV (x.d.map V.int) none (some 5)))) (upd (upd (upd H2 l1 (.lst [V.int d])) l2 (.lst (cutV (x.d.map V.int) none (some 5)))) l3 (.lst ([V.int d] ++ cutV (x.d.map V.int) none (some 5)))) := same_new n3
    have d5 : (upd (upd (upd H2 l1 (.lst [V.int d])) l2 (.lst (cutV (x.d.map V.int) none (some 5)))) l3 (.lst ([V.int d] ++ cutV (x.d.map V.int) none (some 5)))) l3 = some (.lst ((d :: x.d.take 5).map V.int)) := by
      rw [upd_same, cut5 B.ld]
      rfl
    have s25 := (s3.trans s4).trans s5
    generalize upd (upd (upd H2 l1 (.lst [V.int d])) l2 (.lst (cutV (x.d.map V.int) none (some 5)))) l3 (.lst ([V.int d] ++ cutV (x.d.map V.int) none (some 5))) = H5 at d5 s25 s5 ⊢
    have ob5 := s25 _ _ ob2
    have b5 := s25 _ _ b2
    have fr5 := fr2.trans (Frm.of_same s25)
    have n3p : l3 ≠ p := ne_of d5 ob5 (by intro z; cases z)
    refine ⟨_, rfl, p, C, dx, _, rfl, ob5, T.cl, T.n_d, (by show 16 < 1000; decide), ?_⟩
    have ob6 : (upd H5 p (.ins C dx (putF "d" (V.ref l3) (bf tb ga dl l x)))) p = some (.ins C dx (bf tb ga l3 l x)) := upd_same
    have fr6 : Frm p H5 (upd H5 p (.ins C dx (putF "d" (V.ref l3) (bf tb ga dl l x)))) := Frm.upd _
    generalize upd H5 p (.ins C dx (putF "d" (V.ref l3) (bf tb ga dl l x))) = H6 at ob6 fr6 ⊢
    have key : ∀ (y : Bd) (H7 : Hp), H7 p = some (.ins C dx (bf tb ga l3 l y)) → Frm p H6 H7 → y.hi = x.hi → y.d = d :: x.d.take 5 → y.b = fb x d → BandAt K C H7 p y := fun y H7 o7 f7 eh ed eb =>
      ⟨dx, tb, ga, l3, l, o7, by rw [eh]; exact B.tb, by rw [eh]; exact B.ga, by rw [ed]; exact f7 _ _ (fr6 _ _ d5 n3p) n3p, by rw [eb]; exact f7 _ _ (fr6 _ _ b5 nlp) nlp, by rw [ed, List.length_cons, List.length_take, B.ld]; rfl, by rw [eb]; exact fb_length B.ld B.lb⟩
    -- a1, a2, r2, r1, p2, p1
    refine ⟨_, rfl, _, rfl, p, C, dx, _, rfl, ob6, T.cl, T.n_a1, (by show 16 < 1000; decide), ?_⟩
    have ob7 : (upd H6 p (.ins C dx (putF "a1" (V.int (fa1 x (hld (x.sz + d)) (fa2 x (hld (x.sz + d))))) (bf tb ga l3 l x)))) p = some (.ins C dx (bf tb ga l3 l { x with a1 := fa1 x (hld (x.sz + d)) (fa2 x (hld (x.sz + d))) })) := upd_same
    have fr7 : Frm p H6 (upd H6 p (.ins C dx (putF "a1" (V.int (fa1 x (hld (x.sz + d)) (fa2 x (hld (x.sz + d))))) (bf tb ga l3 l x)))) := Frm.upd _
    generalize upd H6 p (.ins C dx (putF "a1" (V.int (fa1 x (hld (x.sz + d)) (fa2 x (hld (x.sz + d))))) (bf tb ga l3 l x))) = H7 at ob7 fr7 ⊢
    refine ⟨_, rfl, _, rfl, p, C, dx, _, rfl, ob7, T.cl, T.n_a2, (by show 16 < 1000; decide), ?_⟩
    generalize ey8 : ({ x with a1 := fa1 x (hld (x.sz + d)) (fa2 x (hld (x.sz + d))) } : Bd) = y7 at ob7 ⊢
    have ob8 : (upd H7 p (.ins C dx (putF "a2" (V.int (fa2 x (hld (x.sz + d)))) (bf tb ga l3 l y7)))) p = some (.ins C dx (bf tb ga l3 l { y7 with a2 := fa2 x (hld (x.sz + d)) })) := upd_same
    have fr8 := fr7.trans (Frm.upd (p := p) (H := H7) (.ins C dx (putF "a2" (V.int (fa2 x (hld (x.sz + d)))) (bf tb ga l3 l y7))))
    generalize upd H7 p (.ins C dx (putF "a2" (V.int (fa2 x (hld (x.sz + d)))) (bf tb ga l3 l y7))) = H8 at ob8 fr8 ⊢
    refine ⟨_, rfl, p, C, dx, _, _, rfl, ob8, T.cl, T.n_r1, rfl, _, rfl, p, C, dx, _, rfl, ob8, T.cl, T.n_r2, (by show 16 < 1000; decide), ?_⟩
    have ob9 : (upd H8 p (.ins C dx (putF "r2" (V.int y7.r1) (bf tb ga l3 l { y7 with a2 := fa2 x (hld (x.sz + d)) })))) p = some (.ins C dx (bf tb ga l3 l { y7 with a2 := fa2 x (hld (x.sz + d)), r2 := y7.r1 })) := upd_same
    have fr9 := fr8.trans (Frm.upd (p := p) (H := H8) (.ins C dx (putF "r2" (V.int y7.r1) (bf tb ga l3 l { y7 with a2 := fa2 x (hld (x.sz + d)) }))))
    generalize upd H8 p (.ins C dx (putF "r2" (V.int y7.r1) (bf tb ga l3 l { y7 with a2 := fa2 x (hld (x.sz + d)) }))) = H9 at ob9 fr9 ⊢
    generalize ey10 : ({ y7 with a2 := fa2 x (hld (x.sz + d)), r2 := y7.r1 } : Bd) = y9 at ob9 ⊢
    refine ⟨_, rfl, _, rfl, p, C, dx, _, rfl, ob9, T.cl, T.n_r1, (by show 16 < 1000; decide), ?_⟩
    have ob10 : (upd H9 p (.ins C dx (putF "r1" (V.int (hld (x.s + d))) (bf tb ga l3 l y9)))) p = some (.ins C dx (bf tb ga l3 l { y9 with r1 := hld (x.s + d) })) := upd_same
    have fr10 := fr9.trans (Frm.upd (p := p) (H := H9) (.ins C dx (putF "r1" (V.int (hld (x.s + d))) (bf tb ga l3 l y9))))
    generalize upd H9 p (.ins C dx (putF "r1" (V.int (hld (x.s + d))) (bf tb ga l3 l y9))) = H10 at ob10 fr10 ⊢
    refine ⟨_, rfl, p, C, dx, _, _, rfl, ob10, T.cl, T.n_p1, rfl, _, rfl, p, C, dx, _, rfl, ob10, T.cl, T.n_p2, (by show 16 < 1000; decide), ?_⟩
    have ob11 : (upd H10 p (.ins C dx (putF "p2" (V.int y9.p1) (bf tb ga l3 l { y9 with r1 := hld (x.s + d) })))) p = some (.ins C dx (bf tb ga l3 l { y9 with r1 := hld (x.s + d), p2 := y9.p1 })) := upd_same
    have fr11 := fr10.trans (Frm.upd (p := p) (H := H10) (.ins C dx (putF "p2" (V.int y9.p1) (bf tb ga l3 l { y9 with r1 := hld (x.s + d) }))))
    generalize upd H10 p (.ins C dx (putF "p2" (V.int y9.p1) (bf tb ga l3 l { y9 with r1 := hld (x.s + d) }))) = H11 at ob11 fr11 ⊢
    generalize ey12 : ({ y9 with r1 := hld (x.s + d), p2 := y9.p1 } : Bd) = y11 at ob11 ⊢
    refine ⟨_, rfl, _, rfl, p, C, dx, _, rfl, ob11, T.cl, T.n_p1, (by show 16 < 1000; decide), ?_⟩
    have ob12 : (upd H11 p (.ins C dx (putF "p1" (V.int (hld (x.sz + d))) (bf tb ga l3 l y11)))) p = some (.ins C dx (bf tb ga l3 l { y11 with p1 := hld (x.sz + d) })) := upd_same
    have fr12 := fr11.trans (Frm.upd (p := p) (H := H11) (.ins C dx (putF "p1" (V.int (hld (x.sz + d))) (bf tb ga l3 l y11))))
    generalize upd H11 p (.ins C dx (putF "p1" (V.int (hld (x.sz + d))) (bf tb ga l3 l y11))) = H12 at ob12 fr12 ⊢
    have eg : bf tb ga l3 l { y11 with p1 := hld (x.sz + d) } = bf tb ga l3 l (gon0 x d) := by
      subst ey12
      subst ey10
      subst ey8
      rfl
    rw [eg] at ob12
    have BA12 : BandAt K C H12 p (gon0 x d) := key (gon0 x d) H12 ob12 fr12 rfl rfl rfl
    refine ⟨_, rfl, p, dx, _, rfl, ob12, rfl, p, gon0 x d, rfl, BA12, fun H13 B13 f13 => ?_⟩
    exact k H13 B13 (((fr5.trans fr6).trans fr12).trans f13)
theorem scM : FnScope ["self", "code", "d"] ["self", "code"] (defScope sMove) := ⟨rfl, rfl, rfl, by decide +kernel, rfl, by decide +kernel, by decide +kernel⟩
theorem tab_small (hi : Bool) (c : Nat) : -(2 ^ 64) < (tabl hi).getD c 0 ∧ (tabl hi).getD c 0 < 2 ^ 64 := by
  cases hi with
  | true => exact getD_all (q := fun v => -(2 ^ 64) < v ∧ v < 2 ^ 64) Sa69.M2 (by decide) (by decide) c
  | false => exact getD_all (q := fun v => -(2 ^ 64) < v ∧ v < 2 ^ 64) Sa69.M4 (by decide) (by decide) c
theorem gain_len (hi : Bool) : (gain hi).length = (tabl hi).length := by cases hi <;> rfl
theorem shf_is (hi : Bool) : shf hi = 8 ∨ shf hi = 10 := by cases hi <;> simp [shf]
theorem ok_move (F : Fun K "move" "Band.move" sMove f fd) (T : BTx K C) (GB : GF P w K mg base 1 "between" pB3 spBetween) (GW : GF P w K mg base 1 "width" ["n", "shift"] spWidth) (MG : MF P w K mg base C 4 "go_on" ["self", "d"] (spGoOn K C)) :
    FnOk P w K mg base CX0 5 f fd ["self", "code"] (spMove K C) := by
  refine F.ok scM (fun vs H Q E h => ?_) (fun cdv A outer s H vs Q E hr h => ?_)
  · obtain ⟨p, x, c, z, rfl, _⟩ := h
    rfl
  · obtain ⟨p, x, c, z, rfl, rfl, ⟨dx, tb, ga, dl, bl, B⟩, hc, k⟩ := h
    have hr1 : Room 1 _ := hr.mono (by decide)
    have hg : c < (gain x.hi).length := by rw [gain_len]; exact hc
    refine ⟨_, pss_cons (ps_set (i := 2) scM.nd rfl (Or.inl rfl) (pe_op op_shr (pe_op op_mul (pe_fld (pv 0) rfl) (pe_ix ix_tup (pe_fld (pv 0) rfl) (pv 1) (fun _ _ => rfl))) pe_int))
      (pss_cons (ps_fld (pv 0) (pe_g GB hr1 rfl (pa_cons pe_int (pa_cons (pe_op op_add (pe_op op_shr (pe_op op_mul (pe_fld (pv 0) rfl) pe_int) pe_int) (pe_ix ix_tup (pe_fld (pv 0) rfl) (pv 1) (fun _ _ => rfl))) (pa_cons (pe_fld (pv 0) rfl) pa_nil)))) rfl)
      (pss_cons (ps_fld (pv 0) (pe_g GW hr1 rfl (pa_cons (pe_fld (pv 0) rfl) (pa_cons (pe_fld (pv 0) rfl) pa_nil))) rfl)
      (pss_one (ps_expr (pe_m (pv 0) T.cl MG hr (pa_cons (pv 2) pa_nil)))))), ?_⟩
    refine ⟨_, rfl, p, C, dx, _, _, rfl, B.ob, T.cl, T.n_t, rfl, _, rfl, p, C, dx, _, _, rfl, B.ob, T.cl, T.n_table, rfl, _, rfl, tb, _, _, _, rfl, rfl, B.tb H, atI_nat (tabAt _ hc), _, _, rfl, rfl, .inr (tab_small _ _), _, _, rfl, rfl, (by show (0 : Int) ≤ _; decide), ?_⟩
    refine ⟨_, rfl, p, C, dx, _, _, rfl, B.ob, T.cl, T.n_n, rfl, _, _, rfl, rfl, .inr ⟨by decide, by decide⟩, _, _, rfl, rfl, (by show (0 : Int) ≤ _; decide), _, rfl, p, C, dx, _, _, rfl, B.ob, T.cl, T.n_gains, rfl, _, rfl, ga, _, _, _, rfl, rfl, B.ga H, atI_nat (tabAt _ hg), _, _, rfl, rfl, _, rfl, p, C, dx, _, _, rfl, B.ob, T.cl, T.n_most, rfl, _, _, _, rfl, _, rfl, p, C, dx, _, rfl, B.ob, T.cl, T.n_n, (by show 16 < 1000; decide), ?_⟩
    have hn := btw_range (x.n * 127 / 2 ^ 7 + (gain x.hi).getD c 0) (most_nn x.hi).1
    have hm := (most_nn x.hi).2
    have ob1 : (upd H p (.ins C dx (putF "n" (V.int (btw 0 (x.n * 127 / 2 ^ (7 : Int).toNat + (gain x.hi).getD c 0) (most x.hi))) (bf tb ga dl bl x)))) p = some (.ins C dx (bf tb ga dl bl { x with n := btw 0 (x.n * 127 / 2 ^ 7 + (gain x.hi).getD c 0) (most x.hi) })) := upd_same
    have fr1 := Frm.upd (p := p) (H := H) (.ins C dx (putF "n" (V.int (btw 0 (x.n * 127 / 2 ^ (7 : Int).toNat + (gain x.hi).getD c 0) (most x.hi))) (bf tb ga dl bl x)))
    generalize upd H p (.ins C dx (putF "n" (V.int (btw 0 (x.n * 127 / 2 ^ (7 : Int).toNat + (gain x.hi).getD c 0) (most x.hi))) (bf tb ga dl bl x))) = H1 at ob1 fr1 ⊢
    refine ⟨_, rfl, p, C, dx, _, _, rfl, ob1, T.cl, T.n_n, rfl, _, rfl, p, C, dx, _, _, rfl, ob1, T.cl, T.n_shift, rfl, _, _, rfl, hn.1, Int.le_trans hn.2 hm, shf_is _, _, rfl, p, C, dx, _, rfl, ob1, T.cl, T.n_t, (by show 16 < 1000; decide), ?_⟩
    have ob2 : (upd H1 p (.ins C dx (putF "t" (V.int (wid (btw 0 (x.n * 127 / 2 ^ 7 + (gain x.hi).getD c 0) (most x.hi)) (shf x.hi))) (bf tb ga dl bl { x with n := btw 0 (x.n * 127 / 2 ^ 7 + (gain x.hi).getD c 0) (most x.hi) })))) p
        = some (.ins C dx (bf tb ga dl bl (scl x ((gain x.hi).getD c 0)))) := upd_same
    have fr2 := fr1.trans (Frm.upd (p := p) (H := H1) (.ins C dx (putF "t" (V.int (wid (btw 0 (x.n * 127 / 2 ^ 7 + (gain x.hi).getD c 0) (most x.hi)) (shf x.hi))) (bf tb ga dl bl { x with n := btw 0 (x.n * 127 / 2 ^ 7 + (gain x.hi).getD c 0) (most x.hi) }))))
    generalize upd H1 p (.ins C dx (putF "t" (V.int (wid (btw 0 (x.n * 127 / 2 ^ 7 + (gain x.hi).getD c 0) (most x.hi)) (shf x.hi))) (bf tb ga dl bl { x with n := btw 0 (x.n * 127 / 2 ^ 7 + (gain x.hi).getD c 0) (most x.hi) }))) = H2 at ob2 fr2 ⊢
    have B2 : BandAt K C H2 p (scl x ((gain x.hi).getD c 0)) := ⟨dx, tb, ga, dl, bl, ob2, B.tb, B.ga, fr2 _ _ B.dl B.nd, fr2 _ _ B.bl B.nb, B.ld, B.lb⟩
    refine ⟨_, rfl, p, dx, _, rfl, ob2, rfl, _, rfl, p, scl x ((gain x.hi).getD c 0), _, rfl, B2, fun H3 B3 fr3 => ?_⟩
    exact k H3 B3 (fr2.trans fr3)

/-- the first fourteen attributes of a new band -/
def bh (tb ga : Addr) (hi : Bool) : List (Str × V) :=
  [("table", .ref tb), ("gains", .ref ga), ("most", .int (most hi)), ("shift", .int (shf hi)), ("s", .int 0), ("sz", .int 0), ("n", .int 0), ("t", .int (wid 0 (shf hi))), ("r1", .int 0), ("r2", .int 0), ("p1", .int 0), ("p2", .int 0), ("a1", .int 0), ("a2", .int 0)]
theorem scBI : FnScope ["self", "table", "gains", "most", "shift"] ["self", "table", "gains", "most", "shift"] (defScope sBandInit) := ⟨rfl, rfl, rfl, by decide +kernel, rfl, by decide +kernel, by decide +kernel⟩
theorem ok_bandInit (F : Fun K "__init__" "Band.__init__" sBandInit f fd) (T : BTx K C) (GW : GF P w K mg base 1 "width" ["n", "shift"] spWidth) : FnOk P w K mg base CX0 2 f fd ["self", "table", "gains", "most", "shift"] (spBandInit K C) := by
  refine F.ok scBI (fun vs H Q E h => ?_) (fun cdv A outer s H vs Q E hr h => ?_)
  · obtain ⟨p, dx, tb, ga, hi, rfl, _⟩ := h
    rfl
  · obtain ⟨p, dx, tb, ga, hi, rfl, hp, tT, tG, k⟩ := h
    refine ⟨_, pss_cons (ps_fld (pv 0) (pv 1) rfl)
      (pss_cons (ps_fld (pv 0) (pv 2) rfl)
      (pss_cons (ps_fld (pv 0) (pv 3) rfl)
      (pss_cons (ps_fld (pv 0) (pv 4) rfl)
      (pss_cons (ps_fld (pv 0) pe_int rfl)
      (pss_cons (ps_fld (pv 0) pe_int rfl)
      (pss_cons (ps_fld (pv 0) pe_int rfl)
      (pss_cons (ps_fld (pv 0) (pe_g GW hr rfl (pa_cons pe_int (pa_cons (pv 4) pa_nil))) rfl)
      (pss_cons (ps_fld (pv 0) pe_int rfl)
      (pss_cons (ps_fld (pv 0) pe_int rfl)
      (pss_cons (ps_fld (pv 0) pe_int rfl)
      (pss_cons (ps_fld (pv 0) pe_int rfl)
      (pss_cons (ps_fld (pv 0) pe_int rfl)
      (pss_cons (ps_fld (pv 0) pe_int rfl)
      (pss_cons (ps_fld (pv 0) (pe_lst (pa_cons pe_int (pa_cons pe_int (pa_cons pe_int (pa_cons pe_int (pa_cons pe_int (pa_cons pe_int pa_nil))))))) rfl)
      (pss_one (ps_fld (pv 0) (pe_lst (pa_cons pe_int (pa_cons pe_int (pa_cons pe_int (pa_cons pe_int (pa_cons pe_int (pa_cons pe_int pa_nil))))))) rfl)))))))))))))))), ?_⟩
    have ob0 : H p = some (.ins C dx ((bh tb ga hi).take 0)) := hp
    have fr0 : Frm p H H := fun _ _ e _ => e
    refine ⟨_, rfl, _, rfl, p, C, dx, (bh tb ga hi).take 0, rfl, ob0, T.cl, T.n_table, (by show 0 < 1000; decide), ?_⟩
    have ob1 : (upd H p (.ins C dx (putF "table" (V.ref tb) ((bh tb ga hi).take 0)))) p = some (.ins C dx ((bh tb ga hi).take 1)) := upd_same
    have fr1 := fr0.trans (Frm.upd (p := p) (H := H) (.ins C dx (putF "table" (V.ref tb) ((bh tb ga hi).take 0))))
    generalize upd H p (.ins C dx (putF "table" (V.ref tb) ((bh tb ga hi).take 0))) = H1 at ob1 fr1 ⊢
    refine ⟨_, rfl, _, rfl, p, C, dx, (bh tb ga hi).take 1, rfl, ob1, T.cl, T.n_gains, (by show 1 < 1000; decide), ?_⟩
    have ob2 : (upd H1 p (.ins C dx (putF "gains" (V.ref ga) ((bh tb ga hi).take 1)))) p = some (.ins C dx ((bh tb ga hi).take 2)) := upd_same
    have fr2 := fr1.trans (Frm.upd (p := p) (H := H1) (.ins C dx (putF "gains" (V.ref ga) ((bh tb ga hi).take 1))))
    generalize upd H1 p (.ins C dx (putF "gains" (V.ref ga) ((bh tb ga hi).take 1))) = H2 at ob2 fr2 ⊢
    refine ⟨_, rfl, _, rfl, p, C, dx, (bh tb ga hi).take 2, rfl, ob2, T.cl, T.n_most, (by show 2 < 1000; decide), ?_⟩
    have ob3 : (upd H2 p (.ins C dx (putF "most" (V.int (most hi)) ((bh tb ga hi).take 2)))) p = some (.ins C dx ((bh tb ga hi).take 3)) := upd_same
    have fr3 := fr2.trans (Frm.upd (p := p) (H := H2) (.ins C dx (putF "most" (V.int (most hi)) ((bh tb ga hi).take 2))))
    generalize upd H2 p (.ins C dx (putF "most" (V.int (most hi)) ((bh tb ga hi).take 2))) = H3 at ob3 fr3 ⊢
    refine ⟨_, rfl, _, rfl, p, C, dx, (bh tb ga hi).take 3, rfl, ob3, T.cl, T.n_shift, (by show 3 < 1000; decide), ?_⟩
    have ob4 : (upd H3 p (.ins C dx (putF "shift" (V.int (shf hi)) ((bh tb ga hi).take 3)))) p = some (.ins C dx ((bh tb ga hi).take 4)) := upd_same
    have fr4 := fr3.trans (Frm.upd (p := p) (H := H3) (.ins C dx (putF "shift" (V.int (shf hi)) ((bh tb ga hi).take 3))))
    generalize upd H3 p (.ins C dx (putF "shift" (V.int (shf hi)) ((bh tb ga hi).take 3))) = H4 at ob4 fr4 ⊢
    refine ⟨_, rfl, p, C, dx, (bh tb ga hi).take 4, rfl, ob4, T.cl, T.n_s, (by show 4 < 1000; decide), ?_⟩
    have ob5 : (upd H4 p (.ins C dx (putF "s" (V.int 0) ((bh tb ga hi).take 4)))) p = some (.ins C dx ((bh tb ga hi).take 5)) := upd_same
    have fr5 := fr4.trans (Frm.upd (p := p) (H := H4) (.ins C dx (putF "s" (V.int 0) ((bh tb ga hi).take 4))))
    generalize upd H4 p (.ins C dx (putF "s" (V.int 0) ((bh tb ga hi).take 4))) = H5 at ob5 fr5 ⊢
    refine ⟨_, rfl, p, C, dx, (bh tb ga hi).take 5, rfl, ob5, T.cl, T.n_sz, (by show 5 < 1000; decide), ?_⟩
    have ob6 : (upd H5 p (.ins C dx (putF "sz" (V.int 0) ((bh tb ga hi).take 5)))) p = some (.ins C dx ((bh tb ga hi).take 6)) := upd_same
    have fr6 := fr5.trans (Frm.upd (p := p) (H := H5) (.ins C dx (putF "sz" (V.int 0) ((bh tb ga hi).take 5))))
    generalize upd H5 p (.ins C dx (putF "sz" (V.int 0) ((bh tb ga hi).take 5))) = H6 at ob6 fr6 ⊢
    refine ⟨_, rfl, p, C, dx, (bh tb ga hi).take 6, rfl, ob6, T.cl, T.n_n, (by show 6 < 1000; decide), ?_⟩
    have ob7 : (upd H6 p (.ins C dx (putF "n" (V.int 0) ((bh tb ga hi).take 6)))) p = some (.ins C dx ((bh tb ga hi).take 7)) := upd_same
    have fr7 := fr6.trans (Frm.upd (p := p) (H := H6) (.ins C dx (putF "n" (V.int 0) ((bh tb ga hi).take 6))))
    generalize upd H6 p (.ins C dx (putF "n" (V.int 0) ((bh tb ga hi).take 6))) = H7 at ob7 fr7 ⊢
    refine ⟨_, rfl, _, _, rfl, (by decide), (by decide), shf_is _, _, rfl, p, C, dx, (bh tb ga hi).take 7, rfl, ob7, T.cl, T.n_t, (by show 7 < 1000; decide), ?_⟩
    have ob8 : (upd H7 p (.ins C dx (putF "t" (V.int (wid 0 (shf hi))) ((bh tb ga hi).take 7)))) p = some (.ins C dx ((bh tb ga hi).take 8)) := upd_same
    have fr8 := fr7.trans (Frm.upd (p := p) (H := H7) (.ins C dx (putF "t" (V.int (wid 0 (shf hi))) ((bh tb ga hi).take 7))))
    generalize upd H7 p (.ins C dx (putF "t" (V.int (wid 0 (shf hi))) ((bh tb ga hi).take 7))) = H8 at ob8 fr8 ⊢
    refine ⟨_, rfl, p, C, dx, (bh tb ga hi).take 8, rfl, ob8, T.cl, T.n_r1, (by show 8 < 1000; decide), ?_⟩
    have ob9 : (upd H8 p (.ins C dx (putF "r1" (V.int 0) ((bh tb ga hi).take 8)))) p = some (.ins C dx ((bh tb ga hi).take 9)) := upd_same
    have fr9 := fr8.trans (Frm.upd (p := p) (H := H8) (.ins C dx (putF "r1" (V.int 0) ((bh tb ga hi).take 8))))
    generalize upd H8 p (.ins C dx (putF "r1" (V.int 0) ((bh tb ga hi).take 8))) = H9 at ob9 fr9 ⊢
    refine ⟨_, rfl, p, C, dx, (bh tb ga hi).take 9, rfl, ob9, T.cl, T.n_r2, (by show 9 < 1000; decide), ?_⟩
    have ob10 : (upd H9 p (.ins C dx (putF "r2" (V.int 0) ((bh tb ga hi).take 9)))) p = some (.ins C dx ((bh tb ga hi).take 10)) := upd_same
    have fr10 := fr9.trans (Frm.upd (p := p) (H := H9) (.ins C dx (putF "r2" (V.int 0) ((bh tb ga hi).take 9))))
    generalize upd H9 p (.ins C dx (putF "r2" (V.int 0) ((bh tb ga hi).take 9))) = H10 at ob10 fr10 ⊢
    refine ⟨_, rfl, p, C, dx, (bh tb ga hi).take 10, rfl, ob10, T.cl, T.n_p1, (by show 10 < 1000; decide), ?_⟩
    have ob11 : (upd H10 p (.ins C dx (putF "p1" (V.int 0) ((bh tb ga hi).take 10)))) p = some (.ins C dx ((bh tb ga hi).take 11)) := upd_same
    have fr11 := fr10.trans (Frm.upd (p := p) (H := H10) (.ins C dx (putF "p1" (V.int 0) ((bh tb ga hi).take 10))))
    generalize upd H10 p (.ins C dx (putF "p1" (V.int 0) ((bh tb ga hi).take 10))) = H11 at ob11 fr11 ⊢
    refine ⟨_, rfl, p, C, dx, (bh tb ga hi).take 11, rfl, ob11, T.cl, T.n_p2, (by show 11 < 1000; decide), ?_⟩
    have ob12 : (upd H11 p (.ins C dx (putF "p2" (V.int 0) ((bh tb ga hi).take 11)))) p = some (.ins C dx ((bh tb ga hi).take 12)) := upd_same
    have fr12 := fr11.trans (Frm.upd (p := p) (H := H11) (.ins C dx (putF "p2" (V.int 0) ((bh tb ga hi).take 11))))
    generalize upd H11 p (.ins C dx (putF "p2" (V.int 0) ((bh tb ga hi).take 11))) = H12 at ob12 fr12 ⊢
    refine ⟨_, rfl, p, C, dx, (bh tb ga hi).take 12, rfl, ob12, T.cl, T.n_a1, (by show 12 < 1000; decide), ?_⟩
    have ob13 : (upd H12 p (.ins C dx (putF "a1" (V.int 0) ((bh tb ga hi).take 12)))) p = some (.ins C dx ((bh tb ga hi).take 13)) := upd_same
    have fr13 := fr12.trans (Frm.upd (p := p) (H := H12) (.ins C dx (putF "a1" (V.int 0) ((bh tb ga hi).take 12))))
    generalize upd H12 p (.ins C dx (putF "a1" (V.int 0) ((bh tb ga hi).take 12))) = H13 at ob13 fr13 ⊢
    refine ⟨_, rfl, p, C, dx, (bh tb ga hi).take 13, rfl, ob13, T.cl, T.n_a2, (by show 13 < 1000; decide), ?_⟩
    have ob14 : (upd H13 p (.ins C dx (putF "a2" (V.int 0) ((bh tb ga hi).take 13)))) p = some (.ins C dx ((bh tb ga hi).take 14)) := upd_same
    have fr14 := fr13.trans (Frm.upd (p := p) (H := H13) (.ins C dx (putF "a2" (V.int 0) ((bh tb ga hi).take 13))))
    generalize upd H13 p (.ins C dx (putF "a2" (V.int 0) ((bh tb ga hi).take 13))) = H14 at ob14 fr14 ⊢
    refine ⟨(by show 6 ≤ sizeLine; decide), fun l1 n1 => ?_⟩
    have p1 : p ≠ l1 := ne_of_none ob14 n1
    have s15 : Same H14 (upd H14 l1 (.lst [V.int 0, V.int 0, V.int 0, V.int 0, V.int 0, V.int 0])) := same_new n1
    have d15 : (upd H14 l1 (.lst [V.int 0, V.int 0, V.int 0, V.int 0, V.int 0, V.int 0])) l1 = some (.lst (([0, 0, 0, 0, 0, 0] : List Int).map V.int)) := upd_same
    generalize upd H14 l1 (.lst [V.int 0, V.int 0, V.int 0, V.int 0, V.int 0, V.int 0]) = H15 at s15 d15 ⊢
    have ob15 : H15 p = some (.ins C dx (bh tb ga hi)) := s15 _ _ ob14
    refine ⟨_, rfl, p, C, dx, bh tb ga hi, rfl, ob15, T.cl, T.n_d, (by show 14 < 1000; decide), ?_⟩
    have ob16 : (upd H15 p (.ins C dx (putF "d" (V.ref l1) (bh tb ga hi)))) p = some (.ins C dx (bh tb ga hi ++ ([("d", V.ref l1)] : List (Str × V)))) := upd_same
    have fr16 := Frm.upd (p := p) (H := H15) (.ins C dx (putF "d" (V.ref l1) (bh tb ga hi)))
    generalize upd H15 p (.ins C dx (putF "d" (V.ref l1) (bh tb ga hi))) = H16 at ob16 fr16 ⊢
    refine ⟨(by show 6 ≤ sizeLine; decide), fun l2 n2 => ?_⟩
    have p2 : p ≠ l2 := ne_of_none ob16 n2
    have s17 : Same H16 (upd H16 l2 (.lst [V.int 0, V.int 0, V.int 0, V.int 0, V.int 0, V.int 0])) := same_new n2
    have d17 : (upd H16 l2 (.lst [V.int 0, V.int 0, V.int 0, V.int 0, V.int 0, V.int 0])) l2 = some (.lst (([0, 0, 0, 0, 0, 0] : List Int).map V.int)) := upd_same
    generalize upd H16 l2 (.lst [V.int 0, V.int 0, V.int 0, V.int 0, V.int 0, V.int 0]) = H17 at s17 d17 ⊢
    have ob17 := s17 _ _ ob16
    refine ⟨_, rfl, p, C, dx, bh tb ga hi ++ ([("d", V.ref l1)] : List (Str × V)), rfl, ob17, T.cl, T.n_b, (by show 15 < 1000; decide), ?_⟩
    have fr18 := Frm.upd (p := p) (H := H17) (.ins C dx (putF "b" (V.ref l2) (bh tb ga hi ++ ([("d", V.ref l1)] : List (Str × V)))))
    refine k _ ⟨dx, tb, ga, l1, l2, upd_same, tT, tG, fr18 _ _ (s17 _ _ (fr16 _ _ d15 p1.symm)) p1.symm, fr18 _ _ d17 p2.symm, rfl, rfl⟩ ?_
    exact (((fr14.trans (Frm.of_same s15)).trans fr16).trans (Frm.of_same s17)).trans fr18
end
end TB
set_option maxHeartbeats 4000000
/-! End's methods; the rung, the bits, a band's value, the tables. -/
namespace TB
open PySem L2 TBR
structure ETx (K : PySem.W.Frag) (D : Addr) : Prop where
  cl : Cls K D
  n_low : NoAttr K D "low"
  n_high : NoAttr K D "high"
  n_x : NoAttr K D "x"
def spTake (K : PySem.W.Frag) (C D : Addr) : Sp := fun vs H Q _ => ∃ (e lo hi : Addr) (E : Ed) (a b : Int), vs = [.ref e, .int a, .int b] ∧ EndAt K C D H e lo hi E ∧
  ∀ H', EndAt K C D H' e lo hi { E with x := Sa69.shifted E.x a b } → Frm e H H' → Q .non H'
def spSumO (K : PySem.W.Frag) (C D : Addr) : Sp := fun vs H Q _ => ∃ (e lo hi : Addr) (E : Ed), vs = [.ref e] ∧ EndAt K C D H e lo hi E ∧ ∀ H', Same H H' → Q (.int (Sa69.odd E.x)) H'
def spSumE (K : PySem.W.Frag) (C D : Addr) : Sp := fun vs H Q _ => ∃ (e lo hi : Addr) (E : Ed), vs = [.ref e] ∧ EndAt K C D H e lo hi E ∧ ∀ H', Same H H' → Q (.int (Sa69.even E.x)) H'
def spEndInit (K : PySem.W.Frag) (C D : Addr) : Sp := fun vs H Q _ => ∃ (e dx : Addr), vs = [.ref e] ∧ H e = some (.ins D dx []) ∧ ∀ (lo hi : Addr) (H' : Hp), EndAt K C D H' e lo hi ed0 → H lo = none → H hi = none → Frm e H H' → Q .non H'
def spRung : Sp := fun vs H Q _ => ∃ z t, vs = [.int z, .int t] ∧ ∀ H', Same H H' → Q (.int ((rng z t : Nat) : Int)) H'
def spLowBits (K : PySem.W.Frag) (C : Addr) : Sp := fun vs H Q _ => ∃ (p : Addr) (x : Bd) (v : Int), vs = [.ref p, .int v] ∧ BandAt K C H p x ∧ ∀ (L : Nat) (H' : Hp), L = Sa69.lowBits x.spec v → Same H H' → Q (.int (L : Int)) H'
def spHighBits (K : PySem.W.Frag) (C : Addr) : Sp := fun vs H Q _ => ∃ (p : Addr) (x : Bd) (v : Int), vs = [.ref p, .int v] ∧ BandAt K C H p x ∧ ∀ U : Nat, U = Sa69.highBits x.spec v → Q (.int (U : Int)) H
def bval (x : Bd) (m : Int) : Int := btw (-16384) (x.s + x.t * m / 2 ^ 15) 16383
def spBandValue (K : PySem.W.Frag) (C : Addr) : Sp := fun vs H Q _ => ∃ (p : Addr) (x : Bd) (m : Int), vs = [.ref p, .int m] ∧ BandAt K C H p x ∧ (-(2 ^ 64) < m ∧ m < 2 ^ 64) ∧ Q (.int (bval x m)) H
def spLowTable (K : PySem.W.Frag) : Sp := fun vs H Q _ => ∃ bits : Nat, vs = [.int (bits : Int)] ∧ 6 ≤ bits ∧ bits ≤ 8 ∧ ∀ a, TupK K a (lowT bits) → Q (.ref a) H
theorem Same.frmI {H H' : Hp} {p : Addr} (h : Same H H') : Frm p H H' := Frm.of_same h
theorem EndAt.same {K : PySem.W.Frag} {C D : Addr} {H H' : Hp} {e lo hi : Addr} {E : Ed} (A : EndAt K C D H e lo hi E) (h : Same H H') : EndAt K C D H' e lo hi E := by
  obtain ⟨⟨dx, xl, h1, h2⟩, bl, bh, a, b, c, d⟩ := A
  exact ⟨⟨dx, xl, h _ _ h1, h _ _ h2⟩, bl.same h, bh.same h, a, b, c, d⟩
theorem cut2 {xs : List Int} (h : xs.length = 24) : cutV (xs.map V.int) (some 2) none = (xs.drop 2).map V.int := by
  obtain ⟨a0, a1, a2, a3, a4, a5, a6, a7, a8, a9, a10, a11, a12, a13, a14, a15, a16, a17, a18, a19, a20, a21, a22, a23, rfl⟩ := len24 h
  rfl
theorem shifted_length {xs : List Int} (h : xs.length = 24) (a b : Int) : (Sa69.shifted xs a b).length = 24 := by
  unfold Sa69.shifted
  rw [List.length_append, List.length_drop, h]
  rfl
theorem places_even : places 24 (some 0) none (some 2) = [0, 2, 4, 6, 8, 10, 12, 14, 16, 18, 20, 22] := by decide +kernel
theorem places_odd : places 24 (some 1) none (some 2) = [1, 3, 5, 7, 9, 11, 13, 15, 17, 19, 21, 23] := by decide +kernel
theorem pick_even {xs : List Int} (h : xs.length = 24) : pickV (xs.map V.int) (some 0) none (some 2) = (evens xs).map V.int := by
  obtain ⟨a0, a1, a2, a3, a4, a5, a6, a7, a8, a9, a10, a11, a12, a13, a14, a15, a16, a17, a18, a19, a20, a21, a22, a23, rfl⟩ := len24 h
  have e : pickV (List.map V.int [a0, a1, a2, a3, a4, a5, a6, a7, a8, a9, a10, a11, a12, a13, a14, a15, a16, a17, a18, a19, a20, a21, a22, a23]) (some 0) none (some 2) = (places 24 (some 0) none (some 2)).filterMap fun i => (List.map V.int [a0, a1, a2, a3, a4, a5, a6, a7, a8, a9, a10, a11, a12, a13, a14, a15, a16, a17, a18, a19, a20, a21, a22, a23])[i]? := rfl
  rw [e, places_even]
  rfl
theorem pick_odd {xs : List Int} (h : xs.length = 24) : pickV (xs.map V.int) (some 1) none (some 2) = (odds xs).map V.int := by
  obtain ⟨a0, a1, a2, a3, a4, a5, a6, a7, a8, a9, a10, a11, a12, a13, a14, a15, a16, a17, a18, a19, a20, a21, a22, a23, rfl⟩ := len24 h
  have e : pickV (List.map V.int [a0, a1, a2, a3, a4, a5, a6, a7, a8, a9, a10, a11, a12, a13, a14, a15, a16, a17, a18, a19, a20, a21, a22, a23]) (some 1) none (some 2) = (places 24 (some 1) none (some 2)).filterMap fun i => (List.map V.int [a0, a1, a2, a3, a4, a5, a6, a7, a8, a9, a10, a11, a12, a13, a14, a15, a16, a17, a18, a19, a20, a21, a22, a23])[i]? := rfl
  rw [e, places_odd]
  rfl
theorem evens_length {xs : List Int} (h : xs.length = 24) : (evens xs).length = 12 := by
  obtain ⟨a0, a1, a2, a3, a4, a5, a6, a7, a8, a9, a10, a11, a12, a13, a14, a15, a16, a17, a18, a19, a20, a21, a22, a23, rfl⟩ := len24 h
  rfl
theorem odds_length {xs : List Int} (h : xs.length = 24) : (odds xs).length = 12 := by
  obtain ⟨a0, a1, a2, a3, a4, a5, a6, a7, a8, a9, a10, a11, a12, a13, a14, a15, a16, a17, a18, a19, a20, a21, a22, a23, rfl⟩ := len24 h
  rfl
theorem q_small {v : Int} (h : v ∈ Sa69.Q) : -(2 ^ 64) < v ∧ v < 2 ^ 64 := (show ∀ v ∈ Sa69.Q, -(2 ^ 64) < v ∧ v < 2 ^ 64 by decide) v h
theorem steps_small {v : Int} (h : v ∈ Sa69.STEPS) : -(2 ^ 64) < v ∧ v < 2 ^ 64 := (show ∀ v ∈ Sa69.STEPS, -(2 ^ 64) < v ∧ v < 2 ^ 64 by decide) v h
theorem small12 : 12 < sizeLine := by decide
section
variable {P : Program} {w : World} {K : PySem.W.Frag} {mg : Str → Option Value} {base : Heap} {f C D : Addr} {fd : FuncData}
theorem scTake : FnScope ["self", "first", "second"] ["self", "first", "second"] (defScope sTake) := ⟨rfl, rfl, rfl, by decide +kernel, rfl, by decide +kernel, by decide +kernel⟩
theorem ok_take (F : Fun K "take" "End.take" sTake f fd) (T : ETx K D) : FnOk P w K mg base CX0 1 f fd ["self", "first", "second"] (spTake K C D) := by
  refine F.ok scTake (fun vs H Q E h => ?_) (fun cdv A outer s H vs Q E hr h => ?_)
  · obtain ⟨e, lo, hi, E, a, b, rfl, _⟩ := h
    rfl
  · obtain ⟨e, lo, hi, Z, a, b, rfl, A, k⟩ := h
    obtain ⟨⟨dx, xl, h1, h2⟩, bl, bh, q1, q2, q3, q4⟩ := A
    refine ⟨_, pss_one (ps_fld (pv 0) (pe_op op_cat (pe_slice sl_list (pe_fld (pv 0) rfl) (po_some pe_int) po_none) (pe_lst (pa_cons (pv 1) (pa_cons (pv 2) pa_nil)))) rfl), ?_⟩
    refine ⟨_, rfl, e, D, dx, _, _, rfl, h1, T.cl, T.n_x, rfl, _, rfl, xl, _, rfl, SqL.of h2, fun l1 n1 => ?_⟩
    refine ⟨_, rfl, _, rfl, (by show 2 ≤ sizeLine; decide), fun l2 n2 => ?_⟩
    have s1 := same_new (o := .lst (cutV (Z.x.map V.int) (some 2) none)) n1
    have s2 := same_new (o := .lst [V.int a, V.int b]) n2
    refine ⟨l1, l2, _, _, rfl, rfl, s2 _ _ upd_same, upd_same, ?_, fun l3 n3 => ?_⟩
    · rw [cut2 q3, List.length_map, List.length_drop, q3]
      show 24 - 2 + 2 ≤ sizeLine
      decide
    have s3 := same_new (o := .lst (cutV (Z.x.map V.int) (some 2) none ++ [V.int a, V.int b])) n3
    have x3 : (upd (upd (upd H l1 (.lst (cutV (Z.x.map V.int) (some 2) none))) l2 (.lst [V.int a, V.int b])) l3 (.lst (cutV (Z.x.map V.int) (some 2) none ++ [V.int a, V.int b]))) l3 = some (.lst ((Sa69.shifted Z.x a b).map V.int)) := by
      rw [upd_same, cut2 q3]
      unfold Sa69.shifted
      rw [List.map_append]
      rfl
    have s13 := (s1.trans s2).trans s3
    generalize upd (upd (upd H l1 (.lst (cutV (Z.x.map V.int) (some 2) none))) l2 (.lst [V.int a, V.int b])) l3 (.lst (cutV (Z.x.map V.int) (some 2) none ++ [V.int a, V.int b])) = H3 at x3 s13 s3 ⊢
    have h13 := s13 _ _ h1
    have ne3 : l3 ≠ e := ne_of x3 h13 (by intro z; cases z)
    refine ⟨_, rfl, e, D, dx, _, rfl, h13, T.cl, T.n_x, (by show 3 < 1000; decide), ?_⟩
    have fr := Frm.upd (p := e) (H := H3) (.ins D dx (putF "x" (V.ref l3) (ef lo hi xl)))
    have no : ∀ xs, H3 e ≠ some (.lst xs) := fun xs z => by
      have := h13.symm.trans z
      cases this
    refine k _ ⟨⟨dx, l3, upd_same, fr _ _ x3 ne3⟩, (bl.same s13).frame fr (bl.ne_ins h1).symm no, (bh.same s13).frame fr (bh.ne_ins h1).symm no, q1, q2, shifted_length q3 a b, q4⟩ ((Frm.of_same s13).trans fr)
theorem scSumO : FnScope ["self", "xi", "qi"] ["self"] (defScope sSumO) := ⟨rfl, rfl, rfl, by decide +kernel, rfl, by decide +kernel, by decide +kernel⟩
theorem ok_sumO (F : Fun K "sum_o" "End.sum_o" sSumO f fd) (T : ETx K D) (N : PyN mg) (TQ : GT K mg "Q" Sa69.Q) : FnOk P w K mg base CX0 1 f fd ["self"] (spSumO K C D) := by
  obtain ⟨aQ, hQ, tQ⟩ := TQ
  refine F.ok scSumO (fun vs H Q E h => ?_) (fun cdv A outer s H vs Q E hr h => ?_)
  · obtain ⟨e, lo, hi, E, rfl, _⟩ := h
    rfl
  · obtain ⟨e, lo, hi, Z, rfl, A, k⟩ := h
    obtain ⟨⟨dx, xl, h1, h2⟩, bl, bh, q1, q2, q3, q4⟩ := A
    refine ⟨_, pss_one (ps_ret (pe_callB (cr_sum rfl) rfl N.sum PyProof.Rows.boot_sum (pa_cons (pe_lc (own := [("xi", 1), ("qi", 2)]) (g := gTup K 2 (gCons (gName 1) (gCons (gName 2) gNil))) rfl scSumO.nd
      (pi_zipT rfl N.zip (pa_cons (pe_sliceS sls_list (pe_fld (pv 0) rfl) (po_some pe_int) po_none (po_some pe_int)) (pa_cons (pe_gr hQ rfl) pa_nil))) (blkOk_by (by rfl))
      (fun _ _ _ _ _ => pg_tup rfl (pgs_cons (pg_name (i := 1) scSumO.nd rfl (Or.inl rfl) (Or.inr rfl)) (pgs_cons (pg_name (i := 2) scSumO.nd rfl (Or.inl rfl) (Or.inr rfl)) pgs_nil))) (fun _ _ _ _ _ => pts_nil) (fun _ _ _ _ _ => pe_op op_mul (pv 1) (pv 2))) pa_nil))), ?_⟩
    refine ⟨_, rfl, e, D, dx, _, _, rfl, h1, T.cl, T.n_x, rfl, _, rfl, _, rfl, xl, _, rfl, SqL.of h2, (by decide), fun l1 n1 => ?_⟩
    have s1 := same_new (o := .lst (pickV (Z.x.map V.int) (some 0) none (some 2))) n1
    refine ⟨l1, aQ, _, _, rfl, SqL.of upd_same, tQ _, fun L hL => ?_⟩
    have x1 : (upd H l1 (.lst (pickV (Z.x.map V.int) (some 0) none (some 2)))) l1 = some (.lst ((evens Z.x).map V.int)) := by rw [upd_same, pick_even q3]
    refine lc_zz (SX := fun H xs => SqL K H l1 xs) (SY := fun H xs => SqT K H aQ xs) (ns := evens Z.x) (ms := Sa69.Q) (fun x q => x * q) (fun H' s' => SqL.of (s' _ _ x1)) (fun H' s' => tQ H') hL (by rw [evens_length q3]; exact small12) ?_ ?_
    · intro a b H' T' R hm hT hR
      exact ⟨T', _, rfl, SqT.of hT, rfl, _, _, rfl, _, _, rfl, rfl, rfl, _, rfl, _, rfl, _, _, rfl, rfl, .inr (q_small (List.of_mem_zip hm).2), hR⟩
    · intro H' s' hD'
      refine ⟨L, _, rfl, SqL.of hD', ?_⟩
      have e0 : (((evens Z.x).zip Sa69.Q).map fun q => q.1 * q.2).sum = Sa69.odd Z.x := odd_eq q3
      rw [e0]
      exact k _ (s1.trans s')
theorem scSumE : FnScope ["self", "xi", "qi"] ["self"] (defScope sSumE) := ⟨rfl, rfl, rfl, by decide +kernel, rfl, by decide +kernel, by decide +kernel⟩
theorem ok_sumE (F : Fun K "sum_e" "End.sum_e" sSumE f fd) (T : ETx K D) (N : PyN mg) (TQ : GT K mg "Q" Sa69.Q) : FnOk P w K mg base CX0 1 f fd ["self"] (spSumE K C D) := by
  obtain ⟨aQ, hQ, tQ⟩ := TQ
  refine F.ok scSumE (fun vs H Q E h => ?_) (fun cdv A outer s H vs Q E hr h => ?_)
  · obtain ⟨e, lo, hi, E, rfl, _⟩ := h
    rfl
  · obtain ⟨e, lo, hi, Z, rfl, A, k⟩ := h
    obtain ⟨⟨dx, xl, h1, h2⟩, bl, bh, q1, q2, q3, q4⟩ := A
    refine ⟨_, pss_one (ps_ret (pe_callB (cr_sum rfl) rfl N.sum PyProof.Rows.boot_sum (pa_cons (pe_lc (own := [("xi", 1), ("qi", 2)]) (g := gTup K 2 (gCons (gName 1) (gCons (gName 2) gNil))) rfl scSumE.nd
      (pi_zipT rfl N.zip (pa_cons (pe_sliceS sls_list (pe_fld (pv 0) rfl) (po_some pe_int) po_none (po_some pe_int)) (pa_cons (pe_sliceS sls_back (pe_gr hQ rfl) po_none po_none (po_some (pe_un un_neg pe_int))) pa_nil))) (blkOk_by (by rfl))
      (fun _ _ _ _ _ => pg_tup rfl (pgs_cons (pg_name (i := 1) scSumE.nd rfl (Or.inl rfl) (Or.inr rfl)) (pgs_cons (pg_name (i := 2) scSumE.nd rfl (Or.inl rfl) (Or.inr rfl)) pgs_nil))) (fun _ _ _ _ _ => pts_nil) (fun _ _ _ _ _ => pe_op op_mul (pv 1) (pv 2))) pa_nil))), ?_⟩
    refine ⟨_, rfl, e, D, dx, _, _, rfl, h1, T.cl, T.n_x, rfl, _, rfl, _, rfl, xl, _, rfl, SqL.of h2, (by decide), fun l1 n1 => ?_⟩
    have s1 := same_new (o := .lst (pickV (Z.x.map V.int) (some 1) none (some 2))) n1
    refine ⟨_, rfl, _, rfl, aQ, _, rfl, tQ _, rfl, rfl, rfl, fun l2 n2 => ?_⟩
    have s2 := same_new (o := .tup (Sa69.Q.map V.int).reverse) n2
    have x1 : (upd H l1 (.lst (pickV (Z.x.map V.int) (some 1) none (some 2)))) l1 = some (.lst ((odds Z.x).map V.int)) := by rw [upd_same, pick_odd q3]
    have x2 := s2 _ _ x1
    have y2 : (upd (upd H l1 (.lst (pickV (Z.x.map V.int) (some 1) none (some 2)))) l2 (.tup (Sa69.Q.map V.int).reverse)) l2 = some (.tup (Sa69.Q.reverse.map V.int)) := by rw [upd_same, List.map_reverse]
    refine ⟨l1, l2, _, _, rfl, SqL.of x2, SqT.of y2, fun L hL => ?_⟩
    refine lc_zz (SX := fun H xs => SqL K H l1 xs) (SY := fun H xs => SqT K H l2 xs) (ns := odds Z.x) (ms := Sa69.Q.reverse) (fun x q => x * q) (fun H' s' => SqL.of (s' _ _ x2)) (fun H' s' => SqT.of (s' _ _ y2)) hL (by rw [odds_length q3]; exact small12) ?_ ?_
    · intro a b H' T' R hm hT hR
      exact ⟨T', _, rfl, SqT.of hT, rfl, _, _, rfl, _, _, rfl, rfl, rfl, _, rfl, _, rfl, _, _, rfl, rfl, .inr (q_small (List.mem_reverse.mp (List.of_mem_zip hm).2)), hR⟩
    · intro H' s' hD'
      refine ⟨L, _, rfl, SqL.of hD', ?_⟩
      have e0 : (((odds Z.x).zip Sa69.Q.reverse).map fun q => q.1 * q.2).sum = Sa69.even Z.x := even_eq q3
      rw [e0]
      exact k _ ((s1.trans s2).trans s')
theorem scEI : FnScope ["self"] ["self"] (defScope sEndInit) := ⟨rfl, rfl, rfl, by decide +kernel, rfl, by decide +kernel, by decide +kernel⟩
theorem ok_endInit (F : Fun K "__init__" "End.__init__" sEndInit f fd) (T : ETx K D) (KB : KF P w K mg base C 2 "Band" ["self", "table", "gains", "most", "shift"] (spBandInit K C)) (T4 : GT K mg "M4" Sa69.M4) (TL : GT K mg "LOW_G" Sa69.GOES)
    (T2 : GT K mg "M2" Sa69.M2) (TH : GT K mg "HIGH_G" HG) : FnOk P w K mg base CX0 4 f fd ["self"] (spEndInit K C D) := by
  obtain ⟨a4, h4, t4⟩ := T4
  obtain ⟨aL, hL, tL⟩ := TL
  obtain ⟨a2, h2, t2⟩ := T2
  obtain ⟨aH, hH, tH⟩ := TH
  refine F.ok scEI (fun vs H Q E h => ?_) (fun cdv A outer s H vs Q E hr h => ?_)
  · obtain ⟨e, dx, rfl, _⟩ := h
    rfl
  · obtain ⟨e, dx, rfl, he, k⟩ := h
    refine ⟨_, pss_cons (ps_fld (pv 0) (pe_k KB hr rfl (pa_cons (pe_gr h4 rfl) (pa_cons (pe_gr hL rfl) (pa_cons pe_int (pa_cons pe_int pa_nil))))) rfl)
      (pss_cons (ps_fld (pv 0) (pe_k KB hr rfl (pa_cons (pe_gr h2 rfl) (pa_cons (pe_gr hH rfl) (pa_cons pe_int (pa_cons pe_int pa_nil))))) rfl)
      (pss_one (ps_fld (pv 0) (pe_op op_rep (pe_lst (pa_cons pe_int pa_nil)) pe_int) rfl))), ?_⟩
    -- self.low
    intro lo d0 n0 m0 e0
    refine ⟨lo, d0, a4, aL, false, rfl, upd_same, t4, tL, fun H1 B1 f1 => ⟨rfl, ?_⟩⟩
    have s1 : Same H H1 := Same.made n0 m0 f1
    have he1 := s1 _ _ he
    refine ⟨_, rfl, e, D, dx, [], rfl, he1, T.cl, T.n_low, (by show 0 < 1000; decide), ?_⟩
    have ob1 : (upd H1 e (.ins D dx (putF "low" (V.ref lo) []))) e = some (.ins D dx [("low", V.ref lo)]) := upd_same
    have fr1 := Frm.upd (p := e) (H := H1) (.ins D dx (putF "low" (V.ref lo) []))
    have nle : lo ≠ e := (ne_of_none he n0).symm
    have noL : ∀ xs, H1 e ≠ some (.lst xs) := fun xs z => by
      have := he1.symm.trans z
      cases this
    have B2 := B1.frame fr1 nle noL
    generalize upd H1 e (.ins D dx (putF "low" (V.ref lo) [])) = H2 at ob1 fr1 B2 ⊢
    -- self.high
    intro hi d1 n1 m1 e1
    refine ⟨hi, d1, a2, aH, true, rfl, upd_same, t2, tH, fun H3 B3 f3 => ⟨rfl, ?_⟩⟩
    have s3 : Same H2 H3 := Same.made n1 m1 f3
    have ob3 := s3 _ _ ob1
    refine ⟨_, rfl, e, D, dx, _, rfl, ob3, T.cl, T.n_high, (by show 1 < 1000; decide), ?_⟩
    have ob4 : (upd H3 e (.ins D dx (putF "high" (V.ref hi) [("low", V.ref lo)]))) e = some (.ins D dx [("low", V.ref lo), ("high", V.ref hi)]) := upd_same
    have fr4 := Frm.upd (p := e) (H := H3) (.ins D dx (putF "high" (V.ref hi) [("low", V.ref lo)]))
    have nhe : hi ≠ e := (ne_of_none ob1 n1).symm
    have noH : ∀ xs, H3 e ≠ some (.lst xs) := fun xs z => by
      have := ob3.symm.trans z
      cases this
    have B4l := (B2.same s3).frame fr4 nle noH
    have B4h := B3.frame fr4 nhe noH
    have nlh : lo ≠ hi := by
      obtain ⟨_, _, _, _, _, q⟩ := B2
      exact ne_of_none q.ob n1
    generalize upd H3 e (.ins D dx (putF "high" (V.ref hi) [("low", V.ref lo)])) = H4 at ob4 fr4 B4l B4h ⊢
    -- self.x
    refine ⟨(by show 1 ≤ sizeLine; decide), fun l1 n5 => ?_⟩
    have s5 := same_new (o := .lst [V.int 0]) n5
    refine ⟨l1, _, _, rfl, rfl, upd_same, (by decide), (by decide), (by show 1 * 24 ≤ sizeLine; decide), fun l2 n6 => ?_⟩
    have s6 := same_new (o := .lst (List.replicate (24 : Int).toNat [V.int 0]).flatten) n6
    have s46 := s5.trans s6
    have x6 : (upd (upd H4 l1 (.lst [V.int 0])) l2 (.lst (List.replicate (24 : Int).toNat [V.int 0]).flatten)) l2 = some (.lst (ed0.x.map V.int)) := upd_same
    generalize upd (upd H4 l1 (.lst [V.int 0])) l2 (.lst (List.replicate (24 : Int).toNat [V.int 0]).flatten) = H6 at x6 s46 s6 ⊢
    have ob6 := s46 _ _ ob4
    have n2e : l2 ≠ e := ne_of x6 ob6 (by intro z; cases z)
    have no6 : ∀ xs, H6 e ≠ some (.lst xs) := fun xs z => by
      have := ob6.symm.trans z
      cases this
    refine ⟨_, rfl, e, D, dx, _, rfl, ob6, T.cl, T.n_x, (by show 2 < 1000; decide), ?_⟩
    have fr7 := Frm.upd (p := e) (H := H6) (.ins D dx (putF "x" (V.ref l2) [("low", V.ref lo), ("high", V.ref hi)]))
    have fr01 : Frm e H H2 := (Frm.of_same s1).trans fr1
    have fr03 : Frm e H H3 := fr01.trans (Frm.of_same s3)
    refine k lo hi _ ⟨⟨dx, l2, upd_same, fr7 _ _ x6 n2e⟩, (B4l.same s46).frame fr7 nle no6, (B4h.same s46).frame fr7 nhe no6, rfl, rfl, rfl, nlh⟩ n0 (fr01.free n1 nhe) (((fr03.trans fr4).trans (Frm.of_same s46)).trans fr7)
theorem scRung : FnScope ["z", "t", "i", "h"] ["z", "t"] (defScope sRung) := ⟨rfl, rfl, rfl, by decide +kernel, rfl, by decide +kernel, by decide +kernel⟩
theorem ok_rung (F : Fun K "rung" "rung" sRung f fd) (N : PyN mg) (TH : GT K mg "H" Sa69.STEPS) : FnOk P w K mg base CX0 1 f fd ["z", "t"] spRung := by
  obtain ⟨aH, hH, tH⟩ := TH
  refine F.ok scRung (fun vs H Q E h => ?_) (fun cdv A outer s H vs Q E hr h => ?_)
  · obtain ⟨z, t, rfl, _⟩ := h
    rfl
  · obtain ⟨z, t, rfl, k⟩ := h
    refine ⟨_, pss_cons (ps_for PassesOwn.never rfl (pi_enum1 rfl N.enumerate (pa_cons (pe_gr hH rfl) pa_nil) (pk_cons pe_int pk_nil)) (pg_tup rfl (pgs_cons (pg_name (i := 2) scRung.nd rfl (Or.inl rfl)) (pgs_cons (pg_name (i := 3) scRung.nd rfl (Or.inl rfl)) pgs_nil)))
        (pss_one (ps_if (pt_cmpR op_lt (pv 0) (pe_op op_shr (pe_op op_mul (pv 3) (pv 1)) pe_int) (nomark _)) (pss_one (ps_ret (pv 2))) pss_nil)))
      (pss_one (ps_ret (pe_op op_add (pe_callB call_len_seq rfl N.len PySem.boot_len (pa_cons (pe_gr hH rfl) pa_nil)) pe_int))), ?_⟩
    refine ⟨aH, _, rfl, rfl, tH H, for_enum1 (K := K) (a := aH) (xs := Sa69.STEPS.map V.int) (fun i σ H2 => ∃ v2 v3 : Option V, σ = [some (.int z), some (.int t), v2, v3] ∧ Same H H2 ∧ ∀ (j : Nat) (g : Int), j < i → Sa69.STEPS[j]? = some g → ¬ z < g * t / 2 ^ 12)
      ⟨none, none, rfl, Same.refl H, fun j g hj => absurd hj (Nat.not_lt_zero _)⟩ (fun i σ H2 _ _ => tH H2) ?_ ?_⟩
    · rintro i y σ H2 T' hi hT ⟨v2, v3, rfl, s2, hb⟩
      obtain ⟨g, hg, rfl⟩ : ∃ g, Sa69.STEPS[i]? = some g ∧ y = V.int g := by
        rw [List.getElem?_map] at hi
        cases e : Sa69.STEPS[i]? with
        | none => rw [e] at hi; cases hi
        | some g => rw [e] at hi; exact ⟨g, rfl, (Option.some.inj hi).symm⟩
      have sm := steps_small (List.mem_of_getElem? hg)
      have s3 : Same H (upd H2 T' (.tup [.int ((i + 1 : Nat) : Int), .int g])) := s2.trans (same_new hT)
      refine ⟨T', _, rfl, SqT.of upd_same, rfl, _, _, rfl, _, _, rfl, rfl, ?_⟩
      refine ⟨_, rfl, _, rfl, _, rfl, _, _, rfl, rfl, .inl sm, _, _, rfl, rfl, (by show (0 : Int) ≤ _; decide), _, _, rfl, rfl, _, rfl, ite2 (fun h1 => ?_) (fun h1 => ?_)⟩
      · have e : rng z t = i + 1 := rng_at hg (dec_t h1) hb
        exact ⟨_, rfl, castI (Q := Q) (by rw [e]) (k _ s3)⟩
      · refine ⟨_, _, rfl, s3, fun j g' hj hg' => ?_⟩
        by_cases ej : j = i
        · subst ej
          rw [hg] at hg'
          cases hg'
          exact dec_f h1
        · exact hb j g' (by omega) hg'
    · rintro σ H2 ⟨v2, v3, rfl, s2, hb⟩
      refine ⟨aH, _, rfl, .inr (tH H2), _, _, rfl, rfl, ?_⟩
      have e : rng z t = 30 := rng_none fun j g hj hg => hb j g hj hg
      have k' := k _ s2
      rw [e] at k'
      exact k'
theorem scLow : FnScope ["band", "value", "u", "i"] ["band", "value"] (defScope sLowBits) := ⟨rfl, rfl, rfl, by decide +kernel, rfl, by decide +kernel, by decide +kernel⟩
theorem ok_lowBits (F : Fun K "low_bits" "low_bits" sLowBits f fd) (T : BTx K C) (GH : GF P w K mg base 2 "held" ["number"] spHeld) (GS : GF P w K mg base 1 "size_of" ["u"] spSizeOf) (GR : GF P w K mg base 1 "rung" ["z", "t"] spRung) :
    FnOk P w K mg base CX0 3 f fd ["band", "value"] (spLowBits K C) := by
  refine F.ok scLow (fun vs H Q E h => ?_) (fun cdv A outer s H vs Q E hr h => ?_)
  · obtain ⟨p, x, v, rfl, _⟩ := h
    rfl
  · obtain ⟨p, x, v, rfl, ⟨dx, tb, ga, dl, bl, B⟩, k⟩ := h
    have hr1 : Room 1 _ := hr.mono (by decide)
    refine ⟨_, pss_cons (ps_set (i := 2) scLow.nd rfl (Or.inl rfl) (pe_g GH hr rfl (pa_cons (pe_op op_sub (pv 1) (pe_fld (pv 0) rfl)) pa_nil)))
      (pss_cons (ps_set (i := 3) scLow.nd rfl (Or.inl rfl) (pe_g GR hr1 rfl (pa_cons (pe_g GS hr1 rfl (pa_cons (pv 2) pa_nil)) (pa_cons (pe_fld (pv 0) rfl) pa_nil))))
      (pss_cons (ps_if (pt_cmpR op_ge (pv 2) pe_int (nomark _)) (pss_one (ps_ret (pe_op op_sub pe_int (pv 3)))) pss_nil)
      (pss_cons (ps_if (pt_cmpR op_le (pv 3) pe_int (nomark _)) (pss_one (ps_ret (pe_op op_sub pe_int (pv 3)))) pss_nil)
      (pss_one (ps_ret (pe_op op_sub pe_int (pv 3))))))), ?_⟩
    refine ⟨_, rfl, _, rfl, p, C, dx, _, _, rfl, B.ob, T.cl, T.n_s, rfl, _, _, rfl, rfl, _, rfl, ?_⟩
    refine ⟨_, rfl, _, rfl, _, rfl, p, C, dx, _, _, rfl, B.ob, T.cl, T.n_t, rfl, _, _, rfl, fun H1 s1 => ?_⟩
    have k1 := k _ H1 rfl s1
    rw [← lowB_eq] at k1
    unfold lowB at k1
    refine ⟨_, rfl, _, _, rfl, rfl, _, rfl, ite2 (fun h1 => ?_) (fun h1 => ?_)⟩
    · rw [if_pos (dec_t h1)] at k1
      exact ⟨_, rfl, _, _, rfl, rfl, k1⟩
    · rw [if_neg (dec_f h1)] at k1
      refine ⟨_, rfl, _, _, rfl, rfl, _, rfl, ite2 (fun h2 => ?_) (fun h2 => ?_)⟩
      · rw [if_pos (dec_t h2)] at k1
        exact ⟨_, rfl, _, _, rfl, rfl, k1⟩
      · rw [if_neg (dec_f h2)] at k1
        exact ⟨_, rfl, _, _, rfl, rfl, k1⟩
theorem scHigh : FnScope ["band", "value", "u", "wide"] ["band", "value"] (defScope sHighBits) := ⟨rfl, rfl, rfl, by decide +kernel, rfl, by decide +kernel, by decide +kernel⟩
theorem ok_highBits (F : Fun K "high_bits" "high_bits" sHighBits f fd) (T : BTx K C) (GH : GF P w K mg base 2 "held" ["number"] spHeld) (GS : GF P w K mg base 1 "size_of" ["u"] spSizeOf) (I5 : GI mg "HIGH_H" 564) :
    FnOk P w K mg base CX0 3 f fd ["band", "value"] (spHighBits K C) := by
  refine F.ok scHigh (fun vs H Q E h => ?_) (fun cdv A outer s H vs Q E hr h => ?_)
  · obtain ⟨p, x, v, rfl, _⟩ := h
    rfl
  · obtain ⟨p, x, v, rfl, ⟨dx, tb, ga, dl, bl, B⟩, k⟩ := h
    have hr1 : Room 1 _ := hr.mono (by decide)
    refine ⟨_, pss_cons (ps_set (i := 2) scHigh.nd rfl (Or.inl rfl) (pe_g GH hr rfl (pa_cons (pe_op op_sub (pv 1) (pe_fld (pv 0) rfl)) pa_nil)))
      (pss_cons (ps_set (i := 3) scHigh.nd rfl (Or.inl rfl) (pe_cmpR op_ge (pe_g GS hr1 rfl (pa_cons (pv 2) pa_nil)) (pe_op op_shr (pe_op op_mul (pe_gi I5 rfl) (pe_fld (pv 0) rfl)) pe_int) (nomark _)))
      (pss_cons (ps_if (pt_cmpR op_ge (pv 2) pe_int (nomark _)) (pss_one (ps_ret (pe_ifExp (pt_truth (pv 3) (fun _ => rfl)) pe_int pe_int))) pss_nil)
      (pss_one (ps_ret (pe_ifExp (pt_truth (pv 3) (fun _ => rfl)) pe_int pe_int))))), ?_⟩
    refine ⟨_, rfl, _, rfl, p, C, dx, _, _, rfl, B.ob, T.cl, T.n_s, rfl, _, _, rfl, rfl, _, rfl, ?_⟩
    refine ⟨_, rfl, _, rfl, _, rfl, p, C, dx, _, _, rfl, B.ob, T.cl, T.n_t, rfl, _, _, rfl, rfl, .inl ⟨by decide, by decide⟩, _, _, rfl, rfl, (by show (0 : Int) ≤ _; decide), _, _, rfl, rfl, ?_⟩
    have k := k _ rfl
    rw [← highB_eq] at k
    unfold highB at k
    refine ⟨_, rfl, _, _, rfl, rfl, _, rfl, ite2 (fun h1 => ?_) (fun h1 => ?_)⟩
    · rw [if_pos (dec_t h1)] at k
      refine ⟨_, rfl, _, rfl, ite2 (fun h2 => ?_) (fun h2 => ?_)⟩
      · rw [if_pos (show 564 * x.t / 2 ^ 12 ≤ siz (hld (v - x.s)) from dec_t h2)] at k
        exact k
      · rw [if_neg (show ¬ 564 * x.t / 2 ^ 12 ≤ siz (hld (v - x.s)) from dec_f h2)] at k
        exact k
    · rw [if_neg (dec_f h1)] at k
      refine ⟨_, rfl, _, rfl, ite2 (fun h2 => ?_) (fun h2 => ?_)⟩
      · rw [if_pos (show 564 * x.t / 2 ^ 12 ≤ siz (hld (v - x.s)) from dec_t h2)] at k
        exact k
      · rw [if_neg (show ¬ 564 * x.t / 2 ^ 12 ≤ siz (hld (v - x.s)) from dec_f h2)] at k
        exact k
theorem scBV : FnScope ["band", "multiplier"] ["band", "multiplier"] (defScope sBandValue) := ⟨rfl, rfl, rfl, by decide +kernel, rfl, by decide +kernel, by decide +kernel⟩
theorem ok_bandValue (F : Fun K "band_value" "band_value" sBandValue f fd) (T : BTx K C) (GB : GF P w K mg base 1 "between" pB3 spBetween) : FnOk P w K mg base CX0 2 f fd ["band", "multiplier"] (spBandValue K C) := by
  refine F.ok scBV (fun vs H Q E h => ?_) (fun cdv A outer s H vs Q E hr h => ?_)
  · obtain ⟨p, x, m, rfl, _⟩ := h
    rfl
  · obtain ⟨p, x, m, rfl, ⟨dx, tb, ga, dl, bl, B⟩, hm, k⟩ := h
    refine ⟨_, pss_one (ps_ret (pe_g GB hr rfl (pa_cons (pe_un un_neg pe_int) (pa_cons (pe_op op_add (pe_fld (pv 0) rfl) (pe_op op_shr (pe_op op_mul (pe_fld (pv 0) rfl) (pv 1)) pe_int)) (pa_cons pe_int pa_nil))))), ?_⟩
    exact ⟨_, rfl, _, rfl, p, C, dx, _, _, rfl, B.ob, T.cl, T.n_s, rfl, _, rfl, p, C, dx, _, _, rfl, B.ob, T.cl, T.n_t, rfl, _, rfl, _, _, rfl, rfl, .inr hm, _, _, rfl, rfl, (by show (0 : Int) ≤ _; decide), _, _, rfl, rfl, _, _, _, rfl, k⟩
theorem scLT : FnScope ["bits"] ["bits"] (defScope sLowTable) := ⟨rfl, rfl, rfl, by decide +kernel, rfl, by decide +kernel, by decide +kernel⟩
theorem ok_lowTable (F : Fun K "low_table" "low_table" sLowTable f fd) (T6 : GT K mg "M6" Sa69.M6) (T5 : GT K mg "M5" Sa69.M5) (T4 : GT K mg "M4" Sa69.M4) : FnOk P w K mg base CX0 1 f fd ["bits"] (spLowTable K) := by
  obtain ⟨a6, h6, t6⟩ := T6
  obtain ⟨a5, h5, t5⟩ := T5
  obtain ⟨a4, h4, t4⟩ := T4
  refine F.ok scLT (fun vs H Q E h => ?_) (fun cdv A outer s H vs Q E hr h => ?_)
  · obtain ⟨b, rfl, _⟩ := h
    rfl
  · obtain ⟨b, rfl, h1, h2, k⟩ := h
    refine ⟨_, pss_cons (ps_if (pt_cmpR op_eq (pv 0) pe_int (nomark _)) (pss_one (ps_ret (pe_gr h6 rfl))) pss_nil)
      (pss_cons (ps_if (pt_cmpR op_eq (pv 0) pe_int (nomark _)) (pss_one (ps_ret (pe_gr h5 rfl))) pss_nil)
      (pss_one (ps_ret (pe_gr h4 rfl)))), ?_⟩
    have eqi : ∀ {i j : Int}, V.int i = V.int j → i = j := fun z => by injection z
    refine ⟨_, rfl, rfl, _, rfl, ite2 (fun c1 => ?_) (fun c1 => ?_)⟩
    · have e : b = 8 := by have := eqi (dec_t c1); omega
      subst e
      exact k a6 t6
    · have n8 : ¬ b = 8 := fun z => c1 (decide_eq_true (by rw [z]; rfl))
      refine ⟨_, rfl, rfl, _, rfl, ite2 (fun c2 => ?_) (fun c2 => ?_)⟩
      · have e : b = 7 := by have := eqi (dec_t c2); omega
        subst e
        exact k a5 t5
      · have n7 : ¬ b = 7 := fun z => c2 (decide_eq_true (by rw [z]; rfl))
        have e : b = 6 := by omega
        subst e
        exact k a4 t4
end
end TB
set_option maxHeartbeats 4000000
/-! A pair of samples to a byte, and a byte back. -/
namespace TB
open PySem L2 TBR
def Frm3 (e lo hi : Addr) (H H' : Hp) : Prop := ∀ b o, H b = some o → b ≠ e → b ≠ lo → b ≠ hi → H' b = some o
theorem Frm3.e {e lo hi : Addr} {H H' : Hp} (h : Frm e H H') : Frm3 e lo hi H H' := fun b o q n _ _ => h b o q n
theorem Frm3.l {e lo hi : Addr} {H H' : Hp} (h : Frm lo H H') : Frm3 e lo hi H H' := fun b o q _ n _ => h b o q n
theorem Frm3.h {e lo hi : Addr} {H H' : Hp} (h : Frm hi H H') : Frm3 e lo hi H H' := fun b o q _ _ n => h b o q n
theorem Frm3.s {e lo hi : Addr} {H H' : Hp} (h : Same H H') : Frm3 e lo hi H H' := fun b o q _ _ _ => h b o q
theorem Frm3.trans {e lo hi : Addr} {H H1 H2 : Hp} (a : Frm3 e lo hi H H1) (b : Frm3 e lo hi H1 H2) : Frm3 e lo hi H H2 := fun c o q n1 n2 n3 => b c o (a c o q n1 n2 n3) n1 n2 n3
theorem Frm3.free {e lo hi : Addr} {H H' : Hp} (a : Frm3 e lo hi H H') {l : Addr} (h : H' l = none) (n1 : l ≠ e) (n2 : l ≠ lo) (n3 : l ≠ hi) : H l = none := by
  cases q : H l with
  | none => rfl
  | some o => rw [a l o q n1 n2 n3] at h; cases h
def spByte (K : PySem.W.Frag) (C D : Addr) : Sp := fun vs H Q _ => ∃ (e lo hi : Addr) (E : Ed) (a b : Int), vs = [.ref e, .int a, .int b] ∧ EndAt K C D H e lo hi E ∧
  ∀ (E' : Ed) (H' : Hp), EndAt K C D H' e lo hi E' → E'.spec = (Sa69.encode E.spec a b).1 → Frm3 e lo hi H H' → Q (.int (((Sa69.encode E.spec a b).2 : Nat) : Int)) H'
def spPair (K : PySem.W.Frag) (C D : Addr) : Sp := fun vs H Q _ => ∃ (e lo hi : Addr) (E : Ed) (bits c : Nat), vs = [.ref e, .int (bits : Int), .int (c : Int)] ∧ EndAt K C D H e lo hi E ∧ 6 ≤ bits ∧ bits ≤ 8 ∧
  ∀ (E' : Ed) (H' : Hp) (l : Addr), EndAt K C D H' e lo hi E' → E'.spec = (Sa69.decode E.spec bits c).1 → H l = none → H' l = some (.lst [.int (Sa69.decode E.spec bits c).2.1, .int (Sa69.decode E.spec bits c).2.2]) → Frm3 e lo hi H H' → Q (.ref l) H'
theorem BandAt.ob {K : PySem.W.Frag} {C : Addr} {H : Hp} {p : Addr} {x : Bd} (B : BandAt K C H p x) : ∃ dx fs, H p = some (.ins C dx fs) ∧ fs.lookup ("move" : Str) = none := by
  obtain ⟨dx, tb, ga, dl, bl, B⟩ := B
  exact ⟨dx, _, B.ob, rfl⟩
/-- the low band moved -/
theorem EndAt.low {K : PySem.W.Frag} {C D : Addr} {H H' : Hp} {e lo hi : Addr} {E : Ed} (A : EndAt K C D H e lo hi E) (f : Frm lo H H') {x : Bd} (B : BandAt K C H' lo x) (hx : x.hi = E.lo.hi) : EndAt K C D H' e lo hi { E with lo := x } := by
  obtain ⟨⟨dx, xl, h1, h2⟩, bl, bh, a, b, c, d⟩ := A
  have nx : xl ≠ lo := fun z => bl.noLst _ (z ▸ h2)
  exact ⟨⟨dx, xl, f _ _ h1 (bl.ne_ins h1), f _ _ h2 nx⟩, B, bh.frame f d.symm bl.noLst, hx.trans a, b, c, d⟩
theorem EndAt.high {K : PySem.W.Frag} {C D : Addr} {H H' : Hp} {e lo hi : Addr} {E : Ed} (A : EndAt K C D H e lo hi E) (f : Frm hi H H') {x : Bd} (B : BandAt K C H' hi x) (hx : x.hi = E.hi.hi) : EndAt K C D H' e lo hi { E with hi := x } := by
  obtain ⟨⟨dx, xl, h1, h2⟩, bl, bh, a, b, c, d⟩ := A
  have nx : xl ≠ hi := fun z => bh.noLst _ (z ▸ h2)
  exact ⟨⟨dx, xl, f _ _ h1 (bh.ne_ins h1), f _ _ h2 nx⟩, bl.frame f d bh.noLst, B, a, hx.trans b, c, d⟩
theorem ftl_hi (x : Bd) : (ftl x).hi = x.hi := by unfold ftl; rfl
theorem gon0_hi (x : Bd) (d : Int) : (gon0 x d).hi = x.hi := by unfold gon0; rfl
theorem scl_hi (x : Bd) (g : Int) : (scl x g).hi = x.hi := by unfold scl; rfl
theorem mov_hi (x : Bd) (c : Nat) : (mov x c).hi = x.hi := by unfold mov gon; rw [ftl_hi, gon0_hi, scl_hi]
theorem nshr (n k : Nat) : ((n : Nat) : Int) / 2 ^ k = ((n / 2 ^ k : Nat) : Int) := by
  rw [Int.natCast_ediv, Int.natCast_pow]
  rfl
theorem bval_eq (x : Bd) (m : Int) : bval x m = Sa69.between (x.spec.s + Sa69.down (x.spec.t * m) 15) (-16384) 16383 := btw_eq (by decide)
theorem encode_eq (Z : Ed) (a b : Int) (L U : Nat) (eL : L = Sa69.lowBits Z.lo.spec ((Sa69.even (Sa69.shifted Z.x a b) + Sa69.odd (Sa69.shifted Z.x a b)) / 2 ^ 14)) (eU : U = Sa69.highBits Z.hi.spec ((Sa69.even (Sa69.shifted Z.x a b) - Sa69.odd (Sa69.shifted Z.x a b)) / 2 ^ 14)) :
    Sa69.encode Z.spec a b = (⟨Sa69.moved Z.lo.spec (L / 4), Sa69.moved Z.hi.spec U, Sa69.shifted Z.x a b⟩, 64 * U + L) := by
  subst eL eU
  rfl
theorem decode_eq (Z : Ed) (bits c L U : Nat) (m l h : Int) (eL : L = c % 2 ^ (bits - 2)) (eU : U = c / 2 ^ (bits - 2) % 4) (em : m = if bits - 2 = 6 then Sa69.M6.getD L 0 else if bits - 2 = 5 then Sa69.M5.getD L 0 else Sa69.M4.getD L 0)
    (el : l = bval Z.lo m) (eh : h = bval Z.hi (Sa69.M2.getD U 0)) :
    Sa69.decode Z.spec bits c = (⟨Sa69.moved Z.lo.spec (L / 2 ^ (bits - 2 - 4)), Sa69.moved Z.hi.spec U, Sa69.shifted Z.x (l + h) (l - h)⟩, hld (Sa69.even (Sa69.shifted Z.x (l + h) (l - h)) / 2 ^ 11), hld (Sa69.odd (Sa69.shifted Z.x (l + h) (l - h)) / 2 ^ 11)) := by
  rw [bval_eq] at el eh
  subst eL eU em el eh
  rw [hld_eq, hld_eq]
  rfl
section
variable {P : Program} {w : World} {K : PySem.W.Frag} {mg : Str → Option Value} {base : Heap} {f C D : Addr} {fd : FuncData}
theorem scByte : FnScope ["end", "first", "second", "e", "o", "low", "high"] ["end", "first", "second"] (defScope sByteOf) := ⟨rfl, rfl, rfl, by decide +kernel, rfl, by decide +kernel, by decide +kernel⟩
theorem ok_byteOf (F : Fun K "byte_of_pair" "byte_of_pair" sByteOf f fd) (TB : BTx K C) (TE : ETx K D) (MT : MF P w K mg base D 1 "take" ["self", "first", "second"] (spTake K C D)) (ME : MF P w K mg base D 1 "sum_e" ["self"] (spSumE K C D))
    (MO : MF P w K mg base D 1 "sum_o" ["self"] (spSumO K C D)) (GL : GF P w K mg base 3 "low_bits" ["band", "value"] (spLowBits K C)) (GH : GF P w K mg base 3 "high_bits" ["band", "value"] (spHighBits K C)) (MM : MF P w K mg base C 5 "move" ["self", "code"] (spMove K C)) :
    FnOk P w K mg base CX0 6 f fd ["end", "first", "second"] (spByte K C D) := by
  refine F.ok scByte (fun vs H Q E h => ?_) (fun cdv A outer s H vs Q E hr h => ?_)
  · obtain ⟨e, lo, hi, E, a, b, rfl, _⟩ := h
    rfl
  · obtain ⟨e, lo, hi, Z, a, b, rfl, A, k⟩ := h
    have hr1 : Room 1 _ := hr.mono (by decide)
    have hr3 : Room 3 _ := hr.mono (by decide)
    refine ⟨_, pss_cons (ps_expr (pe_m (pv 0) TE.cl MT hr1 (pa_cons (pv 1) (pa_cons (pv 2) pa_nil))))
      (pss_cons (ps_set (i := 3) scByte.nd rfl (Or.inl rfl) (pe_m0 (pv 0) TE.cl ME hr1))
      (pss_cons (ps_set (i := 4) scByte.nd rfl (Or.inl rfl) (pe_m0 (pv 0) TE.cl MO hr1))
      (pss_cons (ps_set (i := 5) scByte.nd rfl (Or.inl rfl) (pe_g GL hr3 rfl (pa_cons (pe_fld (pv 0) rfl) (pa_cons (pe_op op_shr (pe_op op_add (pv 3) (pv 4)) pe_int) pa_nil))))
      (pss_cons (ps_set (i := 6) scByte.nd rfl (Or.inl rfl) (pe_g GH hr3 rfl (pa_cons (pe_fld (pv 0) rfl) (pa_cons (pe_op op_shr (pe_op op_sub (pv 3) (pv 4)) pe_int) pa_nil))))
      (pss_cons (ps_expr (pe_m (pe_fld (pv 0) rfl) TB.cl MM hr (pa_cons (pe_op op_shr (pv 5) pe_int) pa_nil)))
      (pss_cons (ps_expr (pe_m (pe_fld (pv 0) rfl) TB.cl MM hr (pa_cons (pv 6) pa_nil)))
      (pss_one (ps_ret (pe_op op_add (pe_op op_mul pe_int (pv 6)) (pv 5)))))))))), ?_⟩
    obtain ⟨⟨dx, xl, h1, h2⟩, _⟩ := id A
    -- end.take(first, second)
    refine ⟨_, rfl, e, dx, _, rfl, h1, rfl, _, rfl, _, rfl, e, lo, hi, Z, a, b, rfl, A, fun H1 A1 f1 => ?_⟩
    obtain ⟨⟨dx1, xl1, h11, _⟩, _⟩ := id A1
    -- e, o
    refine ⟨_, rfl, e, dx1, _, rfl, h11, rfl, e, lo, hi, _, rfl, A1, fun H2 s2 => ?_⟩
    have A2 := A1.same s2
    refine ⟨_, rfl, e, dx1, _, rfl, s2 _ _ h11, rfl, e, lo, hi, _, rfl, A2, fun H3 s3 => ?_⟩
    have A3 := A2.same s3
    have h13 := s3 _ _ (s2 _ _ h11)
    -- low, high
    refine ⟨_, rfl, e, D, dx1, _, _, rfl, h13, TE.cl, TE.n_low, rfl, _, rfl, _, rfl, _, _, rfl, rfl, _, _, rfl, rfl, (by show (0 : Int) ≤ _; decide), lo, Z.lo, _, rfl, A3.bl, fun L H4 eL s4 => ?_⟩
    have A4 := A3.same s4
    have h14 := s4 _ _ h13
    refine ⟨_, rfl, e, D, dx1, _, _, rfl, h14, TE.cl, TE.n_high, rfl, _, rfl, _, rfl, _, _, rfl, rfl, _, _, rfl, rfl, (by show (0 : Int) ≤ _; decide), hi, Z.hi, _, rfl, A4.bh, fun U eH => ?_⟩
    have bL : L ≤ 63 := by rw [eL]; exact (lowBits_range _ _).2
    have bU : U ≤ 3 := by rw [eH]; exact highBits_range _ _
    -- end.low.move(low >> 2)
    obtain ⟨dl, fl, obl, nol⟩ := A4.bl.ob
    refine ⟨_, rfl, e, D, dx1, _, _, rfl, h14, TE.cl, TE.n_low, rfl, lo, dl, _, rfl, obl, nol, _, rfl, _, _, rfl, rfl, (by show (0 : Int) ≤ _; decide), lo, Z.lo, L / 4, _, rfl, nshr L 2, A4.bl, ?_, fun H5 B5 f5 => ?_⟩
    · rw [A.hl]
      show L / 4 < 16
      omega
    have A5 := A4.low f5 B5 (mov_hi _ _)
    have h15 := f5 _ _ h14 (A4.bl.ne_ins h14)
    -- end.high.move(high)
    obtain ⟨dh, fh, obh, noh⟩ := A5.bh.ob
    refine ⟨_, rfl, e, D, dx1, _, _, rfl, h15, TE.cl, TE.n_high, rfl, hi, dh, _, rfl, obh, noh, _, rfl, hi, Z.hi, U, _, rfl, rfl, A5.bh, ?_, fun H6 B6 f6 => ?_⟩
    · rw [A.hh]
      show U < 4
      omega
    have A6 := A5.high f6 B6 (mov_hi _ _)
    refine ⟨_, rfl, _, _, rfl, rfl, .inl ⟨by decide, by decide⟩, _, rfl, _, _, rfl, rfl, ?_⟩
    have eE := encode_eq Z a b L U eL eH
    have k6 := k _ H6 A6 ?_ (((((Frm3.e f1).trans (Frm3.s s2)).trans (Frm3.s s3)).trans (Frm3.s s4)).trans ((Frm3.l f5).trans (Frm3.h f6)))
    · rw [eE] at k6
      exact castI (Q := Q) (by show ((64 * U + L : Nat) : Int) = _; rw [Int.natCast_add, Int.natCast_mul]; rfl) k6
    · rw [eE]
      exact congr (congrArg (fun u v => (⟨u, v, Sa69.shifted Z.x a b⟩ : Sa69.End)) (mov_eq _ _ (fun z => absurd (A.hl.symm.trans z) (by decide)))) (mov_eq _ _ (fun _ => by omega))
theorem scPair : FnScope ["end", "bits", "byte", "table", "low", "high", "low_value", "high_value"] ["end", "bits", "byte"] (defScope sPairOf) := ⟨rfl, rfl, rfl, by decide +kernel, rfl, by decide +kernel, by decide +kernel⟩
theorem lowT_small (bits c : Nat) : -(2 ^ 64) < (lowT bits).getD c 0 ∧ (lowT bits).getD c 0 < 2 ^ 64 := by
  unfold lowT
  split
  · exact getD_all (q := fun v => -(2 ^ 64) < v ∧ v < 2 ^ 64) Sa69.M6 (by decide) (by decide) c
  · split
    · exact getD_all (q := fun v => -(2 ^ 64) < v ∧ v < 2 ^ 64) Sa69.M5 (by decide) (by decide) c
    · exact getD_all (q := fun v => -(2 ^ 64) < v ∧ v < 2 ^ 64) Sa69.M4 (by decide) (by decide) c
theorem ok_pairOf (F : Fun K "pair_of_byte" "pair_of_byte" sPairOf f fd) (TB : BTx K C) (TE : ETx K D) (N : PyN mg) (T2 : GT K mg "M2" Sa69.M2) (MT : MF P w K mg base D 1 "take" ["self", "first", "second"] (spTake K C D)) (ME : MF P w K mg base D 1 "sum_e" ["self"] (spSumE K C D))
    (MO : MF P w K mg base D 1 "sum_o" ["self"] (spSumO K C D)) (GT' : GF P w K mg base 1 "low_table" ["bits"] (spLowTable K)) (GV : GF P w K mg base 2 "band_value" ["band", "multiplier"] (spBandValue K C)) (GH : GF P w K mg base 2 "held" ["number"] spHeld)
    (MM : MF P w K mg base C 5 "move" ["self", "code"] (spMove K C)) : FnOk P w K mg base CX0 6 f fd ["end", "bits", "byte"] (spPair K C D) := by
  obtain ⟨a2, h2g, t2⟩ := T2
  refine F.ok scPair (fun vs H Q E h => ?_) (fun cdv A outer s H vs Q E hr h => ?_)
  · obtain ⟨e, lo, hi, E, bits, c, rfl, _⟩ := h
    rfl
  · obtain ⟨e, lo, hi, Z, bits, c, rfl, A, b6, b8, k⟩ := h
    have hr1 : Room 1 _ := hr.mono (by decide)
    have hr2 : Room 2 _ := hr.mono (by decide)
    refine ⟨_, pss_cons (ps_set (i := 3) scPair.nd rfl (Or.inl rfl) (pe_g GT' hr1 rfl (pa_cons (pv 1) pa_nil)))
      (pss_cons (ps_set (i := 4) scPair.nd rfl (Or.inl rfl) (pe_op op_mod (pv 2) (pe_callB call_len_seq rfl N.len PySem.boot_len (pa_cons (pv 3) pa_nil))))
      (pss_cons (ps_set (i := 5) scPair.nd rfl (Or.inl rfl) (pe_op op_mod (pe_op op_fdiv (pv 2) (pe_callB call_len_seq rfl N.len PySem.boot_len (pa_cons (pv 3) pa_nil))) pe_int))
      (pss_cons (ps_set (i := 6) scPair.nd rfl (Or.inl rfl) (pe_g GV hr2 rfl (pa_cons (pe_fld (pv 0) rfl) (pa_cons (pe_ix ix_tup (pv 3) (pv 4) (fun _ _ => rfl)) pa_nil))))
      (pss_cons (ps_set (i := 7) scPair.nd rfl (Or.inl rfl) (pe_g GV hr2 rfl (pa_cons (pe_fld (pv 0) rfl) (pa_cons (pe_ix ix_tup (pe_gr h2g rfl) (pv 5) (fun _ _ => rfl)) pa_nil))))
      (pss_cons (ps_expr (pe_m (pe_fld (pv 0) rfl) TB.cl MM hr (pa_cons (pe_op op_shr (pv 4) (pe_op op_sub (pv 1) pe_int)) pa_nil)))
      (pss_cons (ps_expr (pe_m (pe_fld (pv 0) rfl) TB.cl MM hr (pa_cons (pv 5) pa_nil)))
      (pss_cons (ps_expr (pe_m (pv 0) TE.cl MT hr1 (pa_cons (pe_op op_add (pv 6) (pv 7)) (pa_cons (pe_op op_sub (pv 6) (pv 7)) pa_nil))))
      (pss_one (ps_ret (pe_lst (pa_cons (pe_g GH hr2 rfl (pa_cons (pe_op op_shr (pe_m0 (pv 0) TE.cl ME hr1) pe_int) pa_nil)) (pa_cons (pe_g GH hr2 rfl (pa_cons (pe_op op_shr (pe_m0 (pv 0) TE.cl MO hr1) pe_int) pa_nil)) pa_nil)))))))))))), ?_⟩
    obtain ⟨⟨dx, xl, h1, h2⟩, _⟩ := id A
    have ln : ((lowT bits).map V.int).length = 2 ^ (bits - 2) := by rw [List.length_map]; exact lowT_length b6 b8
    have hp : 0 < 2 ^ (bits - 2) := Nat.pow_pos (by decide)
    have hp8 : 2 ^ (bits - 2) ≤ 64 := by
      have : bits = 6 ∨ bits = 7 ∨ bits = 8 := by omega
      rcases this with rfl | rfl | rfl <;> decide
    -- table, low, high
    refine ⟨_, rfl, bits, rfl, b6, b8, fun aT tT => ?_⟩
    refine ⟨_, rfl, _, rfl, aT, _, rfl, .inr (tT H), _, _, rfl, rfl, (by rw [ln]; omega), ?_⟩
    have eL : ((c : Nat) : Int) % ((((lowT bits).map V.int).length : Nat) : Int) = ((c % 2 ^ (bits - 2) : Nat) : Int) := by rw [ln, Int.natCast_emod]
    refine ⟨_, rfl, _, rfl, aT, _, rfl, .inr (tT H), _, _, rfl, rfl, ⟨by rw [ln]; omega, by rw [ln]; omega⟩, _, _, rfl, rfl, (by show (0 : Int) < 4; decide), ?_⟩
    have eU : ((c : Nat) : Int) / ((((lowT bits).map V.int).length : Nat) : Int) % 4 = ((c / 2 ^ (bits - 2) % 4 : Nat) : Int) := by
      rw [ln, Int.natCast_emod, Int.natCast_ediv]
      rfl
    have bLo : c % 2 ^ (bits - 2) < 2 ^ (bits - 2) := Nat.mod_lt _ hp
    have bUp : c / 2 ^ (bits - 2) % 4 < 4 := Nat.mod_lt _ (by decide)
    obtain ⟨L, eLo⟩ : ∃ L, L = c % 2 ^ (bits - 2) := ⟨_, rfl⟩
    obtain ⟨U, eUp⟩ : ∃ U, U = c / 2 ^ (bits - 2) % 4 := ⟨_, rfl⟩
    rw [← eLo] at bLo eL
    rw [← eUp] at bUp eU
    -- low_value, high_value
    refine ⟨_, rfl, e, D, dx, _, _, rfl, h1, TE.cl, TE.n_low, rfl, _, rfl, _, rfl, aT, _, _, _, rfl, rfl, tT H, at_of (j := L) eL (tabAt _ (by rw [lowT_length b6 b8]; exact bLo)), lo, Z.lo, _, rfl, A.bl, lowT_small _ _, ?_⟩
    refine ⟨_, rfl, e, D, dx, _, _, rfl, h1, TE.cl, TE.n_high, rfl, _, rfl, a2, _, _, _, rfl, rfl, t2 H, at_of (j := U) eU (tabAt _ (show U < Sa69.M2.length from bUp)), hi, Z.hi, _, rfl, A.bh, tab_small true _, ?_⟩
    -- end.low.move(low >> bits - 6)
    obtain ⟨dl, fl, obl, nol⟩ := A.bl.ob
    have eS : ((c : Nat) : Int) % ((((lowT bits).map V.int).length : Nat) : Int) / 2 ^ (((bits : Nat) : Int) - 6).toNat = ((L / 2 ^ (bits - 2 - 4) : Nat) : Int) := by
      have : (((bits : Nat) : Int) - 6).toNat = bits - 2 - 4 := by omega
      rw [this, eL]
      exact nshr L _
    have bS : L / 2 ^ (bits - 2 - 4) < 16 := by
      have : bits = 6 ∨ bits = 7 ∨ bits = 8 := by omega
      rcases this with rfl | rfl | rfl
      · show L / 1 < 16
        have : L < 16 := bLo
        omega
      · show L / 2 < 16
        have : L < 32 := bLo
        omega
      · show L / 4 < 16
        have : L < 64 := bLo
        omega
    refine ⟨_, rfl, e, D, dx, _, _, rfl, h1, TE.cl, TE.n_low, rfl, lo, dl, _, rfl, obl, nol, _, rfl, _, rfl, _, _, rfl, rfl, _, _, rfl, rfl, (by omega), lo, Z.lo, L / 2 ^ (bits - 2 - 4), _, rfl, eS, A.bl, ?_, fun H5 B5 f5 => ?_⟩
    · rw [A.hl]
      exact bS
    have A5 := A.low f5 B5 (mov_hi _ _)
    have h15 := f5 _ _ h1 (A.bl.ne_ins h1)
    -- end.high.move(high)
    obtain ⟨dh, fh, obh, noh⟩ := A5.bh.ob
    refine ⟨_, rfl, e, D, dx, _, _, rfl, h15, TE.cl, TE.n_high, rfl, hi, dh, _, rfl, obh, noh, _, rfl, hi, Z.hi, U, _, rfl, eU, A5.bh, ?_, fun H6 B6 f6 => ?_⟩
    · rw [A.hh]
      exact bUp
    have A6 := A5.high f6 B6 (mov_hi _ _)
    have h16 := f6 _ _ h15 (A5.bh.ne_ins h15)
    -- end.take
    refine ⟨_, rfl, e, dx, _, rfl, h16, rfl, _, rfl, _, rfl, _, _, rfl, rfl, _, rfl, _, rfl, _, _, rfl, rfl, e, lo, hi, _, _, _, rfl, A6, fun H7 A7 f7 => ?_⟩
    obtain ⟨⟨dx7, xl7, h17, _⟩, _⟩ := id A7
    refine ⟨_, rfl, e, dx7, _, rfl, h17, rfl, e, lo, hi, _, rfl, A7, fun H8 s8 => ?_⟩
    have A8 := A7.same s8
    refine ⟨_, _, rfl, rfl, (by show (0 : Int) ≤ _; decide), _, rfl, _, rfl, e, dx7, _, rfl, s8 _ _ h17, rfl, e, lo, hi, _, rfl, A8, fun H9 s9 => ?_⟩
    have A9 := A8.same s9
    refine ⟨_, _, rfl, rfl, (by show (0 : Int) ≤ _; decide), _, rfl, (by show 2 ≤ sizeLine; decide), fun l nl => ?_⟩
    have fr9 : Frm3 e lo hi H H9 := ((((Frm3.l f5).trans (Frm3.h f6)).trans (Frm3.e f7)).trans (Frm3.s s8)).trans (Frm3.s s9)
    have nle : l ≠ e := (ne_of_none (s9 _ _ (s8 _ _ h17)) nl).symm
    have nll : l ≠ lo := by
      obtain ⟨_, _, q, _⟩ := A9.bl.ob
      exact (ne_of_none q nl).symm
    have nlh : l ≠ hi := by
      obtain ⟨_, _, q, _⟩ := A9.bh.ob
      exact (ne_of_none q nl).symm
    have eD := decode_eq Z bits c L U _ _ _ eLo eUp (lowT_eq b6 b8 L) rfl rfl
    have s10 : Same H9 (upd H9 l (.lst [V.int (Sa69.decode Z.spec bits c).2.1, V.int (Sa69.decode Z.spec bits c).2.2])) := same_new nl
    have k9 := k _ _ l (A9.same s10) ?_ (fr9.free nl nle nll nlh) upd_same (fr9.trans (Frm3.s s10))
    · rw [eD] at k9
      exact k9
    · rw [eD]
      exact congr (congrArg (fun u v => (⟨u, v, _⟩ : Sa69.End)) (mov_eq _ _ (fun z => absurd (A.hl.symm.trans z) (by decide)))) (mov_eq _ _ (fun _ => bUp))
end
end TB
set_option maxHeartbeats 4000000
/-! Line: begun, encoded, decoded, answer_to. -/
namespace TB
open PySem L2 TBR
def isIns : HO → Bool
  | .ins _ _ _ => true
  | _ => false
def isData : HO → Bool
  | .ins _ _ _ => true
  | .lst _ => true
  | _ => false
/-- all that is no instance is as it was -/
def Keep (H H' : Hp) : Prop := ∀ b o, H b = some o → isIns o = false → H' b = some o
theorem Keep.of_same {H H' : Hp} (h : Same H H') : Keep H H' := fun b o e _ => h b o e
theorem Keep.trans {H H1 H2 : Hp} (a : Keep H H1) (b : Keep H1 H2) : Keep H H2 := fun c o e n => b c o (a c o e n) n
theorem Keep.of_frm {p C dx : Addr} {fs : List (Str × V)} {H H' : Hp} (h : Frm p H H') (hp : H p = some (.ins C dx fs)) : Keep H H' := fun b o e n => h b o e fun z => by
  subst z
  have q := Option.some.inj (hp.symm.trans e)
  subst q
  cases n
theorem SqL.keep {K : PySem.W.Frag} {H H' : Hp} {a : Addr} {xs : List V} (h : SqL K H a xs) (k : Keep H H') : SqL K H' a xs := by
  rcases h with (h | ⟨o, h⟩) | h
  · exact .inl (.inl (k _ _ h rfl))
  · exact .inl (.inr ⟨o, k _ _ h rfl⟩)
  · exact .inr h
theorem SqL.keepU {K : PySem.W.Frag} {H H' : Hp} {a r : Addr} {o' : HO} {xs : List V} (h : SqL K H a xs) (k : Keep H H') (n : H r = none) : SqL K (upd H' r o') a xs := by
  rcases h with (h | ⟨o, h⟩) | h
  · exact .inl (.inl (by rw [upd_ne (ne_of_none h n)]; exact k _ _ h rfl))
  · exact .inl (.inr ⟨o, by rw [upd_ne (ne_of_none h n)]; exact k _ _ h rfl⟩)
  · exact .inr h
theorem BandAt.mono {K : PySem.W.Frag} {C : Addr} {H H' : Hp} {p : Addr} {x : Bd} (B : BandAt K C H p x) (h : ∀ b o, H b = some o → (b = p ∨ ∃ xs, o = .lst xs) → H' b = some o) : BandAt K C H' p x := by
  obtain ⟨dx, tb, ga, dl, bl, B⟩ := B
  exact ⟨dx, tb, ga, dl, bl, h _ _ B.ob (.inl rfl), B.tb, B.ga, h _ _ B.dl (.inr ⟨_, rfl⟩), h _ _ B.bl (.inr ⟨_, rfl⟩), B.ld, B.lb⟩
theorem EndAt.mono {K : PySem.W.Frag} {C D : Addr} {H H' : Hp} {e lo hi : Addr} {E : Ed} (A : EndAt K C D H e lo hi E) (h : ∀ b o, H b = some o → (b = e ∨ b = lo ∨ b = hi ∨ ∃ xs, o = .lst xs) → H' b = some o) : EndAt K C D H' e lo hi E := by
  obtain ⟨⟨dx, xl, h1, h2⟩, bl, bh, a, b, c, d⟩ := A
  refine ⟨⟨dx, xl, h _ _ h1 (.inl rfl), h _ _ h2 (.inr (.inr (.inr ⟨_, rfl⟩)))⟩, bl.mono fun b o q z => h b o q ?_, bh.mono fun b o q z => h b o q ?_, a, b, c, d⟩
  · rcases z with z | z
    · exact .inr (.inl z)
    · exact .inr (.inr (.inr z))
  · rcases z with z | z
    · exact .inr (.inr (.inl z))
    · exact .inr (.inr (.inr z))
def lf (e1 e2 : Addr) : List (Str × V) := [("encoder", .ref e1), ("decoder", .ref e2)]
structure LTx (K : PySem.W.Frag) (L : Addr) : Prop where
  cl : Cls K L
  n_encoder : NoAttr K L "encoder"
  n_decoder : NoAttr K L "decoder"
structure LineIs (K : PySem.W.Frag) (C D L : Addr) (H : Hp) (l dx e1 lo1 hi1 e2 lo2 hi2 : Addr) (E1 E2 : Ed) : Prop where
  ob : H l = some (.ins L dx (lf e1 e2))
  a1 : EndAt K C D H e1 lo1 hi1 E1
  a2 : EndAt K C D H e2 lo2 hi2 E2
  ne : e1 ≠ e2
  n1 : lo1 ≠ lo2
  n2 : lo1 ≠ hi2
  n3 : hi1 ≠ lo2
  n4 : hi1 ≠ hi2
def LineAt (K : PySem.W.Frag) (C D L : Addr) (H : Hp) (l : Addr) (E1 E2 : Ed) : Prop := ∃ dx e1 lo1 hi1 e2 lo2 hi2, LineIs K C D L H l dx e1 lo1 hi1 e2 lo2 hi2 E1 E2
theorem LineIs.mono {K : PySem.W.Frag} {C D L : Addr} {H H' : Hp} {l dx e1 lo1 hi1 e2 lo2 hi2 : Addr} {E1 E2 : Ed} (A : LineIs K C D L H l dx e1 lo1 hi1 e2 lo2 hi2 E1 E2) (h : ∀ b o, H b = some o → isData o = true → H' b = some o) :
    LineIs K C D L H' l dx e1 lo1 hi1 e2 lo2 hi2 E1 E2 := by
  have go : ∀ {e lo hi : Addr} {E : Ed}, EndAt K C D H e lo hi E → EndAt K C D H' e lo hi E := fun {e lo hi E} A => by
    refine A.mono fun b o q z => h b o q ?_
    obtain ⟨⟨dx, xl, h1, h2⟩, bl, bh, _⟩ := A
    rcases z with rfl | rfl | rfl | ⟨xs, rfl⟩
    · have := Option.some.inj (h1.symm.trans q)
      subst this
      rfl
    · obtain ⟨_, _, z, _⟩ := bl.ob
      have := Option.some.inj (z.symm.trans q)
      subst this
      rfl
    · obtain ⟨_, _, z, _⟩ := bh.ob
      have := Option.some.inj (z.symm.trans q)
      subst this
      rfl
    · rfl
  exact ⟨h _ _ A.ob rfl, go A.a1, go A.a2, A.ne, A.n1, A.n2, A.n3, A.n4⟩
theorem LineAt.mono {K : PySem.W.Frag} {C D L : Addr} {H H' : Hp} {l : Addr} {E1 E2 : Ed} (A : LineAt K C D L H l E1 E2) (h : ∀ b o, H b = some o → isData o = true → H' b = some o) : LineAt K C D L H' l E1 E2 := by
  obtain ⟨dx, e1, lo1, hi1, e2, lo2, hi2, A⟩ := A
  exact ⟨dx, e1, lo1, hi1, e2, lo2, hi2, A.mono h⟩
theorem LineAt.same {K : PySem.W.Frag} {C D L : Addr} {H H' : Hp} {l : Addr} {E1 E2 : Ed} (A : LineAt K C D L H l E1 E2) (h : Same H H') : LineAt K C D L H' l E1 E2 := A.mono fun b o e _ => h b o e
/-- whatever stands at r, where nothing of the line stands -/
theorem LineIs.over {K : PySem.W.Frag} {C D L : Addr} {H : Hp} {l dx e1 lo1 hi1 e2 lo2 hi2 r : Addr} {E1 E2 : Ed} (A : LineIs K C D L H l dx e1 lo1 hi1 e2 lo2 hi2 E1 E2) (n : ∀ o, H r = some o → isData o = false) (o : HO) : LineIs K C D L (upd H r o) l dx e1 lo1 hi1 e2 lo2 hi2 E1 E2 :=
  A.mono fun b u e d => by
    rw [upd_ne (fun z => by subst z; rw [n _ e] at d; cases d)]
    exact e
theorem LineAt.over {K : PySem.W.Frag} {C D L : Addr} {H : Hp} {l r : Addr} {E1 E2 : Ed} (A : LineAt K C D L H l E1 E2) (n : ∀ o, H r = some o → isData o = false) (o : HO) : LineAt K C D L (upd H r o) l E1 E2 := by
  obtain ⟨dx, e1, lo1, hi1, e2, lo2, hi2, A⟩ := A
  exact ⟨dx, e1, lo1, hi1, e2, lo2, hi2, A.over n o⟩
theorem BandAt.ne_line {K : PySem.W.Frag} {C L : Addr} {H : Hp} {p l dx : Addr} {x : Bd} {e1 e2 : Addr} (B : BandAt K C H p x) (h : H l = some (.ins L dx (lf e1 e2))) : l ≠ p := fun z => by
  obtain ⟨dx', tb, ga, dl, bl, B⟩ := B
  subst z
  have e2 := Option.some.inj (h.symm.trans B.ob)
  injection e2 with _ _ e3
  exact absurd (congrArg List.length e3) (by show ¬ (2 = 16); decide)
theorem EndAt.ne_line {K : PySem.W.Frag} {C D L : Addr} {H : Hp} {e lo hi l dx : Addr} {E : Ed} {e1 e2 : Addr} (A : EndAt K C D H e lo hi E) (h : H l = some (.ins L dx (lf e1 e2))) : l ≠ e := fun z => by
  obtain ⟨⟨dx', xl, h1, _⟩, _⟩ := A
  subst z
  have e2 := Option.some.inj (h.symm.trans h1)
  injection e2 with _ _ e3
  exact absurd (congrArg List.length e3) (by show ¬ (2 = 3); decide)
/-- what an end's change leaves as it was -/
theorem Frm3.keep {K : PySem.W.Frag} {C D : Addr} {H H' : Hp} {e lo hi : Addr} {E : Ed} (A : EndAt K C D H e lo hi E) (f : Frm3 e lo hi H H') : Keep H H' := fun b o q n => by
  obtain ⟨⟨dx, xl, h1, _⟩, bl, bh, _⟩ := A
  have no : ∀ {p C' d' : Addr} {fs : List (Str × V)}, H p = some (.ins C' d' fs) → b ≠ p := fun hp z => by
    subst z
    have := Option.some.inj (hp.symm.trans q)
    subst this
    cases n
  obtain ⟨_, _, z1, _⟩ := bl.ob
  obtain ⟨_, _, z2, _⟩ := bh.ob
  exact f b o q (no h1) (no z1) (no z2)
theorem EndAt.other {K : PySem.W.Frag} {C D : Addr} {H H' : Hp} {e lo hi e' lo' hi' : Addr} {E E' : Ed} (A : EndAt K C D H e lo hi E) (B : EndAt K C D H e' lo' hi' E') (f : Frm3 e lo hi H H') (n0 : e' ≠ e) (n1 : lo' ≠ lo) (n2 : lo' ≠ hi) (n3 : hi' ≠ lo) (n4 : hi' ≠ hi) : EndAt K C D H' e' lo' hi' E' := by
  have k := f.keep A
  obtain ⟨⟨dx, xl, h1, _⟩, bl, bh, _⟩ := id A
  obtain ⟨⟨dx', xl', h1', _⟩, bl', bh', _⟩ := id B
  refine B.mono fun b o q z => ?_
  rcases z with rfl | rfl | rfl | ⟨xs, rfl⟩
  · exact f _ _ q n0 (bl.ne_ins h1') (bh.ne_ins h1')
  · exact f _ _ q (bl'.ne_ins h1).symm n1 n2
  · exact f _ _ q (bh'.ne_ins h1).symm n3 n4
  · exact k _ _ q rfl
theorem LineIs.enc {K : PySem.W.Frag} {C D L : Addr} {H H' : Hp} {l dx e1 lo1 hi1 e2 lo2 hi2 : Addr} {E1 E2 E1' : Ed} (A : LineIs K C D L H l dx e1 lo1 hi1 e2 lo2 hi2 E1 E2) (B : EndAt K C D H' e1 lo1 hi1 E1') (f : Frm3 e1 lo1 hi1 H H') :
    LineIs K C D L H' l dx e1 lo1 hi1 e2 lo2 hi2 E1' E2 :=
  ⟨f _ _ A.ob (A.a1.ne_line A.ob) (A.a1.bl.ne_line A.ob) (A.a1.bh.ne_line A.ob), B, A.a1.other A.a2 f A.ne.symm A.n1.symm A.n3.symm A.n2.symm A.n4.symm, A.ne, A.n1, A.n2, A.n3, A.n4⟩
theorem LineIs.dec {K : PySem.W.Frag} {C D L : Addr} {H H' : Hp} {l dx e1 lo1 hi1 e2 lo2 hi2 : Addr} {E1 E2 E2' : Ed} (A : LineIs K C D L H l dx e1 lo1 hi1 e2 lo2 hi2 E1 E2) (B : EndAt K C D H' e2 lo2 hi2 E2') (f : Frm3 e2 lo2 hi2 H H') :
    LineIs K C D L H' l dx e1 lo1 hi1 e2 lo2 hi2 E1 E2' :=
  ⟨f _ _ A.ob (A.a2.ne_line A.ob) (A.a2.bl.ne_line A.ob) (A.a2.bh.ne_line A.ob), A.a2.other A.a1 f A.ne A.n1 A.n2 A.n3 A.n4, B, A.ne, A.n1, A.n2, A.n3, A.n4⟩
/-- how a call of the line ends -/
def Done (K : PySem.W.Frag) (C D L : Addr) (H : Hp) (l : Addr) (E1 E2 : Ed) (c : List (List Int)) (Q : VK) : Prop :=
  ∀ (r : Addr) (H' : Hp) (E1' E2' : Ed) (ans : List Int), LineAt K C D L H' l E1' E2' → Sa69Neutral.step (some ⟨E1.spec, E2.spec⟩) c = (some ⟨E1'.spec, E2'.spec⟩, ans) → H' r = some (.lst (ans.map V.int)) → Keep H H' → Q (.ref r) H'
theorem Done.same {K : PySem.W.Frag} {C D L : Addr} {H H1 : Hp} {l : Addr} {E1 E2 : Ed} {c : List (List Int)} {Q : VK} (d : Done K C D L H l E1 E2 c Q) (s : Same H H1) : Done K C D L H1 l E1 E2 c Q := fun r H' E1' E2' ans a b h k => d r H' E1' E2' ans a b h ((Keep.of_same s).trans k)
def spLineInit (K : PySem.W.Frag) (C D L : Addr) : Sp := fun vs H Q _ => ∃ (l dx : Addr), vs = [.ref l] ∧ H l = some (.ins L dx []) ∧ ∀ H', LineAt K C D L H' l ed0 ed0 → Keep H H' → Q .non H'
def spBegun (K : PySem.W.Frag) (C D L : Addr) : Sp := fun vs H Q _ => ∃ (l : Addr) (E1 E2 : Ed), vs = [.ref l] ∧ LineAt K C D L H l E1 E2 ∧ Done K C D L H l E1 E2 [[1]] Q
def spEncoded (K : PySem.W.Frag) (C D L : Addr) : Sp := fun vs H Q _ => ∃ (l sl : Addr) (E1 E2 : Ed) (a : Int) (xs : List Int), vs = [.ref l, .int a, .ref sl] ∧ LineAt K C D L H l E1 E2 ∧ SqL K H sl (xs.map V.int) ∧
  ((xs.length : Int) = if 0 ≤ a ∧ a ≤ 65536 then 2 * a else 0) ∧ Done K C D L H l E1 E2 [[2, a], xs] Q
def spDecoded (K : PySem.W.Frag) (C D L : Addr) : Sp := fun vs H Q _ => ∃ (l sl : Addr) (E1 E2 : Ed) (b : Int) (xs : List Int), vs = [.ref l, .int b, .ref sl] ∧ LineAt K C D L H l E1 E2 ∧ SqL K H sl (xs.map V.int) ∧
  (∀ z ∈ xs, 0 ≤ z ∧ z ≤ 255) ∧ xs.length ≤ 65536 ∧ Done K C D L H l E1 E2 [[3, (xs.length : Int), b], xs] Q
theorem take_pair {xs : List Int} {i : Nat} (h : 2 * (i + 1) ≤ xs.length) : xs.take (2 * (i + 1)) = xs.take (2 * i) ++ [xs.getD (2 * i) 0, xs.getD (2 * i + 1) 0] := by
  have h1 : 2 * i < xs.length := by omega
  have h2 : 2 * i + 1 < xs.length := by omega
  have e : 2 * (i + 1) = 2 * i + 1 + 1 := by omega
  rw [e, List.take_succ_eq_append_getElem h2, List.take_succ_eq_append_getElem h1, List.append_assoc]
  rw [List.getD_eq_getElem?_getD, List.getD_eq_getElem?_getD, List.getElem?_eq_getElem h1, List.getElem?_eq_getElem h2]
  rfl
theorem enc_step (E : Sa69.End) {xs : List Int} {i : Nat} (h : 2 * (i + 1) ≤ xs.length) : Sa69.encodeAll E (xs.take (2 * (i + 1))) =
    ((Sa69.encode (Sa69.encodeAll E (xs.take (2 * i))).1 (xs.getD (2 * i) 0) (xs.getD (2 * i + 1) 0)).1,
      (Sa69.encodeAll E (xs.take (2 * i))).2 ++ [(Sa69.encode (Sa69.encodeAll E (xs.take (2 * i))).1 (xs.getD (2 * i) 0) (xs.getD (2 * i + 1) 0)).2]) := by
  rw [take_pair h, encodeAll_append i _ _ _ (by rw [List.length_take]; omega)]
  rfl
theorem noData {H : Hp} {r : Addr} (n : H r = none) : ∀ o, H r = some o → isData o = false := fun o e => by rw [n] at e; cases e
section
variable {P : Program} {w : World} {K : PySem.W.Frag} {mg : Str → Option Value} {base : Heap} {f C D L : Addr} {fd : FuncData}
/-- an attribute of the line is stored: an end that stands elsewhere stays -/
theorem EndAt.past {H : Hp} {e lo hi l dx : Addr} {fs fs' : List (Str × V)} {E : Ed} (A : EndAt K C D H e lo hi E) (hl : H l = some (.ins L dx fs)) (n0 : e ≠ l) (n1 : lo ≠ l) (n2 : hi ≠ l) : EndAt K C D (upd H l (.ins L dx fs')) e lo hi E :=
  A.mono fun b o q z => by
    have nb : b ≠ l := fun w => by
      rcases z with z | z | z | ⟨xs, z⟩
      · exact n0 (z ▸ w)
      · exact n1 (z ▸ w)
      · exact n2 (z ▸ w)
      · subst z
        subst w
        cases (hl.symm.trans q)
    rw [upd_ne nb]
    exact q
theorem made0 {H : Hp} {x d : Addr} (nx : H x = none) (nd : H d = none) (o : HO) : Same H (upd (upd H d (.own x)) x o) := fun b u e => by rw [upd_ne (ne_of_none e nx), upd_ne (ne_of_none e nd)]; exact e
/-- the two ends are made anew -/
theorem two_ends {H : Hp} {l dx : Addr} {fs : List (Str × V)} {R : Hp → Prop} (hl : H l = some (.ins L dx fs)) (hfs : ∀ e1 e2, putF "decoder" (.ref e2) (putF "encoder" (.ref e1) fs) = lf e1 e2)
    (k : ∀ H', LineAt K C D L H' l ed0 ed0 → Keep H H' → R H') :
    ∀ e1 d1, H e1 = none → H d1 = none → d1 ≠ e1 → spEndInit K C D [.ref e1] (upd (upd H d1 (.own e1)) e1 (.ins D d1 [])) (fun v H1 => v = .non ∧
      (∀ e2 d2, (upd H1 l (.ins L dx (putF "encoder" (.ref e1) fs))) e2 = none → (upd H1 l (.ins L dx (putF "encoder" (.ref e1) fs))) d2 = none → d2 ≠ e2 →
        spEndInit K C D [.ref e2] (upd (upd (upd H1 l (.ins L dx (putF "encoder" (.ref e1) fs))) d2 (.own e2)) e2 (.ins D d2 [])) (fun v H3 => v = .non ∧ H3 l = some (.ins L dx (putF "encoder" (.ref e1) fs)) ∧ R (upd H3 l (.ins L dx (putF "decoder" (.ref e2) (putF "encoder" (.ref e1) fs))))) E0) ∧ H1 l = some (.ins L dx fs)) E0 := by
  intro e1 d1 n1 m1 x1
  refine ⟨e1, d1, rfl, upd_same, fun lo1 hi1 H1 A1 nlo1 nhi1 f1 => ⟨rfl, ?_⟩⟩
  have s0 := made0 n1 m1 (.ins D d1 [])
  have s1 : Same H H1 := Same.made n1 m1 f1
  have hl1 := s1 _ _ hl
  refine ⟨?_, hl1⟩
  have ne1 : e1 ≠ l := (ne_of_none hl n1).symm
  have nl1 : lo1 ≠ l := (ne_of_none hl (s0.free nlo1)).symm
  have nh1 : hi1 ≠ l := (ne_of_none hl (s0.free nhi1)).symm
  have A2 := A1.past (fs' := putF "encoder" (.ref e1) fs) hl1 ne1 nl1 nh1
  have f2 := Frm.upd (p := l) (H := H1) (.ins L dx (putF "encoder" (.ref e1) fs))
  have hl2 : (upd H1 l (.ins L dx (putF "encoder" (.ref e1) fs))) l = some (.ins L dx (putF "encoder" (.ref e1) fs)) := upd_same
  generalize upd H1 l (.ins L dx (putF "encoder" (.ref e1) fs)) = H2 at A2 f2 hl2 ⊢
  intro e2 d2 n2 m2 x2
  refine ⟨e2, d2, rfl, upd_same, fun lo2 hi2 H3 A3 nlo2 nhi2 f3 => ⟨rfl, ?_⟩⟩
  have t0 := made0 n2 m2 (.ins D d2 [])
  have s3 : Same H2 H3 := Same.made n2 m2 f3
  have hl3 := s3 _ _ hl2
  refine ⟨hl3, ?_⟩
  have ne2 : e2 ≠ l := (ne_of_none hl2 n2).symm
  have nl2 : lo2 ≠ l := (ne_of_none hl2 (t0.free nlo2)).symm
  have nh2 : hi2 ≠ l := (ne_of_none hl2 (t0.free nhi2)).symm
  have B3 := A2.same s3
  obtain ⟨⟨dy, xl, q1, _⟩, _⟩ := id A2
  obtain ⟨_, _, z1, _⟩ := A2.bl.ob
  obtain ⟨_, _, z2, _⟩ := A2.bh.ob
  refine k _ ⟨dx, e1, lo1, hi1, e2, lo2, hi2, ?_, B3.past hl3 ne1 nl1 nh1, A3.past hl3 ne2 nl2 nh2, ne_of_none q1 n2, ne_of_none z1 (t0.free nlo2), ne_of_none z1 (t0.free nhi2), ne_of_none z2 (t0.free nlo2), ne_of_none z2 (t0.free nhi2)⟩ ?_
  · rw [upd_same, hfs]
  · exact (((Keep.of_same s1).trans (Keep.of_frm f2 hl1)).trans (Keep.of_same s3)).trans (Keep.of_frm (Frm.upd _) hl3)
theorem lf_new (e1 e2 : Addr) : putF "decoder" (.ref e2) (putF "encoder" (.ref e1) []) = lf e1 e2 := rfl
theorem lf_put (a b e1 e2 : Addr) : putF "decoder" (.ref e2) (putF "encoder" (.ref e1) (lf a b)) = lf e1 e2 := rfl
theorem scLI : FnScope ["self"] ["self"] (defScope sLineInit) := ⟨rfl, rfl, rfl, by decide +kernel, rfl, by decide +kernel, by decide +kernel⟩
theorem ok_lineInit (F : Fun K "__init__" "Line.__init__" sLineInit f fd) (T : LTx K L) (KE : KF P w K mg base D 4 "End" ["self"] (spEndInit K C D)) : FnOk P w K mg base CX0 6 f fd ["self"] (spLineInit K C D L) := by
  refine F.ok scLI (fun vs H Q E h => ?_) (fun cdv A outer s H vs Q E hr h => ?_)
  · obtain ⟨l, dx, rfl, _⟩ := h
    rfl
  · obtain ⟨l, dx, rfl, hl, k⟩ := h
    refine ⟨_, pss_cons (ps_fld (pv 0) (pe_k0 KE hr rfl) rfl) (pss_one (ps_fld (pv 0) (pe_k0 KE hr rfl) rfl)), ?_⟩
    intro e1 d1 n1 m1 x1
    obtain ⟨e, d, e0, h0, k0⟩ := two_ends (K := K) (C := C) (D := D) (R := fun H' => Q .non H') hl (lf_new) k e1 d1 n1 m1 x1
    refine ⟨e, d, e0, h0, fun lo hi H1 A1 a b c => ⟨rfl, ?_⟩⟩
    obtain ⟨_, k1, hl1⟩ := k0 lo hi H1 A1 a b c
    refine ⟨_, rfl, l, L, dx, _, rfl, hl1, T.cl, T.n_encoder, (by show 0 < 1000; decide), ?_⟩
    intro e2 d2 n2 m2 x2
    obtain ⟨e', d', e0', h0', k0'⟩ := k1 e2 d2 n2 m2 x2
    refine ⟨e', d', e0', h0', fun lo hi H1 A1 a b c => ⟨rfl, ?_⟩⟩
    obtain ⟨_, hl3, k3⟩ := k0' lo hi H1 A1 a b c
    exact ⟨_, rfl, l, L, dx, _, rfl, hl3, T.cl, T.n_decoder, (by show 1 < 1000; decide), k3⟩
theorem scBg : FnScope ["self"] ["self"] (defScope sBegun) := ⟨rfl, rfl, rfl, by decide +kernel, rfl, by decide +kernel, by decide +kernel⟩
theorem ok_begun (F : Fun K "begun" "Line.begun" sBegun f fd) (T : LTx K L) (KE : KF P w K mg base D 4 "End" ["self"] (spEndInit K C D)) : FnOk P w K mg base CX0 6 f fd ["self"] (spBegun K C D L) := by
  refine F.ok scBg (fun vs H Q E h => ?_) (fun cdv A outer s H vs Q E hr h => ?_)
  · obtain ⟨l, E1, E2, rfl, _⟩ := h
    rfl
  · obtain ⟨l, E1, E2, rfl, ⟨dx, a1, b1, c1, a2, b2, c2, W⟩, k⟩ := h
    refine ⟨_, pss_cons (ps_fld (pv 0) (pe_k0 KE hr rfl) rfl) (pss_cons (ps_fld (pv 0) (pe_k0 KE hr rfl) rfl) (pss_one (ps_ret (pe_lst (pa_cons pe_int pa_nil))))), ?_⟩
    have fin : ∀ H', LineAt K C D L H' l ed0 ed0 → Keep H H' → (1 ≤ sizeLine ∧ ∀ r, H' r = none → Q (.ref r) (upd H' r (.lst [V.int 0]))) := fun H' W' kp => ⟨by decide, fun r nr => by
      have s := same_new (o := .lst [V.int 0]) nr
      exact k r _ ed0 ed0 [0] (W'.same s) (step_beg _) upd_same (kp.trans (Keep.of_same s))⟩
    intro e1 d1 n1 m1 x1
    obtain ⟨e, d, e0, h0, k0⟩ := two_ends (K := K) (C := C) (D := D) (R := fun H' => 1 ≤ sizeLine ∧ ∀ r, H' r = none → Q (.ref r) (upd H' r (.lst [V.int 0]))) W.ob (lf_put a1 a2) fin e1 d1 n1 m1 x1
    refine ⟨e, d, e0, h0, fun lo hi H1 A1 a b c => ⟨rfl, ?_⟩⟩
    obtain ⟨_, k1, hl1⟩ := k0 lo hi H1 A1 a b c
    refine ⟨_, rfl, l, L, dx, _, rfl, hl1, T.cl, T.n_encoder, (by show 2 < 1000; decide), ?_⟩
    intro e2 d2 n2 m2 x2
    obtain ⟨e', d', e0', h0', k0'⟩ := k1 e2 d2 n2 m2 x2
    refine ⟨e', d', e0', h0', fun lo hi H1 A1 a b c => ⟨rfl, ?_⟩⟩
    obtain ⟨_, hl3, k3⟩ := k0' lo hi H1 A1 a b c
    exact ⟨_, rfl, l, L, dx, _, rfl, hl3, T.cl, T.n_decoder, (by show 2 < 1000; decide), k3⟩
theorem scEn : FnScope ["self", "pairs", "samples", "answer", "i"] ["self", "pairs", "samples"] (defScope sEncoded) := ⟨rfl, rfl, rfl, by decide +kernel, rfl, by decide +kernel, by decide +kernel⟩
theorem ok_encoded (F : Fun K "encoded" "Line.encoded" sEncoded f fd) (T : LTx K L) (N : PyN mg) (IM : GI mg "MOST_PAIRS" 65536) (IR : GI mg "REFUSED" (-2)) (GB : GF P w K mg base 6 "byte_of_pair" ["end", "first", "second"] (spByte K C D)) :
    FnOk P w K mg base CX0 7 f fd ["self", "pairs", "samples"] (spEncoded K C D L) := by
  refine F.ok scEn (fun vs H Q E h => ?_) (fun cdv A outer s H vs Q E hr h => ?_)
  · obtain ⟨l, sl, E1, E2, a, xs, rfl, _⟩ := h
    rfl
  · obtain ⟨l, sl, E1, E2, a, xs, rfl, W, hS, hlen, k⟩ := h
    refine ⟨_, pss_cons (ps_if (PW.pt (pw_or (pt_cmpR op_lt (pv 1) pe_int (nomark _)) (pw_or1 (pt_cmpR op_gt (pv 1) (pe_gi IM rfl) (nomark _))))) (pss_one (ps_ret (pe_lst (pa_cons (pe_gi IR rfl) pa_nil)))) pss_nil)
      (pss_cons (ps_set (i := 3) scEn.nd rfl (Or.inl rfl) (pe_lst (pa_cons (pv 1) pa_nil)))
      (pss_cons (ps_for PassesOwn.never rfl (pi_range1 rfl N.range (pa_cons (pv 1) pa_nil)) (pg_name (i := 4) scEn.nd rfl (Or.inl rfl))
        (pss_one (ps_expr (pe_bm PySem.F.plainAttrs_list PySem.F.slot_list_append PySem.F.type_list_append mt_append (pv 3) (pa_cons (pe_lock (pe_g GB hr rfl (pa_cons (pe_fld (pv 0) rfl) (pa_cons (pe_ix ix_list (pv 2) (pe_op op_mul pe_int (pv 4)) (fun _ _ => rfl))
          (pa_cons (pe_ix ix_list (pv 2) (pe_op op_add (pe_op op_mul pe_int (pv 4)) pe_int) (fun _ _ => rfl)) pa_nil))))) pa_nil)))))
      (pss_one (ps_ret (pv 3))))), ?_⟩
    have refuse : ¬ (0 ≤ a ∧ a ≤ 65536) → (1 ≤ sizeLine ∧ ∀ r, H r = none → Q (.ref r) (upd H r (.lst [V.int (-2)]))) := fun bad => ⟨by decide, fun r nr => by
      have s := same_new (o := .lst [V.int (-2)]) nr
      exact k r _ E1 E2 [-2] (W.same s) (step_enc_bad _ _ _ bad) upd_same (Keep.of_same s)⟩
    refine ⟨_, rfl, _, _, rfl, rfl, _, rfl, ite2 (fun h1 => iteT ?_) (fun h1 => ?_)⟩
    · have h1 := dec_t h1
      exact refuse (by omega)
    have h1 := dec_f h1
    refine ⟨_, rfl, _, _, rfl, rfl, _, rfl, ite2 (fun h2 => ?_) (fun h2 => ?_)⟩
    · have h2 := dec_t h2
      exact refuse (by omega)
    have h2 := dec_f h2
    have good : 0 ≤ a ∧ a ≤ 65536 := ⟨by omega, by omega⟩
    rw [if_pos good] at hlen
    refine ⟨_, rfl, (by show 1 ≤ sizeLine; decide), fun r nr => ?_⟩
    obtain ⟨dx, e1, lo1, hi1, e2, lo2, hi2, W⟩ := W
    refine ⟨_, rfl, a, rfl, by omega, by omega, for_range (n := a.toNat) (fun i σ H2 => ∃ (v : Option V) (E1' : Ed), σ = [some (.ref l), some (.int a), some (.ref sl), some (.ref r), v] ∧ (∀ o, LineIs K C D L (upd H2 r o) l dx e1 lo1 hi1 e2 lo2 hi2 E1' E2) ∧
        E1'.spec = (Sa69.encodeAll E1.spec (xs.take (2 * i))).1 ∧ H2 r = some (.lst ((a :: (Sa69.encodeAll E1.spec (xs.take (2 * i))).2.map fun (n : Nat) => (n : Int)).map V.int)) ∧ Keep H H2)
      ⟨none, E1, rfl, fun o => by rw [upd_upd]; exact W.over (noData nr) o, rfl, upd_same, Keep.of_same (same_new nr)⟩ ?_ ?_⟩
    · rintro i σ H2 hi ⟨v, E1', rfl, WR, eS, hr2, kp⟩
      have h2i : 2 * (i + 1) ≤ xs.length := by omega
      have lacc : (Sa69.encodeAll E1.spec (xs.take (2 * i))).2.length = i := encodeAll_length i _ _ (by rw [List.length_take]; omega)
      refine ⟨_, rfl, .inl ⟨rfl, _, SqL.of hr2⟩, r, _, hr2, trivial, fun od => ?_⟩
      have W2 := WR (.frz od (.lst ((a :: (Sa69.encodeAll E1.spec (xs.take (2 * i))).2.map fun (n : Nat) => (n : Int)).map V.int)))
      have hS2 : SqL K (upd H2 r (.frz od (.lst ((a :: (Sa69.encodeAll E1.spec (xs.take (2 * i))).2.map fun (n : Nat) => (n : Int)).map V.int)))) sl (xs.map V.int) := SqL.keepU hS kp nr
      have r2 : (upd H2 r (.frz od (.lst ((a :: (Sa69.encodeAll E1.spec (xs.take (2 * i))).2.map fun (n : Nat) => (n : Int)).map V.int)))) r = some (.frz od (.lst ((a :: (Sa69.encodeAll E1.spec (xs.take (2 * i))).2.map fun (n : Nat) => (n : Int)).map V.int))) := upd_same
      have kp2 : ∀ b o, H b = some o → isIns o = false → (upd H2 r (.frz od (.lst ((a :: (Sa69.encodeAll E1.spec (xs.take (2 * i))).2.map fun (n : Nat) => (n : Int)).map V.int)))) b = some o := fun b o q n => by
        rw [upd_ne (ne_of_none q nr)]
        exact kp b o q n
      generalize upd H2 r (.frz od (.lst ((a :: (Sa69.encodeAll E1.spec (xs.take (2 * i))).2.map fun (n : Nat) => (n : Int)).map V.int))) = HL at W2 hS2 r2 kp2 ⊢
      refine ⟨_, rfl, l, L, dx, _, _, rfl, W2.ob, T.cl, T.n_encoder, rfl, _, rfl, _, rfl, _, _, rfl, rfl, .inl ⟨by decide, by decide⟩, sl, _, _, _, rfl, rfl, hS2, at_of (j := 2 * i) (by omega) (tabAt xs (by omega)),
        _, rfl, _, rfl, _, _, rfl, rfl, .inl ⟨by decide, by decide⟩, _, _, rfl, rfl, sl, _, _, _, rfl, rfl, hS2, at_of (j := 2 * i + 1) (by omega) (tabAt xs (by omega)), e1, lo1, hi1, E1', _, _, rfl, W2.a1, fun E1'' H3 A3 eE f3 => ?_⟩
      have W3 := W2.enc A3 f3
      have kp3 := f3.keep W2.a1
      have r3 := kp3 _ _ r2 rfl
      refine ⟨r3, r, _, _, rfl, rfl, upd_same, ?_, ?_⟩
      · rw [List.length_map, List.length_cons, List.length_map, lacc]
        have : sizeLine = 16777216 := by decide
        omega
      · refine ⟨_, E1'', rfl, fun o => ?_, ?_, ?_, fun b o q n => ?_⟩
        · rw [upd_upd, upd_upd]
          exact W3.over (fun o' q => by rw [r3] at q; cases q; rfl) o
        · rw [eE, eS, enc_step _ h2i]
        · rw [upd_same, enc_step _ h2i, eS, List.map_append, ← List.cons_append, List.map_append]
          rfl
        · rw [upd_ne (ne_of_none q nr), upd_ne (ne_of_none q nr)]
          exact kp3 _ _ (kp2 b o q n) n
    · rintro σ H2 ⟨v, E1', rfl, WR, eS, hr2, kp⟩
      have et : xs.take (2 * a.toNat) = xs := List.take_of_length_le (by omega)
      rw [et] at eS hr2
      have W2 := WR (.lst ((a :: (Sa69.encodeAll E1.spec xs).2.map fun (n : Nat) => (n : Int)).map V.int))
      have eu : upd H2 r (.lst ((a :: (Sa69.encodeAll E1.spec xs).2.map fun (n : Nat) => (n : Int)).map V.int)) = H2 := by
        funext b
        by_cases hb : b = r
        · rw [hb, upd_same, hr2]
        · rw [upd_ne hb]
      rw [eu] at W2
      refine ⟨_, rfl, k r H2 E1' E2 _ ⟨dx, e1, lo1, hi1, e2, lo2, hi2, W2⟩ ?_ hr2 kp⟩
      rw [step_enc _ _ _ good, eS]
end
end TB
set_option maxHeartbeats 4000000
/-! decoded, answer_to, length_of_call, answers. -/
namespace TB
open PySem L2 TBR
/-- one call as its numbers stand in the list -/
def OneCall (flat : List Int) (c : List (List Int)) : Prop :=
  (flat = [1] ∧ c = [[1]]) ∨ (∃ (a : Int) (x : List Int), flat = 2 :: a :: (x.length : Int) :: x ∧ c = [[2, a], x] ∧ ((x.length : Int) = if 0 ≤ a ∧ a ≤ 65536 then 2 * a else 0)) ∨
  (∃ (b : Int) (x : List Int), flat = 3 :: b :: (x.length : Int) :: x ∧ c = [[3, (x.length : Int), b], x] ∧ (∀ z ∈ x, 0 ≤ z ∧ z ≤ 255) ∧ x.length ≤ 65536)
def spAnswerTo (K : PySem.W.Frag) (C D L : Addr) : Sp := fun vs H Q _ => ∃ (l cl : Addr) (E1 E2 : Ed) (flat : List Int) (c : List (List Int)), vs = [.ref l, .ref cl] ∧ LineAt K C D L H l E1 E2 ∧ SqL K H cl (flat.map V.int) ∧ OneCall flat c ∧ Done K C D L H l E1 E2 c Q
/-- how long the call at a place is -/
def LenIs (ns : List Int) (i : Nat) (n : Int) : Prop := ∃ h, ns[i]? = some h ∧ ((h = 1 ∧ n = 1) ∨ (¬ h = 1 ∧ ∃ m, ns[i + 2]? = some m ∧ n = 3 + m))
def spLenCall (K : PySem.W.Frag) : Sp := fun vs H Q _ => ∃ (a : Addr) (ns : List Int) (i : Nat) (n : Int), vs = [.ref a, .int (i : Int)] ∧ SqL K H a (ns.map V.int) ∧ LenIs ns i n ∧ Q (.int n) H
theorem cut3 (p q m : Int) (x : List Int) : cutV ((p :: q :: m :: x).map V.int) (some 3) none = x.map V.int := by
  have hn : ((p :: q :: m :: x).map V.int).length = x.length + 3 := by rw [List.length_map]; rfl
  unfold cutV
  rw [hn]
  have e1 : HT.sIx (x.length + 3) 0 (some 3) = 3 := by
    have e := HT.sIx_nat (x.length + 3) 0 3
    rw [Nat.min_eq_left (by omega)] at e
    exact e
  rw [e1]
  show (x.map V.int).take (x.length + 3 - 3) = x.map V.int
  exact List.take_of_length_le (by rw [List.length_map]; omega)
theorem cutAt {ns : List Int} {i n : Nat} (h : i + n ≤ ns.length) : cutV (ns.map V.int) (some (i : Int)) (some ((i : Int) + (n : Int))) = ((ns.drop i).take n).map V.int := by
  unfold cutV
  have e2 : ((i : Int) + (n : Int)) = ((i + n : Nat) : Int) := by omega
  rw [List.length_map, e2, HT.sIx_nat, HT.sIx_nat, Nat.min_eq_left (by omega : i ≤ ns.length), Nat.min_eq_left h, List.map_take, List.map_drop]
  congr 1
  omega
theorem at_map {ns : List Int} {j : Nat} {h : Int} (e : ns[j]? = some h) : (ns.map V.int)[j]? = some (.int h) := by rw [List.getElem?_map, e]; rfl
section
variable {P : Program} {w : World} {K : PySem.W.Frag} {mg : Str → Option Value} {base : Heap} {f C D L : Addr} {fd : FuncData}
theorem scDe : FnScope ["self", "bits", "row", "answer", "byte"] ["self", "bits", "row"] (defScope sDecoded) := ⟨rfl, rfl, rfl, by decide +kernel, rfl, by decide +kernel, by decide +kernel⟩
theorem ok_decoded (F : Fun K "decoded" "Line.decoded" sDecoded f fd) (T : LTx K L) (N : PyN mg) (IR : GI mg "REFUSED" (-2)) (GP : GF P w K mg base 6 "pair_of_byte" ["end", "bits", "byte"] (spPair K C D)) :
    FnOk P w K mg base CX0 7 f fd ["self", "bits", "row"] (spDecoded K C D L) := by
  refine F.ok scDe (fun vs H Q E h => ?_) (fun cdv A outer s H vs Q E hr h => ?_)
  · obtain ⟨l, sl, E1, E2, b, xs, rfl, _⟩ := h
    rfl
  · obtain ⟨l, sl, E1, E2, b, xs, rfl, W, hS, hz, hlen, k⟩ := h
    refine ⟨_, pss_cons (ps_if (PW.pt (pw_or (pt_cmpR op_lt (pv 1) pe_int (nomark _)) (pw_or1 (pt_cmpR op_gt (pv 1) pe_int (nomark _))))) (pss_one (ps_ret (pe_lst (pa_cons (pe_gi IR rfl) pa_nil)))) pss_nil)
      (pss_cons (ps_set (i := 3) scDe.nd rfl (Or.inl rfl) (pe_lst (pa_cons (pe_callB call_len_seq rfl N.len PySem.boot_len (pa_cons (pv 2) pa_nil)) pa_nil)))
      (pss_cons (ps_for PassesOwn.never rfl (pi_list (pv 2)) (pg_name (i := 4) scDe.nd rfl (Or.inl rfl))
        (pss_one (ps_expr (pe_bm PySem.F.plainAttrs_list PySem.F.slot_list_extend PySem.F.type_list_extend mt_extend (pv 3) (pa_cons (pe_lock (pe_g GP hr rfl (pa_cons (pe_fld (pv 0) rfl) (pa_cons (pv 1) (pa_cons (pv 4) pa_nil))))) pa_nil)))))
      (pss_one (ps_ret (pv 3))))), ?_⟩
    have refuse : ¬ (6 ≤ b ∧ b ≤ 8) → (1 ≤ sizeLine ∧ ∀ r, H r = none → Q (.ref r) (upd H r (.lst [V.int (-2)]))) := fun bad => ⟨by decide, fun r nr => by
      have s := same_new (o := .lst [V.int (-2)]) nr
      exact k r _ E1 E2 [-2] (W.same s) (step_dec_bad _ _ _ _ bad) upd_same (Keep.of_same s)⟩
    refine ⟨_, rfl, _, _, rfl, rfl, _, rfl, ite2 (fun h1 => iteT ?_) (fun h1 => ?_)⟩
    · have h1 := dec_t h1
      exact refuse (by omega)
    have h1 := dec_f h1
    refine ⟨_, rfl, _, _, rfl, rfl, _, rfl, ite2 (fun h2 => ?_) (fun h2 => ?_)⟩
    · have h2 := dec_t h2
      exact refuse (by omega)
    have h2 := dec_f h2
    have good : 6 ≤ b ∧ b ≤ 8 := ⟨by omega, by omega⟩
    have hlm : (xs.map V.int).length = xs.length := List.length_map ..
    refine ⟨_, rfl, sl, _, rfl, .inl hS, (by show 1 ≤ sizeLine; decide), fun r nr => ?_⟩
    obtain ⟨dx, e1, lo1, hi1, e2, lo2, hi2, W⟩ := W
    have hSr : SqL K (upd H r (.lst [V.int ((xs.map V.int).length : Int)])) sl (xs.map V.int) := SqL.keepU hS (fun _ _ q _ => q) nr
    refine ⟨_, rfl, sl, rfl, ⟨_, hSr⟩, for_list (K := K) (a := sl) (xs := xs.map V.int) (fun i σ H2 => ∃ (v : Option V) (E2' : Ed), σ = [some (.ref l), some (.int b), some (.ref sl), some (.ref r), v] ∧ (∀ o, LineIs K C D L (upd H2 r o) l dx e1 lo1 hi1 e2 lo2 hi2 E1 E2') ∧
        E2'.spec = (Sa69.decodeAll b.toNat E2.spec ((xs.take i).map Int.toNat)).1 ∧ H2 r = some (.lst (((xs.length : Int) :: (Sa69.decodeAll b.toNat E2.spec ((xs.take i).map Int.toNat)).2).map V.int)) ∧ Keep H H2)
      ⟨none, E2, rfl, fun o => by rw [upd_upd]; exact W.over (noData nr) o, rfl, by rw [upd_same, hlm]; rfl, Keep.of_same (same_new nr)⟩ ?_ ?_ ?_⟩
    · rintro i σ H2 hi ⟨v, E2', rfl, WR, eS, hr2, kp⟩
      exact SqL.keep hS kp
    · rintro i y σ H2 hi ⟨v, E2', rfl, WR, eS, hr2, kp⟩
      obtain ⟨z, hzi, rfl⟩ : ∃ z, xs[i]? = some z ∧ y = V.int z := by
        rw [List.getElem?_map] at hi
        cases e : xs[i]? with
        | none => rw [e] at hi; cases hi
        | some z => rw [e] at hi; exact ⟨z, rfl, (Option.some.inj hi).symm⟩
      have hil : i < xs.length := (List.getElem?_eq_some_iff.mp hzi).1
      have hzr := hz z (List.mem_of_getElem? hzi)
      have et : (xs.take (i + 1)).map Int.toNat = (xs.take i).map Int.toNat ++ [z.toNat] := by
        rw [List.take_succ, hzi, List.map_append]
        rfl
      have lacc : (Sa69.decodeAll b.toNat E2.spec ((xs.take i).map Int.toNat)).2.length = 2 * i := by
        rw [decodeAll_length, List.length_map, List.length_take, Nat.min_eq_left (by omega)]
      refine ⟨_, rfl, .inl ⟨rfl, _, SqL.of hr2⟩, r, _, hr2, trivial, fun od => ?_⟩
      have W2 := WR (.frz od (.lst (((xs.length : Int) :: (Sa69.decodeAll b.toNat E2.spec ((xs.take i).map Int.toNat)).2).map V.int)))
      have r2 : (upd H2 r (.frz od (.lst (((xs.length : Int) :: (Sa69.decodeAll b.toNat E2.spec ((xs.take i).map Int.toNat)).2).map V.int)))) r = some (.frz od (.lst (((xs.length : Int) :: (Sa69.decodeAll b.toNat E2.spec ((xs.take i).map Int.toNat)).2).map V.int))) := upd_same
      have kp2 : ∀ b' o, H b' = some o → isIns o = false → (upd H2 r (.frz od (.lst (((xs.length : Int) :: (Sa69.decodeAll b.toNat E2.spec ((xs.take i).map Int.toNat)).2).map V.int)))) b' = some o := fun b' o q n => by
        rw [upd_ne (ne_of_none q nr)]
        exact kp b' o q n
      generalize upd H2 r (.frz od (.lst (((xs.length : Int) :: (Sa69.decodeAll b.toNat E2.spec ((xs.take i).map Int.toNat)).2).map V.int))) = HL at W2 r2 kp2 ⊢
      refine ⟨_, rfl, l, L, dx, _, _, rfl, W2.ob, T.cl, T.n_decoder, rfl, _, rfl, _, rfl, e2, lo2, hi2, E2', b.toNat, z.toNat, ?_, W2.a2, by omega, by omega, fun E2'' H3 l2 A3 eE nl2 hl2 f3 => ?_⟩
      · show [V.ref e2, V.int b, V.int z] = [V.ref e2, V.int ((b.toNat : Nat) : Int), V.int ((z.toNat : Nat) : Int)]
        rw [Int.toNat_of_nonneg (by omega), Int.toNat_of_nonneg hzr.1]
      have W3 := W2.dec A3 f3
      have kp3 := f3.keep W2.a2
      have r3 := kp3 _ _ r2 rfl
      have nlr : l2 ≠ r := fun q => by
        rw [q, r3] at hl2
        cases hl2
      refine ⟨r3, r, l2, _, _, rfl, rfl, upd_same, (by rw [upd_ne nlr]; exact hl2), ?_, ?_⟩
      · rw [List.length_map, List.length_cons, lacc]
        show 2 * i + 1 + 2 ≤ sizeLine
        have : sizeLine = 16777216 := by decide
        omega
      · refine ⟨_, E2'', rfl, fun o => ?_, ?_, ?_, fun b' o q n => ?_⟩
        · rw [upd_upd, upd_upd]
          exact W3.over (fun o' q => by rw [r3] at q; cases q; rfl) o
        · rw [eE, eS, et, decodeAll_snoc]
        · rw [upd_same, et, decodeAll_snoc, eS, ← List.cons_append, List.map_append]
          rfl
        · rw [upd_ne (ne_of_none q nr), upd_ne (ne_of_none q nr)]
          exact kp3 _ _ (kp2 b' o q n) n
    · rintro σ H2 ⟨v, E2', rfl, WR, eS, hr2, kp⟩
      have et : xs.take (xs.map V.int).length = xs := List.take_of_length_le (by rw [hlm]; exact Nat.le_refl _)
      rw [et] at eS hr2
      have W2 := WR (.lst (((xs.length : Int) :: (Sa69.decodeAll b.toNat E2.spec (xs.map Int.toNat)).2).map V.int))
      have eu : upd H2 r (.lst (((xs.length : Int) :: (Sa69.decodeAll b.toNat E2.spec (xs.map Int.toNat)).2).map V.int)) = H2 := by
        funext b'
        by_cases hb : b' = r
        · rw [hb, upd_same, hr2]
        · rw [upd_ne hb]
      rw [eu] at W2
      refine ⟨_, rfl, k r H2 E1 E2' _ ⟨dx, e1, lo1, hi1, e2, lo2, hi2, W2⟩ ?_ hr2 kp⟩
      rw [step_dec _ _ _ _ ⟨by omega, by omega⟩ good, eS]
theorem scAT : FnScope ["self", "call"] ["self", "call"] (defScope sAnswerTo) := ⟨rfl, rfl, rfl, by decide +kernel, rfl, by decide +kernel, by decide +kernel⟩
theorem noM {e1 e2 : Addr} : (lf e1 e2).lookup ("begun" : Str) = none ∧ (lf e1 e2).lookup ("encoded" : Str) = none ∧ (lf e1 e2).lookup ("decoded" : Str) = none ∧ (lf e1 e2).lookup ("answer_to" : Str) = none := ⟨rfl, rfl, rfl, rfl⟩
theorem eqi {i j : Int} (h : V.int i = V.int j) : i = j := by injection h
theorem ok_answerTo (F : Fun K "answer_to" "Line.answer_to" sAnswerTo f fd) (T : LTx K L) (I1 : GI mg "BEGIN" 1) (I2 : GI mg "ENCODE" 2) (MB : MF P w K mg base L 6 "begun" ["self"] (spBegun K C D L))
    (ME : MF P w K mg base L 7 "encoded" ["self", "pairs", "samples"] (spEncoded K C D L)) (MD : MF P w K mg base L 7 "decoded" ["self", "bits", "row"] (spDecoded K C D L)) :
    FnOk P w K mg base CX0 8 f fd ["self", "call"] (spAnswerTo K C D L) := by
  refine F.ok scAT (fun vs H Q E h => ?_) (fun cdv A outer s H vs Q E hr h => ?_)
  · obtain ⟨l, cl, E1, E2, flat, c, rfl, _⟩ := h
    rfl
  · obtain ⟨l, cl, E1, E2, flat, c, rfl, W, hS, hc, k⟩ := h
    have hr6 : Room 6 _ := hr.mono (by decide)
    refine ⟨_, pss_cons (ps_if (pt_cmpR op_eq (pe_ix ix_list (pv 1) pe_int (fun _ _ => rfl)) (pe_gi I1 rfl) (nomark _)) (pss_one (ps_ret (pe_m0 (pv 0) T.cl MB hr6))) pss_nil)
      (pss_cons (ps_if (pt_cmpR op_eq (pe_ix ix_list (pv 1) pe_int (fun _ _ => rfl)) (pe_gi I2 rfl) (nomark _))
        (pss_one (ps_ret (pe_m (pv 0) T.cl ME hr (pa_cons (pe_ix ix_list (pv 1) pe_int (fun _ _ => rfl)) (pa_cons (pe_slice sl_list (pv 1) (po_some pe_int) po_none) pa_nil))))) pss_nil)
      (pss_one (ps_ret (pe_m (pv 0) T.cl MD hr (pa_cons (pe_ix ix_list (pv 1) pe_int (fun _ _ => rfl)) (pa_cons (pe_slice sl_list (pv 1) (po_some pe_int) po_none) pa_nil)))))), ?_⟩
    obtain ⟨dx, e1, lo1, hi1, e2, lo2, hi2, W0⟩ := id W
    rcases hc with ⟨rfl, rfl⟩ | ⟨a, x, rfl, rfl, hx⟩ | ⟨b, x, rfl, rfl, hx, hl⟩
    · refine ⟨_, rfl, cl, _, _, _, rfl, rfl, hS, at_of (j := 0) rfl rfl, rfl, _, rfl, iteT ?_⟩
      exact ⟨_, rfl, l, dx, _, rfl, W0.ob, noM.1, l, E1, E2, rfl, W, k⟩
    · refine ⟨_, rfl, cl, _, _, _, rfl, rfl, hS, at_of (j := 0) rfl rfl, rfl, _, rfl, iteF ?_⟩
      refine ⟨_, rfl, cl, _, _, _, rfl, rfl, hS, at_of (j := 0) rfl rfl, rfl, _, rfl, iteT ?_⟩
      refine ⟨_, rfl, l, dx, _, rfl, W0.ob, noM.2.1, _, rfl, cl, _, _, _, rfl, rfl, hS, at_of (j := 1) rfl rfl, _, rfl, _, rfl, cl, _, rfl, hS, fun s1 n1 => ?_⟩
      have s := same_new (o := .lst (cutV ((2 :: a :: (x.length : Int) :: x).map V.int) (some 3) none)) n1
      exact ⟨l, s1, E1, E2, a, x, rfl, W.same s, SqL.of (by rw [upd_same, cut3]), hx, k.same s⟩
    · refine ⟨_, rfl, cl, _, _, _, rfl, rfl, hS, at_of (j := 0) rfl rfl, rfl, _, rfl, iteF ?_⟩
      refine ⟨_, rfl, cl, _, _, _, rfl, rfl, hS, at_of (j := 0) rfl rfl, rfl, _, rfl, iteF ?_⟩
      refine ⟨_, rfl, l, dx, _, rfl, W0.ob, noM.2.2.1, _, rfl, cl, _, _, _, rfl, rfl, hS, at_of (j := 1) rfl rfl, _, rfl, _, rfl, cl, _, rfl, hS, fun s1 n1 => ?_⟩
      have s := same_new (o := .lst (cutV ((3 :: b :: (x.length : Int) :: x).map V.int) (some 3) none)) n1
      exact ⟨l, s1, E1, E2, b, x, rfl, W.same s, SqL.of (by rw [upd_same, cut3]), hx, hl, k.same s⟩
theorem scLC : FnScope ["calls", "at"] ["calls", "at"] (defScope sLenCall) := ⟨rfl, rfl, rfl, by decide +kernel, rfl, by decide +kernel, by decide +kernel⟩
theorem ok_lenCall (F : Fun K "length_of_call" "length_of_call" sLenCall f fd) (I1 : GI mg "BEGIN" 1) : FnOk P w K mg base CX0 1 f fd ["calls", "at"] (spLenCall K) := by
  refine F.ok scLC (fun vs H Q E h => ?_) (fun cdv A outer s H vs Q E hr h => ?_)
  · obtain ⟨a, ns, i, n, rfl, _⟩ := h
    rfl
  · obtain ⟨a, ns, i, n, rfl, hS, ⟨h, hh, hn⟩, k⟩ := h
    refine ⟨_, pss_cons (ps_if (pt_cmpR op_eq (pe_ix ix_list (pv 0) (pv 1) (fun _ _ => rfl)) (pe_gi I1 rfl) (nomark _)) (pss_one (ps_ret pe_int)) pss_nil)
      (pss_one (ps_ret (pe_op op_add pe_int (pe_ix ix_list (pv 0) (pe_op op_add (pv 1) pe_int) (fun _ _ => rfl))))), ?_⟩
    refine ⟨_, rfl, _, rfl, a, _, _, _, rfl, rfl, hS, atI_nat (at_map hh), rfl, _, rfl, ite2 (fun c1 => ?_) (fun c1 => ?_)⟩
    · have h1 := eqi (dec_t c1)
      rcases hn with ⟨_, e⟩ | ⟨z, _⟩
      · exact castI (Q := Q) e k
      · exact absurd h1 z
    · rcases hn with ⟨z, _⟩ | ⟨_, m, hm, e⟩
      · exact absurd (decide_eq_true (by rw [z])) c1
      · exact ⟨_, rfl, _, rfl, _, _, rfl, rfl, a, _, _, _, rfl, rfl, hS, at_of (j := i + 2) (by omega) (at_map hm), _, _, rfl, rfl, castI (Q := Q) e k⟩
end
end TB
set_option maxHeartbeats 4000000
/-! answers: the whole list, call by call. -/
namespace TB
open PySem L2 TBR
def spAnswers (K : PySem.W.Frag) : Sp := fun vs H Q _ => ∃ (a : Addr) (ns : List Int) (cs : List (List (List Int))), vs = [.ref a] ∧ SqL K H a (ns.map V.int) ∧ Rest ns ([[1]] :: cs) ∧ ns.length ≤ 30000 ∧
  ∀ (g : Addr) (H' : Hp), H' g = some (.lst ((PyFlat.told (PyFlat.played Sa69Neutral.step Sa69Neutral.start ([[1]] :: cs))).map V.int)) → Q (.ref g) H'
/-- the list at a, which is not the one at g -/
def SqLN (K : PySem.W.Frag) (H : Hp) (g a : Addr) (xs : List V) : Prop := (∀ H', SqL K H' a xs) ∨ (a ≠ g ∧ SqL K H a xs)
theorem SqLN.of_fresh {K : PySem.W.Frag} {H : Hp} {g a : Addr} {xs : List V} (h : SqL K H a xs) (n : H g = none) : SqLN K H g a xs := by
  rcases id h with (q | ⟨o, q⟩) | q
  · exact .inr ⟨ne_of_none q n, h⟩
  · exact .inr ⟨ne_of_none q n, h⟩
  · exact .inl fun H' => .inr q
theorem SqLN.get {K : PySem.W.Frag} {H : Hp} {g a : Addr} {xs : List V} (h : SqLN K H g a xs) : SqL K H a xs := by
  rcases h with h | h
  · exact h H
  · exact h.2
theorem SqLN.over {K : PySem.W.Frag} {H : Hp} {g a : Addr} {xs : List V} (h : SqLN K H g a xs) (o : HO) : SqLN K (upd H g o) g a xs := by
  rcases h with h | ⟨n, h⟩
  · exact .inl h
  · refine .inr ⟨n, ?_⟩
    rcases h with (h | ⟨o', h⟩) | h
    · exact .inl (.inl (by rw [upd_ne n]; exact h))
    · exact .inl (.inr ⟨o', by rw [upd_ne n]; exact h⟩)
    · exact .inr h
theorem SqLN.keep {K : PySem.W.Frag} {H H' : Hp} {g a : Addr} {xs : List V} (h : SqLN K H g a xs) (k : Keep H H') : SqLN K H' g a xs := by
  rcases h with h | ⟨n, h⟩
  · exact .inl h
  · exact .inr ⟨n, SqL.keep h k⟩
/-- the next call of what is left -/
theorem rest_one {r : List Int} {cs : List (List (List Int))} (R : Rest r cs) (ne : r ≠ []) (hl : r.length ≤ 65536) : ∃ (flat r' : List Int) (c : List (List Int)) (cs' : List (List (List Int))), r = flat ++ r' ∧ cs = c :: cs' ∧ Rest r' cs' ∧ OneCall flat c ∧ 1 ≤ flat.length ∧
    ∃ h, r[0]? = some h ∧ ((h = 1 ∧ (flat.length : Int) = 1) ∨ (¬ h = 1 ∧ ∃ m, r[2]? = some m ∧ (flat.length : Int) = 3 + m)) := by
  cases R with
  | nil => exact absurd rfl ne
  | beg R' => exact ⟨[1], _, [[1]], _, rfl, rfl, R', .inl ⟨rfl, rfl⟩, Nat.le_refl _, 1, rfl, .inl ⟨rfl, rfl⟩⟩
  | @enc a x r' cs' hx hn R' =>
    refine ⟨2 :: a :: (x.length : Int) :: x, r', [[2, a], x], cs', rfl, rfl, R', .inr (.inl ⟨a, x, rfl, rfl, hn⟩), by simp, 2, rfl, .inr ⟨by decide, (x.length : Int), rfl, ?_⟩⟩
    show ((x.length + 1 + 1 + 1 : Nat) : Int) = _
    omega
  | @dec b x r' cs' hx R' =>
    have hxl : x.length ≤ 65536 := by
      simp only [List.length_cons, List.length_append] at hl
      omega
    refine ⟨3 :: b :: (x.length : Int) :: x, r', [[3, (x.length : Int), b], x], cs', rfl, rfl, R', .inr (.inr ⟨b, x, rfl, rfl, hx, hxl⟩), by simp, 3, rfl, .inr ⟨by decide, (x.length : Int), rfl, ?_⟩⟩
    show ((x.length + 1 + 1 + 1 : Nat) : Int) = _
    omega
/-- an answer is at most twice as long as its call -/
theorem ans_size {S S' : Sa69.St} {flat ans : List Int} {c : List (List Int)} (h : OneCall flat c) (e : Sa69Neutral.step (some S) c = (some S', ans)) : ans.length + 1 ≤ 2 * flat.length := by
  rcases h with ⟨rfl, rfl⟩ | ⟨a, x, rfl, rfl, hx⟩ | ⟨b, x, rfl, rfl, hx, hl⟩
  · rw [step_beg] at e
    cases e
    decide
  · by_cases g : 0 ≤ a ∧ a ≤ 65536
    · rw [step_enc _ _ _ g] at e
      cases e
      rw [if_pos g] at hx
      have l := encodeAll_length a.toNat S.to x (by omega)
      simp only [List.length_cons, List.length_map]
      omega
    · rw [step_enc_bad _ _ _ g] at e
      cases e
      simp only [List.length_cons, List.length_nil]
      omega
  · by_cases g : 6 ≤ b ∧ b ≤ 8
    · rw [step_dec _ _ _ _ ⟨by omega, by omega⟩ g] at e
      cases e
      have l := decodeAll_length b.toNat S.back (x.map Int.toNat)
      rw [List.length_map] at l
      simp only [List.length_cons]
      omega
    · rw [step_dec_bad _ _ _ _ g] at e
      cases e
      simp only [List.length_cons, List.length_nil]
      omega
def meas (n : Nat) (σ : L2.St) : Nat := match σ[3]? with
  | some (some (L2.V.int z)) => n - z.toNat
  | _ => 0
section
variable {P : Program} {w : World} {K : PySem.W.Frag} {mg : Str → Option Value} {base : Heap} {f C D L : Addr} {fd : FuncData}
theorem scAn : FnScope ["calls", "line", "given", "at", "length", "answer"] ["calls"] (defScope sAnswers) := ⟨rfl, rfl, rfl, by decide +kernel, rfl, by decide +kernel, by decide +kernel⟩
theorem ok_answers (F : Fun K "answers" "answers" sAnswers f fd) (T : LTx K L) (N : PyN mg) (KL : KF P w K mg base L 6 "Line" ["self"] (spLineInit K C D L)) (GL : GF P w K mg base 1 "length_of_call" ["calls", "at"] (spLenCall K))
    (MA : MF P w K mg base L 8 "answer_to" ["self", "call"] (spAnswerTo K C D L)) : FnOk P w K mg base CX0 9 f fd ["calls"] (spAnswers K) := by
  refine F.ok scAn (fun vs H Q E h => ?_) (fun cdv A outer s H vs Q E hr h => ?_)
  · obtain ⟨a, ns, cs, rfl, _⟩ := h
    rfl
  · obtain ⟨a, ns, cs, rfl, hS, hR, hlen, k⟩ := h
    have hr1 : Room 1 _ := hr.mono (by decide)
    have hr7 : Room 7 _ := hr.mono (by decide)
    refine ⟨_, pss_cons (ps_set (i := 1) scAn.nd rfl (Or.inl rfl) (pe_k0 KL hr7 rfl))
      (pss_cons (ps_set (i := 2) scAn.nd rfl (Or.inl rfl) (pe_lst pa_nil))
      (pss_cons (ps_set (i := 3) scAn.nd rfl (Or.inl rfl) pe_int)
      (pss_cons (ps_while PassesOwn.never (pt_cmpR op_lt (pv 3) (pe_callB call_len_seq rfl N.len PySem.boot_len (pa_cons (pv 0) pa_nil)) (nomark _))
        (pss_cons (ps_set (i := 4) scAn.nd rfl (Or.inl rfl) (pe_g GL hr1 rfl (pa_cons (pv 0) (pa_cons (pv 3) pa_nil))))
        (pss_cons (ps_set (i := 5) scAn.nd rfl (Or.inl rfl) (pe_lock (pe_m (pv 1) T.cl MA hr (pa_cons (pe_slice sl_list (pv 0) (po_some (pv 3)) (po_some (pe_op op_add (pv 3) (pv 4)))) pa_nil))))
        (pss_cons (ps_expr (pe_bm PySem.F.plainAttrs_list PySem.F.slot_list_append PySem.F.type_list_append mt_append (pv 2) (pa_cons (pe_callB call_len_seq rfl N.len PySem.boot_len (pa_cons (pv 5) pa_nil)) pa_nil)))
        (pss_cons (ps_expr (pe_bm PySem.F.plainAttrs_list PySem.F.slot_list_extend PySem.F.type_list_extend mt_extend (pv 2) (pa_cons (pv 5) pa_nil)))
        (pss_one (ps_aug (i := 3) scAn.nd rfl (Or.inl rfl) (pv 4) ip_add)))))))
      (pss_one (ps_ret (pv 2)))))), ?_⟩
    -- line = Line()
    intro l dl nl md xl
    refine ⟨l, dl, rfl, upd_same, fun H1 W1 kp1 => ⟨rfl, ?_⟩⟩
    have kp : Keep H H1 := (Keep.of_same (made0 nl md _)).trans kp1
    -- given = []; at = 0
    refine ⟨(by show 0 ≤ sizeLine; decide), fun g ng => ?_⟩
    have hS1 : SqLN K H1 g a (ns.map V.int) := SqLN.of_fresh (SqL.keep hS kp) ng
    refine while_by (fun σ H2 => ∃ (i : Nat) (E1 E2 : Ed) (out : List Int) (cs' : List (List (List Int))) (v4 v5 : Option V), σ = [some (.ref a), some (.ref l), some (.ref g), some (.int (i : Int)), v4, v5] ∧ SqLN K H2 g a (ns.map V.int) ∧ (∀ o, LineAt K C D L (upd H2 g o) l E1 E2) ∧
        H2 g = some (.lst (out.map V.int)) ∧ Rest (ns.drop i) cs' ∧ i ≤ ns.length ∧ out.length ≤ 2 * i ∧ PyFlat.told (PyFlat.played Sa69Neutral.step Sa69Neutral.start ([[1]] :: cs)) = out ++ PyFlat.told (PyFlat.played Sa69Neutral.step (some ⟨E1.spec, E2.spec⟩) cs'))
      (fun σ _ => meas ns.length σ) ⟨0, ed0, ed0, [], [[1]] :: cs, none, none, rfl, hS1.over _, fun o => by rw [upd_upd]; exact W1.over (noData ng) o, upd_same, hR, Nat.zero_le _, Nat.le_refl _, ?_⟩ ?_ ?_
    · rw [List.nil_append, played_cons, played_cons, step_beg, step_beg]
    · rintro σ H2 ⟨i, E1, E2, out, cs', v4, v5, rfl, hSa, WR, hg, hRest, hi, ho, eT⟩
      refine ⟨_, rfl, _, rfl, a, _, rfl, .inl hSa.get, _, _, rfl, rfl, _, rfl, ite2 (fun h1 => ?_) (fun h1 => ?_)⟩
      · have h1 : (i : Int) < ((ns.map V.int).length : Int) := dec_t h1
        rw [List.length_map] at h1
        have hil : i < ns.length := by omega
        have nd : ns.drop i ≠ [] := fun z => by
          have := congrArg List.length z
          rw [List.length_drop] at this
          simp at this
          omega
        obtain ⟨flat, r', c, cs2, er, rfl, hR2, h1c, hf1, hd, hh, hhn⟩ := rest_one hRest nd (by rw [List.length_drop]; omega)
        have lr : ns.length - i = flat.length + r'.length := by
          have := congrArg List.length er
          rw [List.length_drop, List.length_append] at this
          exact this
        have hin : i + flat.length ≤ ns.length := by omega
        -- length = length_of_call(calls, at)
        refine ⟨_, rfl, _, rfl, a, ns, i, (flat.length : Int), rfl, hSa.get, ⟨hd, ?_, ?_⟩, ?_⟩
        · rw [List.getElem?_drop] at hh
          exact hh
        · rcases hhn with q | ⟨q1, m, q2, q3⟩
          · exact .inl q
          · rw [List.getElem?_drop] at q2
            exact .inr ⟨q1, m, q2, q3⟩
        -- answer = line.answer_to(calls[at:at + length])
        refine ⟨g, _, hg, trivial, fun od => ?_⟩
        have WL := WR (.frz od (.lst (out.map V.int)))
        have SL := hSa.over (.frz od (.lst (out.map V.int)))
        have gL : (upd H2 g (.frz od (.lst (out.map V.int)))) g = some (.frz od (.lst (out.map V.int))) := upd_same
        generalize upd H2 g (.frz od (.lst (out.map V.int))) = HL at WL SL gL ⊢
        obtain ⟨dx, e1, lo1, hi1, e2, lo2, hi2, W0⟩ := id WL
        refine ⟨_, rfl, l, dx, _, rfl, W0.ob, noM.2.2.2, _, rfl, _, rfl, _, rfl, _, rfl, _, rfl, _, _, rfl, rfl, _, rfl, a, _, rfl, SL.get, fun cl nc => ?_⟩
        have sC := same_new (o := .lst (cutV (ns.map V.int) (some (i : Int)) (some ((i : Int) + (flat.length : Int))))) nc
        have eC : ((ns.drop i).take flat.length) = flat := by rw [er, List.take_left']; rfl
        have hC : (upd HL cl (.lst (cutV (ns.map V.int) (some (i : Int)) (some ((i : Int) + (flat.length : Int)))))) cl = some (.lst (flat.map V.int)) := by rw [upd_same, cutAt hin, eC]
        have gC := sC _ _ gL
        have SC := SL.keep (Keep.of_same sC)
        generalize upd HL cl (.lst (cutV (ns.map V.int) (some (i : Int)) (some ((i : Int) + (flat.length : Int))))) = HC at sC hC gC SC ⊢
        refine ⟨l, cl, E1, E2, flat, c, rfl, WL.same sC, SqL.of hC, h1c, fun r H5 E1' E2' ans W5 eS hr5 kp5 => ?_⟩
        have g5 := kp5 _ _ gC rfl
        have S5 := SC.keep kp5
        have nrg : r ≠ g := fun z => by
          rw [z, g5] at hr5
          cases hr5
        have sz := ans_size h1c eS
        have line : sizeLine = 16777216 := by decide
        refine ⟨g5, ?_⟩
        -- given.append(len(answer))
        refine ⟨_, rfl, .inl ⟨rfl, _, SqL.of upd_same⟩, _, rfl, r, _, rfl, .inl (SqL.of (by rw [upd_ne nrg]; exact hr5)), g, _, _, rfl, rfl, upd_same, ?_, ?_⟩
        · rw [List.length_map]
          omega
        -- given.extend(answer)
        refine ⟨_, rfl, .inl ⟨rfl, _, SqL.of upd_same⟩, _, rfl, g, r, _, _, rfl, rfl, upd_same, (by rw [upd_ne nrg, upd_ne nrg]; exact hr5), ?_, ?_⟩
        · rw [List.length_append, List.length_map, List.length_map]
          show out.length + 1 + ans.length ≤ sizeLine
          omega
        -- at += length
        refine ⟨_, rfl, _, rfl, _, _, rfl, rfl, ⟨i + flat.length, E1', E2', out ++ (ans.length : Int) :: ans, cs2, some (.int (flat.length : Int)), some (.ref r), ?_, ((S5.over _).over _).over _, fun o => ?_, ?_, ?_, hin, ?_, ?_⟩, ?_⟩
        · rw [Int.natCast_add]
          rfl
        · rw [upd_upd, upd_upd, upd_upd]
          exact W5.over (fun o' q => by rw [g5] at q; cases q; rfl) o
        · rw [upd_same, List.map_append, List.map_cons, List.length_map, List.append_assoc]
          rfl
        · have : ns.drop (i + flat.length) = r' := by
            rw [← List.drop_drop, er, List.drop_left']
            rfl
          rw [this]
          exact hR2
        · rw [List.length_append, List.length_cons]
          omega
        · rw [eT, played_cons, eS, List.append_assoc]
        · show ns.length - ((i : Int) + (flat.length : Int)).toNat < ns.length - (i : Int).toNat
          omega
      · have h1 : ¬ (i : Int) < ((ns.map V.int).length : Int) := dec_f h1
        rw [List.length_map] at h1
        have e : ns.drop i = [] := List.drop_eq_nil_of_le (by omega)
        rw [e] at hRest
        cases hRest
        have eo : PyFlat.told (PyFlat.played Sa69Neutral.step Sa69Neutral.start ([[1]] :: cs)) = out := by
          rw [eT]
          exact List.append_nil _
        exact ⟨_, rfl, k g H2 (by rw [eo]; exact hg)⟩
    · intro σ H2 Q1 Q2 hq h
      obtain ⟨v, hv, v0, hv0, p, ys, e1, e2, i, j, e3, e4, b, e5, q⟩ := h
      exact ⟨v, hv, v0, hv0, p, ys, e1, e2, i, j, e3, e4, b, e5, hq _ _ q⟩
end
end TB
set_option maxHeartbeats 4000000
/-! From the promise of answers to the statement: the call's attachment, what the top has written. -/
namespace TB
open PySem PySem.Spec PyProof.Rows L2
theorem spec_call {P : Program} {w : World} {K : PySem.W.Frag} {mg mb : Str → Option Value} {k : Nat} {fa a : Addr} {fd : FuncData} {x : Str} {sp : Sp} {s1 : Shared} {vs : List Value} {ns ys : List Int}
    (KX : K.In s1.heap) (hns : s1.heap.Ns mainGlobals mg) (hb : s1.heap.Ns builtinsNs mb) (hbb : ∀ x : Str, x ≠ "__name__" → mb x = bootBuiltins x) (hlim : s1.heap.NoLimit) (hg : s1.gens = #[])
    (ha : s1.heap.get? a = some { cls := .type "list", data := .seq vs.toArray }) (hi : IntsAre vs ns) (hl : ns.length ≤ sizeLine) (hr : Room k callerA)
    (F : ∀ base : Heap, K.In base → base.Ns mainGlobals mg → FnOk P w K mg base CX0 k fa fd [x] sp) (hbind : ∀ (s : Shared) (u : Value), BindsTo s fd ⟨[u], []⟩ [(x, u)])
    (hsp : ∀ H : Hp, SqL K H a (ns.map V.int) → sp [.ref a] H (fun v H' => ∃ g, v = .ref g ∧ H' g = some (.lst (ys.map V.int))) E0) :
    codeAny (model P w) callerA (.call (.ref fa) ⟨[.ref a], []⟩) (fun r s' => (∃ (g : Addr) (its : List Value) (n : Nat), r = .ok (.ret (.ref g)) ∧ IntsAre its ys ∧ s'.heap.get? g = some { cls := .type "list", data := .seq its.toArray n }) ∧
      OldK s1.heap s'.heap ∧ s'.os = s1.os ∧ AllBare s'.gens) s1 := by
  have rv := vals_ints hi
  have lenV := hi.length
  have core : ∀ H : Hp, Only H → SqL K H a (ns.map V.int) → HOk P w H s1.heap → (∀ b, H b ≠ none → b = a) → (H a ≠ none → K.lookup a = none) →
      codeAny (model P w) callerA (.call (.ref fa) ⟨[.ref a], []⟩) (fun r s' => (∃ (g : Addr) (its : List Value) (n : Nat), r = .ok (.ret (.ref g)) ∧ IntsAre its ys ∧ s'.heap.get? g = some { cls := .type "list", data := .seq its.toArray n }) ∧
        OldK s1.heap s'.heap ∧ s'.os = s1.os ∧ AllBare s'.gens) s1 := by
    intro H hO hS hok hA hK
    have base_of : ∀ {b : Addr} {o : Obj}, s1.heap.get? b = some o → H b = none → (hidT s1.heap H).get? b = some o := fun e n => hidT_get e n
    have noA : ∀ {b : Addr} {o : Obj} {es : Array DictEntry} {ep : Nat}, s1.heap.get? b = some o → o.data = .dict es ep → H b = none := fun {b o es ep} e d => by
      cases q : H b with
      | none => rfl
      | some u =>
        have e' : b = a := hA b (by rw [q]; simp)
        subst e'
        rw [ha] at e; cases e
        have d' : Data.seq vs.toArray _ = Data.dict es ep := d
        cases d'
    have nsK : ∀ {b : Addr} {m : Str → Option Value}, s1.heap.Ns b m → (hidT s1.heap H).Ns b m := fun {b m} ⟨o, es, ep, e, d, r⟩ => ⟨o, es, ep, base_of e (noA e d), d, r⟩
    have hKb : K.In (hidT s1.heap H) := fun b o e => base_of (KX b o e) (by
      cases q : H b with
      | none => rfl
      | some u =>
        have e' : b = a := hA b (by rw [q]; simp)
        subst e'
        rw [hK (by rw [q]; simp)] at e; cases e)
    have hM : Mod K mg (hidT s1.heap H) := ⟨hKb, nsK hns, ⟨mb, nsK hb, hbb⟩, let ⟨mc, h1, h2⟩ := hlim; ⟨mc, nsK h1, h2⟩⟩
    have e0 : Env0 P w K mg (hidT s1.heap H) callerA [] s1 H := ⟨rfl, hM, fun b o e => of_hidT e, Nat.le_of_eq (hidT_size _ _), trivial, fun b hb => absurd (show b ∈ ([] : List Addr) from hb) (by simp), hok, .of_eq hg⟩
    refine codeAny_mono ((F _ hKb (nsK hns)).run callerA [] s1 H ⟨[.ref a], []⟩ [.ref a] [.ref a] _ _ hr e0 (hbind s1 (.ref a)) (.cons rfl .nil) (hsp H hS)) fun r s' h => ?_
    cases r with
    | error e => exact False.elim h
    | ok fl =>
      cases fl with
      | next => exact False.elim h
      | brk => exact False.elim h
      | cont => exact False.elim h
      | ret u =>
        obtain ⟨v, H', os, bare, un, hok', r', g, rfl, hg'⟩ := h
        obtain rfl : u = Value.ref g := r'
        obtain ⟨_, its, n, vi, gi⟩ := hok' g _ hg'
        refine ⟨⟨g, its, n, rfl, Vals.ints vi, gi⟩, OldK.of_keep fun b o e => ?_, os, bare⟩
        cases q : H b with
        | none => exact un.keep b o e q (by intro z; exact absurd (show b ∈ ([] : List Addr) from z) (by simp)) (by simp)
        | some u =>
          rcases hO b with z | ⟨ob, xs, z⟩
          · rw [q] at z; cases z
          · have z2 := un.frzs b ob _ z
            obtain ⟨e1, _⟩ := hok b _ z
            obtain ⟨e2, _⟩ := hok' b _ z2
            rw [e] at e1; cases e1
            exact e2
  cases hk : K.lookup a with
  | some o =>
    have e := KX a o hk
    rw [ha] at e
    cases e
    refine core (fun _ => none) (fun _ => .inl rfl) (.inr ⟨_, vs.toArray, _, hk, rfl, rfl, rfl, by rw [List.size_toArray, lenV]; exact hl, by simpa using rv⟩) (fun b u z => by have z' : (none : Option HO) = some u := z; cases z') (fun b z => absurd rfl z) fun z => absurd rfl z
  | none =>
    refine core (fun b => if b = a then some (.frz { cls := .type "list", data := .seq vs.toArray } (.lst (ns.map V.int))) else none) (fun b => ?_) (.inl (.inr ⟨{ cls := .type "list", data := .seq vs.toArray }, if_pos rfl⟩)) (fun b u z => ?_) (fun b z => ?_) fun _ => hk
    · by_cases hb : b = a
      · exact .inr ⟨_, _, if_pos hb⟩
      · exact .inl (if_neg hb)
    · by_cases hb : b = a
      · have z' := (if_pos hb).symm.trans z
        cases z'
        subst hb
        exact ⟨ha, by rw [List.length_map]; exact hl, vs, _, rv, ha⟩
      · have z' := (if_neg hb).symm.trans z
        cases z'
    · by_cases hb : b = a
      · exact hb
      · exact absurd (if_neg hb) z
theorem reads_ints {R : PySem.W.WRecords} {cl : Str → Option Addr} {h : Heap} : ∀ {its : List Value} {ys : List Int}, IntsAre its ys → PySem.W.ReadsAllW R cl h its (ys.map PySem.W.WData.int) []
  | _, _, .nil => .nil
  | _, _, .cons n t r => PySem.W.ReadsAllW.cons (as := []) (bs := []) (.int n t) (reads_ints r)
abbrev RW : PySem.W.OpenSpec := PySem.Challenge.rw_twobands_s01_answers
theorem walk_os {q : Program} {loose : List Str} {XP : (Str → Option Value) → Heap → Prop} {YP : World → Heap → Prop} {d : DefRec} {K : Params → PySem.W.Frag} (said : RW.wellSaid = true) (hdf : d.params.defaults = [])
    (hY : ∀ (w : World) (h : Heap), YP w h → (K w.params).In h)
    (F : ∀ (w : World) (mg : Str → Option Value) (fa : Addr) (h : Heap), (K w.params).In h → h.Ns mainGlobals mg → mg d.name = some (.ref fa) →
      ∃ fd : FuncData, (∀ (s : Shared) (u : Value), BindsTo s fd ⟨[u], []⟩ [("calls", u)]) ∧ ∀ base : Heap, (K w.params).In base → base.Ns mainGlobals mg → FnOk RW.prog w (K w.params) mg base CX0 9 fa fd ["calls"] (spAnswers (K w.params))) :
    PySem.W.WalkOS q loose XP YP RW d [] (fun f vs => PySem.call f vs) := by
  intro w s0 s1 mg mb G Y fa o pm cd doc dV kV ho hd hcd hD hmg hg args vals as hpre hlay hrd hwl hlo
  obtain rfl : dV = .none := PySem.W.Dflts.none hD hdf
  obtain rfl : kV = .none := PySem.W.Dflts.noKw hD
  obtain ⟨⟨ns, u⟩, hwi, hask, rfl⟩ := (PySem.W.OpenSpec.pre_iff said args).mp hpre
  have KX := hY w _ Y
  obtain ⟨fd, hb, hF⟩ := F w mg fa _ KX G.T.g hmg
  have hask' : PySa69.answers_asked ns = true := hask
  have hw1 : (PySem.W.Codec.inLen 0 30000 ns && ns.all (PySem.W.Codec.inInt (-2147483648) 2147483647) && true) = true := hwi
  have hlen : ns.length ≤ 30000 := by
    rw [Bool.and_true, Bool.and_eq_true] at hw1
    exact (PySem.W.Codec.inNat_iff.mp hw1.1).2
  obtain ⟨cs, hR, hA⟩ := asked_rest hask'
  have hwl' : PySem.W.WellAll w.params s1.heap vals [PySem.W.WData.list (ns.map PySem.W.WData.int)] := hwl
  cases hwl' with
  | cons w1 w2 =>
    cases w2
    cases w1 with
    | list hobj hall =>
      refine PySem.W.enter_call (codeAny_mono (spec_call (ys := PySa69.answers ns) KX G.T.g G.T.b G.T.builtins G.T.nolimit hg hobj (Att.ints_of_wellAll ns _ hall) (Nat.le_trans hlen (by decide)) ⟨rfl, by decide, by decide⟩ hF hb (fun H hS => ?_)) fun r s' hq => ?_)
      · exact ⟨_, ns, cs, rfl, hS, hR, hlen, fun g H' e => ⟨g, rfl, by rw [hA]; exact e⟩⟩
      · obtain ⟨⟨g, its, n, rfl, hi, hgt⟩, h2, h3, h4⟩ := hq
        refine ⟨.inl ⟨.ref g, .list ((PySa69.answers ns).map PySem.W.WData.int), _, rfl, PySem.W.osNone, .list hgt rfl rfl (by simpa using reads_ints hi), (PySem.W.OpenSpec.post_iff said hwi _ _).mpr rfl, fun h => absurd h Bool.false_ne_true⟩, h2, h3, h4⟩
/-! ### what the top has written -/
def DefK (K : PySem.W.Frag) (x : Str) (st : Stmt) : Prop := ∃ (f : Addr) (fd : FuncData), PySem.W.nsIn K mainGlobals x = some (some (.ref f)) ∧ Fun K x x st f fd
theorem defK_mk {K : PySem.W.Frag} {x : Str} {st : Stmt} {f : Addr} {oc : Value} {od an : Option Addr} {osl : Array (Option Value)} {kV doc pm cdv ct : Value} (a : PySem.W.nsIn K mainGlobals x = some (some (.ref f)))
    (l : K.lookup f = some ⟨oc, od, .func (PySem.W.fnOf x x (defArgs st) (defBody st) (defScope st) .none kV doc pm an cdv ct), osl⟩) (c : PySem.W.codeIn K cdv x = true) (k : PySem.W.keepIn K (.ref f) = true) : DefK K x st := ⟨f, _, a, fun_mk l c k⟩
def MethK (K : PySem.W.Frag) (C : Addr) (m qual : Str) (st : Stmt) : Prop := ∃ (f : Addr) (fd : FuncData), Meth K C m f ∧ Fun K m qual st f fd
def MakeK (K : PySem.W.Frag) (C : Addr) (qual : Str) (st : Stmt) : Prop := ∃ (f : Addr) (fd : FuncData), Mk K C f ∧ Fun K "__init__" qual st f fd
def absI : Value → Option Int
  | .int i _ => some i
  | _ => none
theorem vals_abs : ∀ {us : List Value} {xs : List Int}, us.map absI = xs.map some → Vals (xs.map V.int) us
  | [], [], _ => .nil
  | [], _ :: _, h => by cases h
  | _ :: _, [], h => by cases h
  | u :: us, x :: xs, h => by
    have h' : absI u :: us.map absI = some x :: xs.map some := h
    injection h' with h1 h2
    refine .cons ?_ (vals_abs h2)
    cases u <;> first
      | (have h3 := Option.some.inj h1; subst h3; exact ⟨_, rfl⟩)
      | cases h1
def TabK (K : PySem.W.Frag) (x : Str) (xs : List Int) : Prop := ∃ a, PySem.W.nsIn K mainGlobals x = some (some (.ref a)) ∧ TupK K a xs
theorem tabK_mk {K : PySem.W.Frag} {x : Str} {xs : List Int} {a : Addr} {od : Option Addr} {its : Array Value} {n : Nat} {osl : Array (Option Value)} (h : PySem.W.nsIn K mainGlobals x = some (some (.ref a)))
    (l : K.lookup a = some ⟨.type "tuple", od, .seq its n, osl⟩) (v : its.toList.map absI = xs.map some) (z : its.size ≤ sizeLine) : TabK K x xs := ⟨a, h, fun H => .inr ⟨_, its, n, l, rfl, rfl, z, vals_abs v⟩⟩
def IntK (K : PySem.W.Frag) (x : Str) (i : Int) : Prop := ∃ t, PySem.W.nsIn K mainGlobals x = some (some (.int i t))
theorem intK_mk {K : PySem.W.Frag} {x : Str} {i : Int} {t : Tok} (h : PySem.W.nsIn K mainGlobals x = some (some (.int i t))) : IntK K x i := ⟨t, h⟩

structure BandK (K : PySem.W.Frag) (C : Addr) : Prop where
  nm : PySem.W.nsIn K mainGlobals "Band" = some (some (.ref C))
  tx : BTx K C
  m0 : MakeK K C "Band.__init__" sBandInit
  m1 : MethK K C "move" "Band.move" sMove
  m2 : MethK K C "go_on" "Band.go_on" sGoOn
  m3 : MethK K C "following_a2" "Band.following_a2" sA2
  m4 : MethK K C "following_a1" "Band.following_a1" sA1
  m5 : MethK K C "following_b" "Band.following_b" TB.sB
  m6 : MethK K C "foretell" "Band.foretell" sForetell
theorem bandK_mk {K : PySem.W.Frag} {C f0 f1 f2 f3 f4 f5 f6 : Addr} {od0 an0 od1 an1 od2 an2 od3 an3 od4 an4 od5 an5 od6 an6 : Option Addr} {sl0 sl1 sl2 sl3 sl4 sl5 sl6 : Array (Option Value)} {oc0 kV0 dc0 pm0 cd0 ct0 oc1 kV1 dc1 pm1 cd1 ct1 oc2 kV2 dc2 pm2 cd2 ct2 oc3 kV3 dc3 pm3 cd3 ct3 oc4 kV4 dc4 pm4 cd4 ct4 oc5 kV5 dc5 pm5 cd5 ct5 oc6 kV6 dc6 pm6 cd6 ct6 : Value}
    (nm : PySem.W.nsIn K mainGlobals "Band" = some (some (.ref C)))
    (a0 : PySem.W.findIn K (.ref C) "__init__" = some (some (.ref f0))) (i0 : PySem.W.isFn K (.ref f0) = true) (l0 : K.lookup f0 = some ⟨oc0, od0, .func (PySem.W.fnOf "__init__" "Band.__init__" (defArgs sBandInit) (defBody sBandInit) (defScope sBandInit) .none kV0 dc0 pm0 an0 cd0 ct0), sl0⟩) (c0 : PySem.W.codeIn K cd0 "Band.__init__" = true) (k0 : PySem.W.keepIn K (.ref f0) = true)
    (a1 : PySem.W.findIn K (.ref C) "move" = some (some (.ref f1))) (i1 : PySem.W.isFn K (.ref f1) = true) (l1 : K.lookup f1 = some ⟨oc1, od1, .func (PySem.W.fnOf "move" "Band.move" (defArgs sMove) (defBody sMove) (defScope sMove) .none kV1 dc1 pm1 an1 cd1 ct1), sl1⟩) (c1 : PySem.W.codeIn K cd1 "Band.move" = true) (k1 : PySem.W.keepIn K (.ref f1) = true)
    (a2 : PySem.W.findIn K (.ref C) "go_on" = some (some (.ref f2))) (i2 : PySem.W.isFn K (.ref f2) = true) (l2 : K.lookup f2 = some ⟨oc2, od2, .func (PySem.W.fnOf "go_on" "Band.go_on" (defArgs sGoOn) (defBody sGoOn) (defScope sGoOn) .none kV2 dc2 pm2 an2 cd2 ct2), sl2⟩) (c2 : PySem.W.codeIn K cd2 "Band.go_on" = true) (k2 : PySem.W.keepIn K (.ref f2) = true)
    (a3 : PySem.W.findIn K (.ref C) "following_a2" = some (some (.ref f3))) (i3 : PySem.W.isFn K (.ref f3) = true) (l3 : K.lookup f3 = some ⟨oc3, od3, .func (PySem.W.fnOf "following_a2" "Band.following_a2" (defArgs sA2) (defBody sA2) (defScope sA2) .none kV3 dc3 pm3 an3 cd3 ct3), sl3⟩) (c3 : PySem.W.codeIn K cd3 "Band.following_a2" = true) (k3 : PySem.W.keepIn K (.ref f3) = true)
    (a4 : PySem.W.findIn K (.ref C) "following_a1" = some (some (.ref f4))) (i4 : PySem.W.isFn K (.ref f4) = true) (l4 : K.lookup f4 = some ⟨oc4, od4, .func (PySem.W.fnOf "following_a1" "Band.following_a1" (defArgs sA1) (defBody sA1) (defScope sA1) .none kV4 dc4 pm4 an4 cd4 ct4), sl4⟩) (c4 : PySem.W.codeIn K cd4 "Band.following_a1" = true) (k4 : PySem.W.keepIn K (.ref f4) = true)
    (a5 : PySem.W.findIn K (.ref C) "following_b" = some (some (.ref f5))) (i5 : PySem.W.isFn K (.ref f5) = true) (l5 : K.lookup f5 = some ⟨oc5, od5, .func (PySem.W.fnOf "following_b" "Band.following_b" (defArgs TB.sB) (defBody TB.sB) (defScope TB.sB) .none kV5 dc5 pm5 an5 cd5 ct5), sl5⟩) (c5 : PySem.W.codeIn K cd5 "Band.following_b" = true) (k5 : PySem.W.keepIn K (.ref f5) = true)
    (a6 : PySem.W.findIn K (.ref C) "foretell" = some (some (.ref f6))) (i6 : PySem.W.isFn K (.ref f6) = true) (l6 : K.lookup f6 = some ⟨oc6, od6, .func (PySem.W.fnOf "foretell" "Band.foretell" (defArgs sForetell) (defBody sForetell) (defScope sForetell) .none kV6 dc6 pm6 an6 cd6 ct6), sl6⟩) (c6 : PySem.W.codeIn K cd6 "Band.foretell" = true) (k6 : PySem.W.keepIn K (.ref f6) = true)
    (pg : PySem.W.plainGet K C Str.empty = true) (hd : PySem.W.hasDictIn K C = true) (po : PySem.W.plainOver K C = true) (sa : PySem.W.findIn K (.ref C) "__setattr__" = some (some (.builtin "object.__setattr__"))) (mk : PySem.W.makesIn K C = true) (kc : PySem.W.keepIn K (.ref C) = true)
    (n_table : PySem.W.findIn K (.ref C) "table" = some none)
    (n_gains : PySem.W.findIn K (.ref C) "gains" = some none)
    (n_most : PySem.W.findIn K (.ref C) "most" = some none)
    (n_shift : PySem.W.findIn K (.ref C) "shift" = some none)
    (n_s : PySem.W.findIn K (.ref C) "s" = some none)
    (n_sz : PySem.W.findIn K (.ref C) "sz" = some none)
    (n_n : PySem.W.findIn K (.ref C) "n" = some none)
    (n_t : PySem.W.findIn K (.ref C) "t" = some none)
    (n_r1 : PySem.W.findIn K (.ref C) "r1" = some none)
    (n_r2 : PySem.W.findIn K (.ref C) "r2" = some none)
    (n_p1 : PySem.W.findIn K (.ref C) "p1" = some none)
    (n_p2 : PySem.W.findIn K (.ref C) "p2" = some none)
    (n_a1 : PySem.W.findIn K (.ref C) "a1" = some none)
    (n_a2 : PySem.W.findIn K (.ref C) "a2" = some none)
    (n_d : PySem.W.findIn K (.ref C) "d" = some none)
    (n_b : PySem.W.findIn K (.ref C) "b" = some none)
    : ∃ C, BandK K C :=
  ⟨C, nm, ⟨⟨pg, hd, po, sa⟩, n_table, n_gains, n_most, n_shift, n_s, n_sz, n_n, n_t, n_r1, n_r2, n_p1, n_p2, n_a1, n_a2, n_d, n_b⟩, ⟨f0, _, ⟨mk, a0, i0, kc⟩, fun_mk l0 c0 k0⟩, ⟨f1, _, ⟨a1, i1, k1⟩, fun_mk l1 c1 k1⟩, ⟨f2, _, ⟨a2, i2, k2⟩, fun_mk l2 c2 k2⟩, ⟨f3, _, ⟨a3, i3, k3⟩, fun_mk l3 c3 k3⟩, ⟨f4, _, ⟨a4, i4, k4⟩, fun_mk l4 c4 k4⟩, ⟨f5, _, ⟨a5, i5, k5⟩, fun_mk l5 c5 k5⟩, ⟨f6, _, ⟨a6, i6, k6⟩, fun_mk l6 c6 k6⟩⟩
structure EndK (K : PySem.W.Frag) (D : Addr) : Prop where
  nm : PySem.W.nsIn K mainGlobals "End" = some (some (.ref D))
  tx : ETx K D
  m0 : MakeK K D "End.__init__" sEndInit
  m1 : MethK K D "take" "End.take" sTake
  m2 : MethK K D "sum_o" "End.sum_o" sSumO
  m3 : MethK K D "sum_e" "End.sum_e" sSumE
theorem endK_mk {K : PySem.W.Frag} {D f0 f1 f2 f3 : Addr} {od0 an0 od1 an1 od2 an2 od3 an3 : Option Addr} {sl0 sl1 sl2 sl3 : Array (Option Value)} {oc0 kV0 dc0 pm0 cd0 ct0 oc1 kV1 dc1 pm1 cd1 ct1 oc2 kV2 dc2 pm2 cd2 ct2 oc3 kV3 dc3 pm3 cd3 ct3 : Value}
    (nm : PySem.W.nsIn K mainGlobals "End" = some (some (.ref D)))
    (a0 : PySem.W.findIn K (.ref D) "__init__" = some (some (.ref f0))) (i0 : PySem.W.isFn K (.ref f0) = true) (l0 : K.lookup f0 = some ⟨oc0, od0, .func (PySem.W.fnOf "__init__" "End.__init__" (defArgs sEndInit) (defBody sEndInit) (defScope sEndInit) .none kV0 dc0 pm0 an0 cd0 ct0), sl0⟩) (c0 : PySem.W.codeIn K cd0 "End.__init__" = true) (k0 : PySem.W.keepIn K (.ref f0) = true)
    (a1 : PySem.W.findIn K (.ref D) "take" = some (some (.ref f1))) (i1 : PySem.W.isFn K (.ref f1) = true) (l1 : K.lookup f1 = some ⟨oc1, od1, .func (PySem.W.fnOf "take" "End.take" (defArgs sTake) (defBody sTake) (defScope sTake) .none kV1 dc1 pm1 an1 cd1 ct1), sl1⟩) (c1 : PySem.W.codeIn K cd1 "End.take" = true) (k1 : PySem.W.keepIn K (.ref f1) = true)
    (a2 : PySem.W.findIn K (.ref D) "sum_o" = some (some (.ref f2))) (i2 : PySem.W.isFn K (.ref f2) = true) (l2 : K.lookup f2 = some ⟨oc2, od2, .func (PySem.W.fnOf "sum_o" "End.sum_o" (defArgs sSumO) (defBody sSumO) (defScope sSumO) .none kV2 dc2 pm2 an2 cd2 ct2), sl2⟩) (c2 : PySem.W.codeIn K cd2 "End.sum_o" = true) (k2 : PySem.W.keepIn K (.ref f2) = true)
    (a3 : PySem.W.findIn K (.ref D) "sum_e" = some (some (.ref f3))) (i3 : PySem.W.isFn K (.ref f3) = true) (l3 : K.lookup f3 = some ⟨oc3, od3, .func (PySem.W.fnOf "sum_e" "End.sum_e" (defArgs sSumE) (defBody sSumE) (defScope sSumE) .none kV3 dc3 pm3 an3 cd3 ct3), sl3⟩) (c3 : PySem.W.codeIn K cd3 "End.sum_e" = true) (k3 : PySem.W.keepIn K (.ref f3) = true)
    (pg : PySem.W.plainGet K D Str.empty = true) (hd : PySem.W.hasDictIn K D = true) (po : PySem.W.plainOver K D = true) (sa : PySem.W.findIn K (.ref D) "__setattr__" = some (some (.builtin "object.__setattr__"))) (mk : PySem.W.makesIn K D = true) (kc : PySem.W.keepIn K (.ref D) = true)
    (n_low : PySem.W.findIn K (.ref D) "low" = some none)
    (n_high : PySem.W.findIn K (.ref D) "high" = some none)
    (n_x : PySem.W.findIn K (.ref D) "x" = some none)
    : ∃ D, EndK K D :=
  ⟨D, nm, ⟨⟨pg, hd, po, sa⟩, n_low, n_high, n_x⟩, ⟨f0, _, ⟨mk, a0, i0, kc⟩, fun_mk l0 c0 k0⟩, ⟨f1, _, ⟨a1, i1, k1⟩, fun_mk l1 c1 k1⟩, ⟨f2, _, ⟨a2, i2, k2⟩, fun_mk l2 c2 k2⟩, ⟨f3, _, ⟨a3, i3, k3⟩, fun_mk l3 c3 k3⟩⟩
structure LineK (K : PySem.W.Frag) (L : Addr) : Prop where
  nm : PySem.W.nsIn K mainGlobals "Line" = some (some (.ref L))
  tx : LTx K L
  m0 : MakeK K L "Line.__init__" sLineInit
  m1 : MethK K L "begun" "Line.begun" sBegun
  m2 : MethK K L "encoded" "Line.encoded" sEncoded
  m3 : MethK K L "decoded" "Line.decoded" sDecoded
  m4 : MethK K L "answer_to" "Line.answer_to" sAnswerTo
theorem lineK_mk {K : PySem.W.Frag} {L f0 f1 f2 f3 f4 : Addr} {od0 an0 od1 an1 od2 an2 od3 an3 od4 an4 : Option Addr} {sl0 sl1 sl2 sl3 sl4 : Array (Option Value)} {oc0 kV0 dc0 pm0 cd0 ct0 oc1 kV1 dc1 pm1 cd1 ct1 oc2 kV2 dc2 pm2 cd2 ct2 oc3 kV3 dc3 pm3 cd3 ct3 oc4 kV4 dc4 pm4 cd4 ct4 : Value}
    (nm : PySem.W.nsIn K mainGlobals "Line" = some (some (.ref L)))
    (a0 : PySem.W.findIn K (.ref L) "__init__" = some (some (.ref f0))) (i0 : PySem.W.isFn K (.ref f0) = true) (l0 : K.lookup f0 = some ⟨oc0, od0, .func (PySem.W.fnOf "__init__" "Line.__init__" (defArgs sLineInit) (defBody sLineInit) (defScope sLineInit) .none kV0 dc0 pm0 an0 cd0 ct0), sl0⟩) (c0 : PySem.W.codeIn K cd0 "Line.__init__" = true) (k0 : PySem.W.keepIn K (.ref f0) = true)
    (a1 : PySem.W.findIn K (.ref L) "begun" = some (some (.ref f1))) (i1 : PySem.W.isFn K (.ref f1) = true) (l1 : K.lookup f1 = some ⟨oc1, od1, .func (PySem.W.fnOf "begun" "Line.begun" (defArgs sBegun) (defBody sBegun) (defScope sBegun) .none kV1 dc1 pm1 an1 cd1 ct1), sl1⟩) (c1 : PySem.W.codeIn K cd1 "Line.begun" = true) (k1 : PySem.W.keepIn K (.ref f1) = true)
    (a2 : PySem.W.findIn K (.ref L) "encoded" = some (some (.ref f2))) (i2 : PySem.W.isFn K (.ref f2) = true) (l2 : K.lookup f2 = some ⟨oc2, od2, .func (PySem.W.fnOf "encoded" "Line.encoded" (defArgs sEncoded) (defBody sEncoded) (defScope sEncoded) .none kV2 dc2 pm2 an2 cd2 ct2), sl2⟩) (c2 : PySem.W.codeIn K cd2 "Line.encoded" = true) (k2 : PySem.W.keepIn K (.ref f2) = true)
    (a3 : PySem.W.findIn K (.ref L) "decoded" = some (some (.ref f3))) (i3 : PySem.W.isFn K (.ref f3) = true) (l3 : K.lookup f3 = some ⟨oc3, od3, .func (PySem.W.fnOf "decoded" "Line.decoded" (defArgs sDecoded) (defBody sDecoded) (defScope sDecoded) .none kV3 dc3 pm3 an3 cd3 ct3), sl3⟩) (c3 : PySem.W.codeIn K cd3 "Line.decoded" = true) (k3 : PySem.W.keepIn K (.ref f3) = true)
    (a4 : PySem.W.findIn K (.ref L) "answer_to" = some (some (.ref f4))) (i4 : PySem.W.isFn K (.ref f4) = true) (l4 : K.lookup f4 = some ⟨oc4, od4, .func (PySem.W.fnOf "answer_to" "Line.answer_to" (defArgs sAnswerTo) (defBody sAnswerTo) (defScope sAnswerTo) .none kV4 dc4 pm4 an4 cd4 ct4), sl4⟩) (c4 : PySem.W.codeIn K cd4 "Line.answer_to" = true) (k4 : PySem.W.keepIn K (.ref f4) = true)
    (pg : PySem.W.plainGet K L Str.empty = true) (hd : PySem.W.hasDictIn K L = true) (po : PySem.W.plainOver K L = true) (sa : PySem.W.findIn K (.ref L) "__setattr__" = some (some (.builtin "object.__setattr__"))) (mk : PySem.W.makesIn K L = true) (kc : PySem.W.keepIn K (.ref L) = true)
    (n_encoder : PySem.W.findIn K (.ref L) "encoder" = some none)
    (n_decoder : PySem.W.findIn K (.ref L) "decoder" = some none)
    : ∃ L, LineK K L :=
  ⟨L, nm, ⟨⟨pg, hd, po, sa⟩, n_encoder, n_decoder⟩, ⟨f0, _, ⟨mk, a0, i0, kc⟩, fun_mk l0 c0 k0⟩, ⟨f1, _, ⟨a1, i1, k1⟩, fun_mk l1 c1 k1⟩, ⟨f2, _, ⟨a2, i2, k2⟩, fun_mk l2 c2 k2⟩, ⟨f3, _, ⟨a3, i3, k3⟩, fun_mk l3 c3 k3⟩, ⟨f4, _, ⟨a4, i4, k4⟩, fun_mk l4 c4 k4⟩⟩
/-- all of it -/
structure AllK (K : PySem.W.Frag) (C D L : Addr) : Prop where
  cb : BandK K C
  ce : EndK K D
  cl : LineK K L
  d_between : DefK K "between" sBetween
  d_held : DefK K "held" sHeld
  d_one_sign : DefK K "one_sign" sOneSign
  d_plus_if : DefK K "plus_if" sPlusIf
  d_width : DefK K "width" sWidth
  d_size_of : DefK K "size_of" sSizeOf
  d_rung : DefK K "rung" sRung
  d_low_bits : DefK K "low_bits" sLowBits
  d_high_bits : DefK K "high_bits" sHighBits
  d_byte_of_pair : DefK K "byte_of_pair" sByteOf
  d_low_table : DefK K "low_table" sLowTable
  d_band_value : DefK K "band_value" sBandValue
  d_pair_of_byte : DefK K "pair_of_byte" sPairOf
  d_length_of_call : DefK K "length_of_call" sLenCall
  d_answers : DefK K "answers" sAnswers
  t_Q : TabK K "Q" Sa69.Q
  t_L : TabK K "L" Sa69.LOGS
  t_H : TabK K "H" Sa69.STEPS
  t_M6 : TabK K "M6" Sa69.M6
  t_M5 : TabK K "M5" Sa69.M5
  t_M4 : TabK K "M4" Sa69.M4
  t_M2 : TabK K "M2" Sa69.M2
  t_LOW_G : TabK K "LOW_G" Sa69.GOES
  t_HIGH_G : TabK K "HIGH_G" HG
  i_BEGIN : IntK K "BEGIN" 1
  i_ENCODE : IntK K "ENCODE" 2
  i_REFUSED : IntK K "REFUSED" (-2)
  i_MOST_PAIRS : IntK K "MOST_PAIRS" 65536
  i_HIGH_H : IntK K "HIGH_H" 564
  o_zip : PySem.W.nsIn K mainGlobals "zip" = some none
  o_sum : PySem.W.nsIn K mainGlobals "sum" = some none
  o_min : PySem.W.nsIn K mainGlobals "min" = some none
  o_len : PySem.W.nsIn K mainGlobals "len" = some none
  o_range : PySem.W.nsIn K mainGlobals "range" = some none
  o_enumerate : PySem.W.nsIn K mainGlobals "enumerate" = some none
section
variable {P : Program} {w : World} {K : PySem.W.Frag} {mg : Str → Option Value} {base h : Heap} {C D L : Addr}
theorem gf_of {k : Nat} {x : Str} {st : Stmt} {ps : List Str} {sp : Sp} (X : K.In h) (G : h.Ns mainGlobals mg) (d : DefK K x st) (hb : ∀ f fd, Fun K x x st f fd → Binds K fd ps []) (ok : ∀ f fd, Fun K x x st f fd → FnOk P w K mg base CX0 k f fd ps sp) : GF P w K mg base k x ps sp := by
  obtain ⟨f, fd, a, F⟩ := d
  exact ⟨f, fd, ok f fd F, PySem.W.mg_of X G a, F.kp, hb f fd F⟩
theorem mf_of {k : Nat} {m qual : Str} {st : Stmt} {ps : List Str} {sp : Sp} (d : MethK K C m qual st) (hb : ∀ f fd, Fun K m qual st f fd → Binds K fd ps []) (ok : ∀ f fd, Fun K m qual st f fd → FnOk P w K mg base CX0 k f fd ps sp) : MF P w K mg base C k m ps sp := by
  obtain ⟨f, fd, M, F⟩ := d
  exact ⟨f, fd, ok f fd F, M, hb f fd F⟩
theorem kf_of {k : Nat} {x qual : Str} {st : Stmt} {ps : List Str} {sp : Sp} (hm : mg x = some (.ref C)) (d : MakeK K C qual st) (hb : ∀ f fd, Fun K "__init__" qual st f fd → Binds K fd ps []) (ok : ∀ f fd, Fun K "__init__" qual st f fd → FnOk P w K mg base CX0 k f fd ps sp) : KF P w K mg base C k x ps sp := by
  obtain ⟨f, fd, M, F⟩ := d
  exact ⟨f, fd, ok f fd F, M, hm, hb f fd F⟩
theorem gt_of {x : Str} {xs : List Int} (X : K.In h) (G : h.Ns mainGlobals mg) (d : TabK K x xs) : GT K mg x xs := by
  obtain ⟨a, n, t⟩ := d
  exact ⟨a, PySem.W.mg_of X G n, t⟩
theorem gi_of {x : Str} {i : Int} (X : K.In h) (G : h.Ns mainGlobals mg) (d : IntK K x i) : GI mg x i := by
  obtain ⟨t, n⟩ := d
  exact ⟨t, PySem.W.mg_of X G n⟩

theorem all_ok {fa : Addr} (X : K.In h) (G : h.Ns mainGlobals mg) (T : AllK K C D L) (hfa : mg "answers" = some (.ref fa)) :
    ∃ fd : FuncData, (∀ (s : Shared) (u : Value), BindsTo s fd ⟨[u], []⟩ [("calls", u)]) ∧ ∀ base : Heap, K.In base → base.Ns mainGlobals mg → FnOk P w K mg base CX0 9 fa fd ["calls"] (spAnswers K) := by
  have N : PyN mg := ⟨PySem.W.mg_none_of X G T.o_zip, PySem.W.mg_none_of X G T.o_sum, PySem.W.mg_none_of X G T.o_min, PySem.W.mg_none_of X G T.o_len, PySem.W.mg_none_of X G T.o_range, PySem.W.mg_none_of X G T.o_enumerate⟩
  have mC := PySem.W.mg_of X G T.cb.nm
  have mD := PySem.W.mg_of X G T.ce.nm
  have mL := PySem.W.mg_of X G T.cl.nm
  have tQ := gt_of X G T.t_Q
  have tL := gt_of X G T.t_L
  have tH := gt_of X G T.t_H
  have t6 := gt_of X G T.t_M6
  have t5 := gt_of X G T.t_M5
  have t4 := gt_of X G T.t_M4
  have t2 := gt_of X G T.t_M2
  have tl := gt_of X G T.t_LOW_G
  have th := gt_of X G T.t_HIGH_G
  have iB := gi_of X G T.i_BEGIN
  have iE := gi_of X G T.i_ENCODE
  have iR := gi_of X G T.i_REFUSED
  have iM := gi_of X G T.i_MOST_PAIRS
  have iH := gi_of X G T.i_HIGH_H
  obtain ⟨f, fd, a, F⟩ := T.d_answers
  have e := hfa.symm.trans (PySem.W.mg_of X G a)
  cases e
  obtain ⟨oc, od, kV, doc, pm, an, cdv, ct, osl, rfl, lk, hcd⟩ := id F.ex
  refine ⟨PySem.W.fnOf "answers" "answers" (defArgs sAnswers) (defBody sAnswers) (defScope sAnswers) .none kV doc pm an cdv ct, fun s u => .of_eq rfl, fun base _ _ => ?_⟩
  have gBetween : GF P w K mg base 1 "between" ["least", "number", "most"] spBetween := gf_of X G T.d_between (fun _ _ F => F.binds (ps := ["least", "number", "most"]) fun _ _ _ _ _ _ us hl => match us, hl with | [_, _, _], _ => rfl) (fun _ _ F => ok_between F)
  have gHeld : GF P w K mg base 2 "held" ["number"] spHeld := gf_of X G T.d_held (fun _ _ F => F.binds (ps := ["number"]) fun _ _ _ _ _ _ us hl => match us, hl with | [_], _ => rfl) (fun _ _ F => ok_held F gBetween)
  have gOne : GF P w K mg base 1 "one_sign" ["first", "second"] spOneSign := gf_of X G T.d_one_sign (fun _ _ F => F.binds (ps := ["first", "second"]) fun _ _ _ _ _ _ us hl => match us, hl with | [_, _], _ => rfl) (fun _ _ F => ok_oneSign F)
  have gPlus : GF P w K mg base 1 "plus_if" ["chosen", "amount"] spPlusIf := gf_of X G T.d_plus_if (fun _ _ F => F.binds (ps := ["chosen", "amount"]) fun _ _ _ _ _ _ us hl => match us, hl with | [_, _], _ => rfl) (fun _ _ F => ok_plusIf F)
  have gWidth : GF P w K mg base 1 "width" ["n", "shift"] spWidth := gf_of X G T.d_width (fun _ _ F => F.binds (ps := ["n", "shift"]) fun _ _ _ _ _ _ us hl => match us, hl with | [_, _], _ => rfl) (fun _ _ F => ok_width F tL)
  have gSize : GF P w K mg base 1 "size_of" ["u"] spSizeOf := gf_of X G T.d_size_of (fun _ _ F => F.binds (ps := ["u"]) fun _ _ _ _ _ _ us hl => match us, hl with | [_], _ => rfl) (fun _ _ F => ok_sizeOf F)
  have gRung : GF P w K mg base 1 "rung" ["z", "t"] spRung := gf_of X G T.d_rung (fun _ _ F => F.binds (ps := ["z", "t"]) fun _ _ _ _ _ _ us hl => match us, hl with | [_, _], _ => rfl) (fun _ _ F => ok_rung F N tH)
  have gLow : GF P w K mg base 3 "low_bits" ["band", "value"] (spLowBits K C) := gf_of X G T.d_low_bits (fun _ _ F => F.binds (ps := ["band", "value"]) fun _ _ _ _ _ _ us hl => match us, hl with | [_, _], _ => rfl) (fun _ _ F => ok_lowBits F T.cb.tx gHeld gSize gRung)
  have gHigh : GF P w K mg base 3 "high_bits" ["band", "value"] (spHighBits K C) := gf_of X G T.d_high_bits (fun _ _ F => F.binds (ps := ["band", "value"]) fun _ _ _ _ _ _ us hl => match us, hl with | [_, _], _ => rfl) (fun _ _ F => ok_highBits F T.cb.tx gHeld gSize iH)
  have gTable : GF P w K mg base 1 "low_table" ["bits"] (spLowTable K) := gf_of X G T.d_low_table (fun _ _ F => F.binds (ps := ["bits"]) fun _ _ _ _ _ _ us hl => match us, hl with | [_], _ => rfl) (fun _ _ F => ok_lowTable F t6 t5 t4)
  have gValue : GF P w K mg base 2 "band_value" ["band", "multiplier"] (spBandValue K C) := gf_of X G T.d_band_value (fun _ _ F => F.binds (ps := ["band", "multiplier"]) fun _ _ _ _ _ _ us hl => match us, hl with | [_, _], _ => rfl) (fun _ _ F => ok_bandValue F T.cb.tx gBetween)
  have mA2 : MF P w K mg base C 3 "following_a2" ["self", "p0"] (spA2 K C) := mf_of T.cb.m3 (fun _ _ F => F.binds (ps := ["self", "p0"]) fun _ _ _ _ _ _ us hl => match us, hl with | [_, _], _ => rfl) (fun _ _ F => ok_a2 F T.cb.tx N gBetween gHeld gOne gPlus)
  have mA1 : MF P w K mg base C 3 "following_a1" ["self", "p0", "new_a2"] (spA1 K C) := mf_of T.cb.m4 (fun _ _ F => F.binds (ps := ["self", "p0", "new_a2"]) fun _ _ _ _ _ _ us hl => match us, hl with | [_, _, _], _ => rfl) (fun _ _ F => ok_a1 F T.cb.tx gBetween gHeld gOne gPlus)
  have mB : MF P w K mg base C 3 "following_b" ["self", "d"] (spB K C) := mf_of T.cb.m5 (fun _ _ F => F.binds (ps := ["self", "d"]) fun _ _ _ _ _ _ us hl => match us, hl with | [_, _], _ => rfl) (fun _ _ F => ok_b F T.cb.tx N gHeld gOne gPlus)
  have mF : MF P w K mg base C 3 "foretell" ["self"] (spForetell K C) := mf_of T.cb.m6 (fun _ _ F => F.binds (ps := ["self"]) fun _ _ _ _ _ _ us hl => match us, hl with | [_], _ => rfl) (fun _ _ F => ok_foretell F T.cb.tx N gHeld)
  have mG : MF P w K mg base C 4 "go_on" ["self", "d"] (spGoOn K C) := mf_of T.cb.m2 (fun _ _ F => F.binds (ps := ["self", "d"]) fun _ _ _ _ _ _ us hl => match us, hl with | [_, _], _ => rfl) (fun _ _ F => ok_goOn F T.cb.tx gHeld mA2 mA1 mB mF)
  have mM : MF P w K mg base C 5 "move" ["self", "code"] (spMove K C) := mf_of T.cb.m1 (fun _ _ F => F.binds (ps := ["self", "code"]) fun _ _ _ _ _ _ us hl => match us, hl with | [_, _], _ => rfl) (fun _ _ F => ok_move F T.cb.tx gBetween gWidth mG)
  have kB : KF P w K mg base C 2 "Band" ["self", "table", "gains", "most", "shift"] (spBandInit K C) := kf_of mC T.cb.m0 (fun _ _ F => F.binds (ps := ["self", "table", "gains", "most", "shift"]) fun _ _ _ _ _ _ us hl => match us, hl with | [_, _, _, _, _], _ => rfl) (fun _ _ F => ok_bandInit F T.cb.tx gWidth)
  have kE : KF P w K mg base D 4 "End" ["self"] (spEndInit K C D) := kf_of mD T.ce.m0 (fun _ _ F => F.binds (ps := ["self"]) fun _ _ _ _ _ _ us hl => match us, hl with | [_], _ => rfl) (fun _ _ F => ok_endInit F T.ce.tx kB t4 tl t2 th)
  have mT : MF P w K mg base D 1 "take" ["self", "first", "second"] (spTake K C D) := mf_of T.ce.m1 (fun _ _ F => F.binds (ps := ["self", "first", "second"]) fun _ _ _ _ _ _ us hl => match us, hl with | [_, _, _], _ => rfl) (fun _ _ F => ok_take F T.ce.tx)
  have mO : MF P w K mg base D 1 "sum_o" ["self"] (spSumO K C D) := mf_of T.ce.m2 (fun _ _ F => F.binds (ps := ["self"]) fun _ _ _ _ _ _ us hl => match us, hl with | [_], _ => rfl) (fun _ _ F => ok_sumO F T.ce.tx N tQ)
  have mE : MF P w K mg base D 1 "sum_e" ["self"] (spSumE K C D) := mf_of T.ce.m3 (fun _ _ F => F.binds (ps := ["self"]) fun _ _ _ _ _ _ us hl => match us, hl with | [_], _ => rfl) (fun _ _ F => ok_sumE F T.ce.tx N tQ)
  have gByte : GF P w K mg base 6 "byte_of_pair" ["end", "first", "second"] (spByte K C D) := gf_of X G T.d_byte_of_pair (fun _ _ F => F.binds (ps := ["end", "first", "second"]) fun _ _ _ _ _ _ us hl => match us, hl with | [_, _, _], _ => rfl) (fun _ _ F => ok_byteOf F T.cb.tx T.ce.tx mT mE mO gLow gHigh mM)
  have gPair : GF P w K mg base 6 "pair_of_byte" ["end", "bits", "byte"] (spPair K C D) := gf_of X G T.d_pair_of_byte (fun _ _ F => F.binds (ps := ["end", "bits", "byte"]) fun _ _ _ _ _ _ us hl => match us, hl with | [_, _, _], _ => rfl) (fun _ _ F => ok_pairOf F T.cb.tx T.ce.tx N t2 mT mE mO gTable gValue gHeld mM)
  have gLen : GF P w K mg base 1 "length_of_call" ["calls", "at"] (spLenCall K) := gf_of X G T.d_length_of_call (fun _ _ F => F.binds (ps := ["calls", "at"]) fun _ _ _ _ _ _ us hl => match us, hl with | [_, _], _ => rfl) (fun _ _ F => ok_lenCall F iB)
  have kL : KF P w K mg base L 6 "Line" ["self"] (spLineInit K C D L) := kf_of mL T.cl.m0 (fun _ _ F => F.binds (ps := ["self"]) fun _ _ _ _ _ _ us hl => match us, hl with | [_], _ => rfl) (fun _ _ F => ok_lineInit F T.cl.tx kE)
  have mBg : MF P w K mg base L 6 "begun" ["self"] (spBegun K C D L) := mf_of T.cl.m1 (fun _ _ F => F.binds (ps := ["self"]) fun _ _ _ _ _ _ us hl => match us, hl with | [_], _ => rfl) (fun _ _ F => ok_begun F T.cl.tx kE)
  have mEn : MF P w K mg base L 7 "encoded" ["self", "pairs", "samples"] (spEncoded K C D L) := mf_of T.cl.m2 (fun _ _ F => F.binds (ps := ["self", "pairs", "samples"]) fun _ _ _ _ _ _ us hl => match us, hl with | [_, _, _], _ => rfl) (fun _ _ F => ok_encoded F T.cl.tx N iM iR gByte)
  have mDe : MF P w K mg base L 7 "decoded" ["self", "bits", "row"] (spDecoded K C D L) := mf_of T.cl.m3 (fun _ _ F => F.binds (ps := ["self", "bits", "row"]) fun _ _ _ _ _ _ us hl => match us, hl with | [_, _, _], _ => rfl) (fun _ _ F => ok_decoded F T.cl.tx N iR gPair)
  have mAT : MF P w K mg base L 8 "answer_to" ["self", "call"] (spAnswerTo K C D L) := mf_of T.cl.m4 (fun _ _ F => F.binds (ps := ["self", "call"]) fun _ _ _ _ _ _ us hl => match us, hl with | [_, _], _ => rfl) (fun _ _ F => ok_answerTo F T.cl.tx iB iE mBg mEn mDe)
  exact ok_answers F T.cl.tx N kL gLen mAT
end
end TB
set_option maxRecDepth 100000 in
theorem TB.said : TB.RW.wellSaid = true := by decide +kernel
open PySem PySem.W PyProof.Rows
set_option maxRecDepth 100000 in
set_option maxHeartbeats 0 in
theorem PySem.Challenge.cw_twobands_s01_answers_holds : PySem.Challenge.rw_twobands_s01_answers.Holds := by
  w_on; k_headS; (case hw => exact ⟨[.list [.int 1]], by decide +kernel, by decide +kernel⟩)
  k_fillS
  refine TB.walk_os TB.said rfl (fun w h Y => PySem.W.kIn_of Y) ?F
  case F =>
    intro w mg fa h KX G hmg
    have T : ∃ C D L, TB.AllK (L2.KOf KX) C D L := by
      dsimp only [L2.KOf]
      have cBand : ∃ C, TB.BandK (L2.KOf KX) C := by
        dsimp only [L2.KOf]
        refine' TB.bandK_mk ?nm ?a0 ?i0 ?l0 ?c0 ?k0 ?a1 ?i1 ?l1 ?c1 ?k1 ?a2 ?i2 ?l2 ?c2 ?k2 ?a3 ?i3 ?l3 ?c3 ?k3 ?a4 ?i4 ?l4 ?c4 ?k4 ?a5 ?i5 ?l5 ?c5 ?k5 ?a6 ?i6 ?l6 ?c6 ?k6 ?pg ?hd ?po ?sa ?mk ?kc ?n_table ?n_gains ?n_most ?n_shift ?n_s ?n_sz ?n_n ?n_t ?n_r1 ?n_r2 ?n_p1 ?n_p2 ?n_a1 ?n_a2 ?n_d ?n_b
        (case nm => k_is)
        (case a0 => k_is)
        (case i0 => k_is)
        (case l0 => k_is)
        (case c0 => k_is)
        (case k0 => k_is)
        (case a1 => k_is)
        (case i1 => k_is)
        (case l1 => k_is)
        (case c1 => k_is)
        (case k1 => k_is)
        (case a2 => k_is)
        (case i2 => k_is)
        (case l2 => k_is)
        (case c2 => k_is)
        (case k2 => k_is)
        (case a3 => k_is)
        (case i3 => k_is)
        (case l3 => k_is)
        (case c3 => k_is)
        (case k3 => k_is)
        (case a4 => k_is)
        (case i4 => k_is)
        (case l4 => k_is)
        (case c4 => k_is)
        (case k4 => k_is)
        (case a5 => k_is)
        (case i5 => k_is)
        (case l5 => k_is)
        (case c5 => k_is)
        (case k5 => k_is)
        (case a6 => k_is)
        (case i6 => k_is)
        (case l6 => k_is)
        (case c6 => k_is)
        (case k6 => k_is)
        (case pg => k_is)
        (case hd => k_is)
        (case po => k_is)
        (case sa => k_is)
        (case mk => k_is)
        (case kc => k_is)
        (case n_table => k_is)
        (case n_gains => k_is)
        (case n_most => k_is)
        (case n_shift => k_is)
        (case n_s => k_is)
        (case n_sz => k_is)
        (case n_n => k_is)
        (case n_t => k_is)
        (case n_r1 => k_is)
        (case n_r2 => k_is)
        (case n_p1 => k_is)
        (case n_p2 => k_is)
        (case n_a1 => k_is)
        (case n_a2 => k_is)
        (case n_d => k_is)
        (case n_b => k_is)
      have cEnd : ∃ D, TB.EndK (L2.KOf KX) D := by
        dsimp only [L2.KOf]
        refine' TB.endK_mk ?nm ?a0 ?i0 ?l0 ?c0 ?k0 ?a1 ?i1 ?l1 ?c1 ?k1 ?a2 ?i2 ?l2 ?c2 ?k2 ?a3 ?i3 ?l3 ?c3 ?k3 ?pg ?hd ?po ?sa ?mk ?kc ?n_low ?n_high ?n_x
        (case nm => k_is)
        (case a0 => k_is)
        (case i0 => k_is)
        (case l0 => k_is)
        (case c0 => k_is)
        (case k0 => k_is)
        (case a1 => k_is)
        (case i1 => k_is)
        (case l1 => k_is)
        (case c1 => k_is)
        (case k1 => k_is)
        (case a2 => k_is)
        (case i2 => k_is)
        (case l2 => k_is)
        (case c2 => k_is)
        (case k2 => k_is)
        (case a3 => k_is)
        (case i3 => k_is)
        (case l3 => k_is)
        (case c3 => k_is)
        (case k3 => k_is)
        (case pg => k_is)
        (case hd => k_is)
        (case po => k_is)
        (case sa => k_is)
        (case mk => k_is)
        (case kc => k_is)
        (case n_low => k_is)
        (case n_high => k_is)
        (case n_x => k_is)
      have cLine : ∃ L, TB.LineK (L2.KOf KX) L := by
        dsimp only [L2.KOf]
        refine' TB.lineK_mk ?nm ?a0 ?i0 ?l0 ?c0 ?k0 ?a1 ?i1 ?l1 ?c1 ?k1 ?a2 ?i2 ?l2 ?c2 ?k2 ?a3 ?i3 ?l3 ?c3 ?k3 ?a4 ?i4 ?l4 ?c4 ?k4 ?pg ?hd ?po ?sa ?mk ?kc ?n_encoder ?n_decoder
        (case nm => k_is)
        (case a0 => k_is)
        (case i0 => k_is)
        (case l0 => k_is)
        (case c0 => k_is)
        (case k0 => k_is)
        (case a1 => k_is)
        (case i1 => k_is)
        (case l1 => k_is)
        (case c1 => k_is)
        (case k1 => k_is)
        (case a2 => k_is)
        (case i2 => k_is)
        (case l2 => k_is)
        (case c2 => k_is)
        (case k2 => k_is)
        (case a3 => k_is)
        (case i3 => k_is)
        (case l3 => k_is)
        (case c3 => k_is)
        (case k3 => k_is)
        (case a4 => k_is)
        (case i4 => k_is)
        (case l4 => k_is)
        (case c4 => k_is)
        (case k4 => k_is)
        (case pg => k_is)
        (case hd => k_is)
        (case po => k_is)
        (case sa => k_is)
        (case mk => k_is)
        (case kc => k_is)
        (case n_encoder => k_is)
        (case n_decoder => k_is)
      have d_between : TB.DefK (L2.KOf KX) "between" TB.sBetween := by
        dsimp only [L2.KOf]
        refine' TB.defK_mk ?a ?l ?c ?k
        (case a => k_is)
        (case l => k_is)
        (case c => k_is)
        (case k => k_is)
      have d_held : TB.DefK (L2.KOf KX) "held" TB.sHeld := by
        dsimp only [L2.KOf]
        refine' TB.defK_mk ?a ?l ?c ?k
        (case a => k_is)
        (case l => k_is)
        (case c => k_is)
        (case k => k_is)
      have d_one_sign : TB.DefK (L2.KOf KX) "one_sign" TB.sOneSign := by
        dsimp only [L2.KOf]
        refine' TB.defK_mk ?a ?l ?c ?k
        (case a => k_is)
        (case l => k_is)
        (case c => k_is)
        (case k => k_is)
      have d_plus_if : TB.DefK (L2.KOf KX) "plus_if" TB.sPlusIf := by
        dsimp only [L2.KOf]
        refine' TB.defK_mk ?a ?l ?c ?k
        (case a => k_is)
        (case l => k_is)
        (case c => k_is)
        (case k => k_is)
      have d_width : TB.DefK (L2.KOf KX) "width" TB.sWidth := by
        dsimp only [L2.KOf]
        refine' TB.defK_mk ?a ?l ?c ?k
        (case a => k_is)
        (case l => k_is)
        (case c => k_is)
        (case k => k_is)
      have d_size_of : TB.DefK (L2.KOf KX) "size_of" TB.sSizeOf := by
        dsimp only [L2.KOf]
        refine' TB.defK_mk ?a ?l ?c ?k
        (case a => k_is)
        (case l => k_is)
        (case c => k_is)
        (case k => k_is)
      have d_rung : TB.DefK (L2.KOf KX) "rung" TB.sRung := by
        dsimp only [L2.KOf]
        refine' TB.defK_mk ?a ?l ?c ?k
        (case a => k_is)
        (case l => k_is)
        (case c => k_is)
        (case k => k_is)
      have d_low_bits : TB.DefK (L2.KOf KX) "low_bits" TB.sLowBits := by
        dsimp only [L2.KOf]
        refine' TB.defK_mk ?a ?l ?c ?k
        (case a => k_is)
        (case l => k_is)
        (case c => k_is)
        (case k => k_is)
      have d_high_bits : TB.DefK (L2.KOf KX) "high_bits" TB.sHighBits := by
        dsimp only [L2.KOf]
        refine' TB.defK_mk ?a ?l ?c ?k
        (case a => k_is)
        (case l => k_is)
        (case c => k_is)
        (case k => k_is)
      have d_byte_of_pair : TB.DefK (L2.KOf KX) "byte_of_pair" TB.sByteOf := by
        dsimp only [L2.KOf]
        refine' TB.defK_mk ?a ?l ?c ?k
        (case a => k_is)
        (case l => k_is)
        (case c => k_is)
        (case k => k_is)
      have d_low_table : TB.DefK (L2.KOf KX) "low_table" TB.sLowTable := by
        dsimp only [L2.KOf]
        refine' TB.defK_mk ?a ?l ?c ?k
        (case a => k_is)
        (case l => k_is)
        (case c => k_is)
        (case k => k_is)
      have d_band_value : TB.DefK (L2.KOf KX) "band_value" TB.sBandValue := by
        dsimp only [L2.KOf]
        refine' TB.defK_mk ?a ?l ?c ?k
        (case a => k_is)
        (case l => k_is)
        (case c => k_is)
        (case k => k_is)
      have d_pair_of_byte : TB.DefK (L2.KOf KX) "pair_of_byte" TB.sPairOf := by
        dsimp only [L2.KOf]
        refine' TB.defK_mk ?a ?l ?c ?k
        (case a => k_is)
        (case l => k_is)
        (case c => k_is)
        (case k => k_is)
      have d_length_of_call : TB.DefK (L2.KOf KX) "length_of_call" TB.sLenCall := by
        dsimp only [L2.KOf]
        refine' TB.defK_mk ?a ?l ?c ?k
        (case a => k_is)
        (case l => k_is)
        (case c => k_is)
        (case k => k_is)
      have d_answers : TB.DefK (L2.KOf KX) "answers" TB.sAnswers := by
        dsimp only [L2.KOf]
        refine' TB.defK_mk ?a ?l ?c ?k
        (case a => k_is)
        (case l => k_is)
        (case c => k_is)
        (case k => k_is)
      have t_Q : TB.TabK (L2.KOf KX) "Q" Sa69.Q := by
        dsimp only [L2.KOf]
        refine' TB.tabK_mk ?a ?l ?v ?z
        (case a => k_is)
        (case l => k_is)
        (case v => rfl)
        (case z => decide)
      have t_L : TB.TabK (L2.KOf KX) "L" Sa69.LOGS := by
        dsimp only [L2.KOf]
        refine' TB.tabK_mk ?a ?l ?v ?z
        (case a => k_is)
        (case l => k_is)
        (case v => rfl)
        (case z => decide)
      have t_H : TB.TabK (L2.KOf KX) "H" Sa69.STEPS := by
        dsimp only [L2.KOf]
        refine' TB.tabK_mk ?a ?l ?v ?z
        (case a => k_is)
        (case l => k_is)
        (case v => rfl)
        (case z => decide)
      have t_M6 : TB.TabK (L2.KOf KX) "M6" Sa69.M6 := by
        dsimp only [L2.KOf]
        refine' TB.tabK_mk ?a ?l ?v ?z
        (case a => k_is)
        (case l => k_is)
        (case v => rfl)
        (case z => decide)
      have t_M5 : TB.TabK (L2.KOf KX) "M5" Sa69.M5 := by
        dsimp only [L2.KOf]
        refine' TB.tabK_mk ?a ?l ?v ?z
        (case a => k_is)
        (case l => k_is)
        (case v => rfl)
        (case z => decide)
      have t_M4 : TB.TabK (L2.KOf KX) "M4" Sa69.M4 := by
        dsimp only [L2.KOf]
        refine' TB.tabK_mk ?a ?l ?v ?z
        (case a => k_is)
        (case l => k_is)
        (case v => rfl)
        (case z => decide)
      have t_M2 : TB.TabK (L2.KOf KX) "M2" Sa69.M2 := by
        dsimp only [L2.KOf]
        refine' TB.tabK_mk ?a ?l ?v ?z
        (case a => k_is)
        (case l => k_is)
        (case v => rfl)
        (case z => decide)
      have t_LOW_G : TB.TabK (L2.KOf KX) "LOW_G" Sa69.GOES := by
        dsimp only [L2.KOf]
        refine' TB.tabK_mk ?a ?l ?v ?z
        (case a => k_is)
        (case l => k_is)
        (case v => rfl)
        (case z => decide)
      have t_HIGH_G : TB.TabK (L2.KOf KX) "HIGH_G" TB.HG := by
        dsimp only [L2.KOf]
        refine' TB.tabK_mk ?a ?l ?v ?z
        (case a => k_is)
        (case l => k_is)
        (case v => rfl)
        (case z => decide)
      have i_BEGIN : TB.IntK (L2.KOf KX) "BEGIN" 1 := by
        dsimp only [L2.KOf]
        refine' TB.intK_mk ?a
        (case a => k_is)
      have i_ENCODE : TB.IntK (L2.KOf KX) "ENCODE" 2 := by
        dsimp only [L2.KOf]
        refine' TB.intK_mk ?a
        (case a => k_is)
      have i_REFUSED : TB.IntK (L2.KOf KX) "REFUSED" (-2) := by
        dsimp only [L2.KOf]
        refine' TB.intK_mk ?a
        (case a => k_is)
      have i_MOST_PAIRS : TB.IntK (L2.KOf KX) "MOST_PAIRS" 65536 := by
        dsimp only [L2.KOf]
        refine' TB.intK_mk ?a
        (case a => k_is)
      have i_HIGH_H : TB.IntK (L2.KOf KX) "HIGH_H" 564 := by
        dsimp only [L2.KOf]
        refine' TB.intK_mk ?a
        (case a => k_is)
      have o_zip : PySem.W.nsIn (L2.KOf KX) mainGlobals "zip" = some none := by
        dsimp only [L2.KOf]
        k_is
      have o_sum : PySem.W.nsIn (L2.KOf KX) mainGlobals "sum" = some none := by
        dsimp only [L2.KOf]
        k_is
      have o_min : PySem.W.nsIn (L2.KOf KX) mainGlobals "min" = some none := by
        dsimp only [L2.KOf]
        k_is
      have o_len : PySem.W.nsIn (L2.KOf KX) mainGlobals "len" = some none := by
        dsimp only [L2.KOf]
        k_is
      have o_range : PySem.W.nsIn (L2.KOf KX) mainGlobals "range" = some none := by
        dsimp only [L2.KOf]
        k_is
      have o_enumerate : PySem.W.nsIn (L2.KOf KX) mainGlobals "enumerate" = some none := by
        dsimp only [L2.KOf]
        k_is
      obtain ⟨C, cb⟩ := cBand
      obtain ⟨D, ce⟩ := cEnd
      obtain ⟨L, cl⟩ := cLine
      exact ⟨C, D, L, cb, ce, cl, d_between, d_held, d_one_sign, d_plus_if, d_width, d_size_of, d_rung, d_low_bits, d_high_bits, d_byte_of_pair, d_low_table, d_band_value, d_pair_of_byte, d_length_of_call, d_answers, t_Q, t_L, t_H, t_M6, t_M5, t_M4, t_M2, t_LOW_G, t_HIGH_G, i_BEGIN, i_ENCODE, i_REFUSED, i_MOST_PAIRS, i_HIGH_H, o_zip, o_sum, o_min, o_len, o_range, o_enumerate⟩
    obtain ⟨C, D, L, T⟩ := T
    exact TB.all_ok KX G T hmg
#print axioms PySem.Challenge.cw_twobands_s01_answers_holds
