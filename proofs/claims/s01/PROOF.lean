import PyProof.Rows.All
import Wide.All
import OpenK.AllK
import Wide.FinOn
import PyProof.EqAt
import PyProof.EqKinds
import PyProof.TupleCall
import KE.BitLaws
import Open.SpecLaws
import KE.OsHead
import KE.OsGo
import KE.KMinKey
import PyFlatLaws
import PySem.Challenge.RW_rowshares_s01_answers
section
set_option Elab.async false
set_option linter.all false
set_option maxRecDepth 100000
namespace L2
open PySem PySem.Spec PyProof.Rows
abbrev Key := Sum Int Str
def keyIs : Key → Value → Bool
  | .inl k, v => Value.isInt k v
  | .inr x, v => Value.isStrOf x v
def keyH (w : World) : Key → Int
  | .inl k => hashInt k
  | .inr x => hashStr w x
theorem keyIs_shape : ∀ {k : Key} {v : Value}, keyIs k v = true → (∃ i t, k = Sum.inl i ∧ v = Value.int i t) ∨ (∃ x t, k = Sum.inr x ∧ v = Value.str x t)
  | .inl i, v, h => by
    obtain ⟨t, e⟩ := Value.isInt_shape (k := i) (v := v) h
    exact .inl ⟨i, t, rfl, e⟩
  | .inr x, v, h => by
    obtain ⟨t, e⟩ := Value.isStrOf_shape (x := x) (v := v) h
    exact .inr ⟨x, t, rfl, e⟩
theorem key_ll (a b : Int) : decide ((Sum.inl a : Key) = Sum.inl b) = (a == b) := by
  by_cases e : a = b
  · subst e; simp
  · have h : ¬ (Sum.inl a : Key) = Sum.inl b := fun q => e (Sum.inl.inj q)
    rw [decide_eq_false h]
    exact (beq_eq_false_iff_ne.mpr e).symm
theorem key_rr (a b : Str) : decide ((Sum.inr a : Key) = Sum.inr b) = decide (a = b) := by
  by_cases e : a = b
  · subst e; simp
  · have h : ¬ (Sum.inr a : Key) = Sum.inr b := fun q => e (Sum.inr.inj q)
    rw [decide_eq_false h, decide_eq_false e]
theorem key_lr (a : Int) (b : Str) : decide ((Sum.inl a : Key) = Sum.inr b) = false := decide_eq_false (fun q => nomatch q)
theorem key_rl (a : Str) (b : Int) : decide ((Sum.inr a : Key) = Sum.inl b) = false := decide_eq_false (fun q => nomatch q)
def mixKind (prog : Program) (w : World) : PySem.KeyKind prog w Key where
  is := keyIs
  hash := keyH w
  inj := fun v a b ha hb => by
    rcases keyIs_shape ha with ⟨i, t, rfl, rfl⟩ | ⟨x, t, rfl, rfl⟩
    · rcases keyIs_shape hb with ⟨j, u, rfl, e⟩ | ⟨y, u, rfl, e⟩
      · injection e with e1 _; rw [e1]
      · exact nomatch e
    · rcases keyIs_shape hb with ⟨j, u, rfl, e⟩ | ⟨y, u, rfl, e⟩
      · exact nomatch e
      · injection e with e1 _; rw [e1]
  byValue := fun k v h => by
    rcases keyIs_shape h with ⟨i, t, rfl, rfl⟩ | ⟨x, t, rfl, rfl⟩ <;> rfl
  pyHash := fun hv h => by
    rcases keyIs_shape hv with ⟨i, t, rfl, rfl⟩ | ⟨x, t, rfl, rfl⟩
    · exact wpAny_pyHash_int h
    · exact wpAny_pyHash_str h
  eqBool := fun hu hv h => by
    rcases keyIs_shape hu with ⟨i, t, rfl, rfl⟩ | ⟨x, t, rfl, rfl⟩
    · rcases keyIs_shape hv with ⟨j, u, rfl, rfl⟩ | ⟨y, u, rfl, rfl⟩
      · rw [key_ll] at h; exact wpAny_eqBool_int h
      · rw [key_lr] at h; exact SeqAt.EqAt.int_str i t y u _ _ _ _ h
    · rcases keyIs_shape hv with ⟨j, u, rfl, rfl⟩ | ⟨y, u, rfl, rfl⟩
      · rw [key_rl] at h; exact SeqAt.EqAt.str_int x t j u _ _ _ _ h
      · rw [key_rr] at h; exact wpAny_eqBool_str h
  «strs» := fun k x t v h => by
    rcases keyIs_shape h with ⟨i, u, rfl, e⟩ | ⟨y, u, rfl, e⟩
    · exact nomatch e
    · injection e with e1 _
      subst e1
      cases v <;> rfl
end L2
namespace L2
open PySem PySem.Spec PyProof.Rows
inductive V where
  | non | bl (b : Bool) | int (i : Int) | str (x : Str) | byt (b : Array UInt8) | flt (b : UInt64) | ref (a : Addr) | ty (n : String)
  deriving DecidableEq
def RelV : V → Value → Prop
  | .non, u => u = Value.none
  | .bl b, u => u = Value.bool b
  | .int i, u => ∃ t, u = Value.int i t
  | .str x, u => ∃ t, u = Value.str x t
  | .byt b, u => ∃ t, u = Value.bytes b t
  | .flt b, u => ∃ t, u = Value.float b t
  | .ref a, u => u = Value.ref a
  | .ty n, u => u = Value.type n
abbrev Vals : List V → List Value → Prop := Paired RelV
theorem Vals.length {xs : List V} {us : List Value} (r : Vals xs us) : xs.length = us.length := Paired.length r
theorem Vals.get : ∀ {xs : List V} {us : List Value} {i : Nat} {x : V}, Vals xs us → xs[i]? = some x → ∃ u, us[i]? = some u ∧ RelV x u
  | _, _, _, _, .nil, e => by simp at e
  | _, _, 0, _, .cons r _, e => by simp at e; subst e; exact ⟨_, rfl, r⟩
  | _, _, i + 1, x, .cons _ t, e => by
    obtain ⟨u, h1, h2⟩ := Vals.get (i := i) (x := x) t (by simpa using e)
    exact ⟨u, by simpa using h1, h2⟩
theorem Vals.set {x : V} {u : Value} (r : RelV x u) : ∀ {xs : List V} {us : List Value} (i : Nat), Vals xs us → Vals (xs.set i x) (us.set i u)
  | _, _, _, .nil => .nil
  | _, _, 0, .cons _ t => .cons r t
  | _, _, i + 1, .cons q t => .cons q (Vals.set r i t)
theorem Vals.append : ∀ {xs ys : List V} {us ws : List Value}, Vals xs us → Vals ys ws → Vals (xs ++ ys) (us ++ ws)
  | _, _, _, _, .nil, s => s
  | _, _, _, _, .cons r t, s => .cons r (Vals.append t s)
theorem Vals.take : ∀ {xs : List V} {us : List Value} (n : Nat), Vals xs us → Vals (xs.take n) (us.take n)
  | _, _, 0, _ => .nil
  | _, _, _ + 1, .nil => .nil
  | _, _, n + 1, .cons r t => .cons r (Vals.take n t)
theorem Vals.drop : ∀ {xs : List V} {us : List Value} (n : Nat), Vals xs us → Vals (xs.drop n) (us.drop n)
  | _, _, 0, r => r
  | _, _, _ + 1, .nil => .nil
  | _, _, n + 1, .cons _ t => Vals.drop n t
def RelO : Option V → Option Value → Prop
  | some v, some u => RelV v u
  | none, none => True
  | _, _ => False
def KV {κ : Type} : List (κ × V) → List (κ × Value) → Prop := Paired fun (p : κ × V) (q : κ × Value) => p.1 = q.1 ∧ RelV p.2 q.2
def kV : Key → V
  | .inl i => .int i
  | .inr x => .str x
inductive HO where
  /-- a list -/
  | lst (xs : List V)
  /-- a tuple (never changes) -/
  | tup (xs : List V)
  /-- a dict whose keys are ints and texts; one whose keys are tuples of ints and texts (the empty one is both) -/
  | dK (kvs : List (Key × V)) | dT (kvs : List (List Key × V))
  /-- a set of ints: its members, its size -/
  | set (S : Int → Bool) (n : Nat)
  /-- an instance of the class at C, its dict at dx, its attributes -/
  | ins (C dx : Addr) (fs : List (Str × V))
  /-- the dict of the instance at x -/
  | own (x : Addr)
  /-- the dict of an exception -/
  | xd (fs : List (Str × V))
  /-- a bound method, f of x -/
  | met (f x : Addr)
  /-- a range object lo, lo + 1, .. below hi -/
  | rng (lo hi : Int)
  /-- a thing that is known to the object (the script; a dict while a loop walks it): read, never written while it is so -/
  | frz (o : Obj) (u : HO)
  /-- a code object's table -/
  | tbl (ps : Array Value)
  /-- any other thing, by what is true of its one object (a def of one's own: SetO a S n := HO.ext fun h => ..) -/
  | ext (φ : Heap → Prop)
abbrev Hp := Addr → Option HO
def upd (H : Hp) (a : Addr) (o : HO) : Hp := fun b => if b = a then some o else H b
theorem upd_same {H : Hp} {a : Addr} {o : HO} : upd H a o a = some o := by unfold upd; rw [if_pos rfl]
theorem upd_ne {H : Hp} {a b : Addr} {o : HO} (h : b ≠ a) : upd H a o b = H b := by unfold upd; rw [if_neg h]
theorem ne_of {H : Hp} {a b : Addr} {o u : HO} (h : H a = some o) (h' : H b = some u) (d : o ≠ u) : a ≠ b := by
  intro e; subst e; rw [h] at h'; exact d (Option.some.inj h')
theorem ne_of_none {H : Hp} {a b : Addr} {o : HO} (h : H a = some o) (h' : H b = none) : a ≠ b := by
  intro e; subst e; rw [h] at h'; cases h'
section
variable (P : Program) (w : World)
def ObjOk (H : Hp) (h : Heap) (a : Addr) : HO → Prop
  | .lst xs => xs.length ≤ sizeLine ∧ ∃ (its : List Value) (n : Nat), Vals xs its ∧ h.get? a = some { cls := .type "list", data := .seq its.toArray n }
  | .tup xs => xs.length ≤ sizeLine ∧ ∃ its : List Value, Vals xs its ∧ IsTup h a its.toArray
  | .dK kvs => kvs.length ≤ sizeLine ∧ (a == sysModules) = false ∧ ∃ vs, KV kvs vs ∧ h.DictOf (mixKind P w) a vs
  | .dT kvs => kvs.length ≤ sizeLine ∧ (a == sysModules) = false ∧ ∃ xs : List (List Key × Addr × Value),
      Paired (fun (p : List Key × V) (q : List Key × Addr × Value) => p.1 = q.1 ∧ H q.2.1 = some (.tup (p.1.map kV)) ∧ RelV p.2 q.2.2) kvs xs ∧
      ∃ o es ep, h.get? a = some o ∧ o.ExactDict ∧ o.data = .dict es ep ∧ es.toList = xs.map (entryOfKey (tupleKind (mixKind P w))) ∧ (xs.map (·.1)).Nodup
  | .set S n => h.SetOf (intKind P w) a S n
  | .ins C dx fs => H dx = some (.own a) ∧ fs.length ≤ 1000 ∧ dx ≠ a ∧ h.get? a = some (PySem.W.instObj C dx) ∧
      ∃ mA, h.Ns1 dx mA ∧ (∀ f, RelO (fs.lookup f) (mA f)) ∧ PySem.Within mA (fs.map (·.1))
  | .own _ => ∃ o, h.get? a = some o
  | .xd fs => ∃ mA, h.Ns1 a mA ∧ ∀ f, RelO (fs.lookup f) (mA f)
  | .rng lo hi => ∃ t u v, h.get? a = some { cls := .type "range", data := .fields #[.int lo t, .int hi u, .int 1 v] }
  | .frz o u => h.get? a = some o ∧ ObjOk H h a u
  | .tbl ps => h.get? a = some { cls := .none, data := .fields ps }
  | .met f x => h.get? a = some (PySem.W.methodObj (.ref f) (.ref x))
  | .ext φ => φ h ∧ (∃ o, h.get? a = some o) ∧ ∀ h1 h2 : Heap, φ h1 → (∀ o, h1.get? a = some o → h2.get? a = some o) → φ h2
def HOk (H : Hp) (h : Heap) : Prop := ∀ a o, H a = some o → ObjOk P w H h a o
end
section
variable {P : Program} {w : World} {H H' : Hp} {h h' : Heap} {a : Addr} {o : HO}
theorem ObjOk.lt (x : ObjOk P w H h a o) : a < h.objs.size := by
  cases o with
  | lst xs => obtain ⟨_, _, _, _, e⟩ := x; exact Heap.lt_size e
  | tup xs => obtain ⟨_, _, _, p⟩ := x; exact p.lt
  | dK kvs => obtain ⟨_, _, _, _, o, _, _, e, _⟩ := x; exact Heap.lt_size e
  | dT kvs => obtain ⟨_, _, _, _, o, _, _, e, _⟩ := x; exact Heap.lt_size e
  | set S n => obtain ⟨o, _, _, _, e, _⟩ := x; exact Heap.lt_size e
  | ins C dx fs => obtain ⟨_, _, _, e, _⟩ := x; exact Heap.lt_size e
  | own y => obtain ⟨_, e⟩ := x; exact Heap.lt_size e
  | xd fs => obtain ⟨_, ⟨_, _, _, e, _⟩, _⟩ := x; exact Heap.lt_size e
  | rng lo hi => obtain ⟨_, _, _, e⟩ := x; exact Heap.lt_size e
  | frz ob u => obtain ⟨e, _⟩ := x; exact Heap.lt_size e
  | tbl ps => exact Heap.lt_size (show h.get? a = some _ from x)
  | met f y => exact Heap.lt_size (show h.get? a = some _ from x)
  | ext φ => obtain ⟨_, ⟨_, e⟩, _⟩ := x; exact Heap.lt_size e
theorem Paired.mapP {α β : Type} {F G : α → β → Prop} : ∀ {l₁ : List α} {l₂ : List β}, Paired F l₁ l₂ → (∀ a b, F a b → G a b) → Paired G l₁ l₂
  | _, _, .nil, _ => .nil
  | _, _, .cons r t, f => .cons (f _ _ r) (Paired.mapP t f)
theorem ObjOk.stay (x : ObjOk P w H h a o) (k : ∀ b u, (b = a ∨ H b = some (.own a)) → h.get? b = some u → h'.get? b = some u)
    (ho : ∀ b, H b = some (.own a) → H' b = some (.own a)) (ht : ∀ b xs, H b = some (.tup xs) → H' b = some (.tup xs)) : ObjOk P w H' h' a o := by
  induction o with
  | lst xs => obtain ⟨z, its, n, r, e⟩ := x; exact ⟨z, its, n, r, k _ _ (.inl rfl) e⟩
  | tup xs => obtain ⟨z, its, r, ob, e, c⟩ := x; exact ⟨z, its, r, ob, k _ _ (.inl rfl) e, c⟩
  | dK kvs => obtain ⟨z, y, vs, r, ob, es, ep, e, c⟩ := x; exact ⟨z, y, vs, r, ob, es, ep, k _ _ (.inl rfl) e, c⟩
  | dT kvs =>
    obtain ⟨z, y, xs, r, ob, es, ep, e, c⟩ := x
    exact ⟨z, y, xs, Paired.mapP r fun p q z => ⟨z.1, ht _ _ z.2.1, z.2.2⟩, ob, es, ep, k _ _ (.inl rfl) e, c⟩
  | set S n => obtain ⟨ob, es, ep, t, e, c⟩ := x; exact ⟨ob, es, ep, t, k _ _ (.inl rfl) e, c⟩
  | ins C dx fs =>
    obtain ⟨d, z, ne, e, mA, ⟨od, es, ep, e2, c⟩, r⟩ := x
    exact ⟨ho _ d, z, ne, k _ _ (.inl rfl) e, mA, ⟨od, es, ep, k _ _ (.inr d) e2, c⟩, r⟩
  | own y => obtain ⟨ob, e⟩ := x; exact ⟨ob, k _ _ (.inl rfl) e⟩
  | xd fs => obtain ⟨mA, ⟨od, es, ep, e, c⟩, r⟩ := x; exact ⟨mA, ⟨od, es, ep, k _ _ (.inl rfl) e, c⟩, r⟩
  | rng lo hi => obtain ⟨t, u, v, e⟩ := x; exact ⟨t, u, v, k _ _ (.inl rfl) e⟩
  | frz ob u ih => obtain ⟨e, q⟩ := x; exact ⟨k _ _ (.inl rfl) e, ih q⟩
  | tbl ps =>
    have e : h.get? a = some { cls := .none, data := .fields ps } := x
    show h'.get? a = some { cls := .none, data := .fields ps }
    exact k a _ (.inl rfl) e
  | met f y =>
    have e : h.get? a = some (PySem.W.methodObj (.ref f) (.ref y)) := x
    show h'.get? a = some (PySem.W.methodObj (.ref f) (.ref y))
    exact k a _ (.inl rfl) e
  | ext φ => obtain ⟨p, ⟨o, e⟩, st⟩ := x; exact ⟨st _ _ p fun o q => k _ _ (.inl rfl) q, ⟨o, k _ _ (.inl rfl) e⟩, st⟩
theorem HOk.lt (x : HOk P w H h) (e : H a = some o) : a < h.objs.size := (x a o e).lt
theorem HOk.fresh (x : HOk P w H h) (e : h.objs.size ≤ a) : H a = none := by
  cases q : H a with
  | none => rfl
  | some u => exact absurd (Nat.lt_of_lt_of_le (x.lt q) e) (Nat.lt_irrefl _)
theorem HOk.kept (x : HOk P w H h) (k : ∀ b u, h.get? b = some u → h'.get? b = some u) : HOk P w H h' := fun a o e =>
  (x a o e).stay (fun b u _ q => k b u q) (fun _ q => q) fun _ _ q => q
theorem HOk.laid (x : HOk P w H h) (k : ∀ b u, h.get? b = some u → h'.get? b = some u) (hp : h.objs.size ≤ a) (new : ObjOk P w (upd H a o) h' a o) : HOk P w (upd H a o) h' := fun b u e => by
  have hn := x.fresh hp
  by_cases hb : b = a
  · subst hb; rw [upd_same] at e; cases e; exact new
  · rw [upd_ne hb] at e
    exact (x b u e).stay (fun c v _ q => k c v q) (fun c q => by rw [upd_ne (ne_of_none q hn)]; exact q) fun c xs q => by rw [upd_ne (ne_of_none q hn)]; exact q
end
def Rd (H : Hp) (a : Addr) (u : HO) : Prop := H a = some u ∨ ∃ o, H a = some (.frz o u)
theorem Rd.ok {P : Program} {w : World} {H : Hp} {h : Heap} {a : Addr} {u : HO} (r : Rd H a u) (x : HOk P w H h) : ObjOk P w H h a u := by
  rcases r with r | ⟨o, r⟩
  · exact x a u r
  · obtain ⟨_, q⟩ := x a _ r
    exact q
def Mut : Option HO → Prop
  | some (.lst _) => True
  | some (.dK _) => True
  | some (.dT _) => True
  | some (.set _ _) => True
  | some (.ins _ _ _) => True
  | some (.ext _) => True
  | _ => False
section
variable {P : Program} {w : World} {H : Hp} {h h' : Heap} {x e : Addr} {o' : HO}
theorem HOk.write (ok : HOk P w H h) (mu : Mut (H x)) (he : e = x ∨ H e = some (.own x)) (k : ∀ b u, b ≠ e → h.get? b = some u → h'.get? b = some u) (heo : ∃ u, h'.get? e = some u)
    (new : ObjOk P w (upd H x o') h' x o') : HOk P w (upd H x o') h' := fun b u q => by
  have nown : ∀ c y, H c = some (.own y) → c ≠ x := fun c y r z => by subst z; rw [r] at mu; exact mu
  have ntup : ∀ c xs, H c = some (.tup xs) → c ≠ x := fun c xs r z => by subst z; rw [r] at mu; exact mu
  by_cases hb : b = x
  · subst hb; rw [upd_same] at q; cases q; exact new
  · rw [upd_ne hb] at q
    by_cases hbe : b = e
    · have q' : H b = some (.own x) := by
        rcases he with z | z
        · exact absurd (hbe.trans z) hb
        · rw [hbe]; exact z
      rw [q] at q'; cases q'
      obtain ⟨v, hv⟩ := heo
      exact ⟨v, by rw [hbe]; exact hv⟩
    · refine (ok b u q).stay (fun c v hc r => k c v ?_ r) (fun c r => by rw [upd_ne (nown c b r)]; exact r) fun c xs r => by rw [upd_ne (ntup c xs r)]; exact r
      rcases hc with rfl | hc
      · exact hbe
      · rintro rfl
        rcases he with z | z
        · exact nown c b hc z
        · rw [hc] at z; cases z; exact hb rfl
end
structure Un (fs ex : List Addr) (H H' : Hp) (h h' : Heap) : Prop where
  keep : ∀ b o, h.get? b = some o → H b = none → b ∉ fs → b ∉ ex → h'.get? b = some o
  slot : ∀ b o, h.get? b = some o → H b = none → b ∈ fs → b ∉ ex → ∃ sl, h'.get? b = some { o with slots := sl }
  free : ∀ b o, h.get? b = some o → H b = none → b ∉ ex → H' b = none
  there : ∀ b o, h.get? b = some o → b ∉ ex → ∃ o', h'.get? b = some o'
  tups : ∀ b xs, H b = some (.tup xs) → H' b = some (.tup xs)
  frzs : ∀ b o u, H b = some (.frz o u) → H' b = some (.frz o u)
  tbls : ∀ b ps, H b = some (.tbl ps) → ∃ more, H' b = some (.tbl (ps ++ more))
section
variable {fs fs' ex ex' : List Addr} {H H1 H2 : Hp} {h h1 h2 h' : Heap} {a x e : Addr} {o : HO}
theorem Un.any (u : Un fs ex H H1 h h1) {b : Addr} {ob : Obj} (q : h.get? b = some ob) (n : H b = none) (hx : b ∉ ex) : ∃ sl, h1.get? b = some { ob with slots := sl } := by
  by_cases hb : b ∈ fs
  · exact u.slot b ob q n hb hx
  · exact ⟨ob.slots, u.keep b ob q n hb hx⟩
theorem Un.kept (k : ∀ b u, h.get? b = some u → h'.get? b = some u) : Un fs ex H H h h' :=
  ⟨fun b ob q _ _ _ => k b ob q, fun b ob q _ _ _ => ⟨ob.slots, k b ob q⟩, fun _ _ _ n _ => n, fun b ob q _ => ⟨ob, k b ob q⟩, fun _ _ q => q, fun _ _ _ q => q, fun _ ps q => ⟨#[], by rw [q]; simp⟩⟩
theorem Un.refl : Un fs ex H H h h := Un.kept fun _ _ q => q
theorem Un.laid (k : ∀ b u, h.get? b = some u → h'.get? b = some u) (hp : h.objs.size ≤ a) (hn : H a = none) : Un fs ex H (upd H a o) h h' where
  keep := fun b u q _ _ _ => k b u q
  slot := fun b u q _ _ _ => ⟨u.slots, k b u q⟩
  free := fun b u q n _ => by rw [upd_ne (Nat.ne_of_lt (Nat.lt_of_lt_of_le (Heap.lt_size q) hp))]; exact n
  there := fun b u q _ => ⟨u, k b u q⟩
  tups := fun b xs q => by rw [upd_ne (ne_of_none q hn)]; exact q
  frzs := fun b u xs q => by rw [upd_ne (ne_of_none q hn)]; exact q
  tbls := fun b ps q => ⟨#[], by rw [upd_ne (ne_of_none q hn), q]; simp⟩
theorem Un.write (mu : Mut (H x)) (he : e = x ∨ H e = some (.own x)) (k : ∀ b u, b ≠ e → h.get? b = some u → h'.get? b = some u) (heo : ∃ u, h'.get? e = some u) : Un fs ex H (upd H x o) h h' := by
  have hx : ∀ b, H b = none → b ≠ x := fun b n z => by subst z; rw [n] at mu; exact mu
  have hb : ∀ b, H b = none → b ≠ e := fun b n z => by
    subst z
    rcases he with r | r
    · exact hx b n r
    · rw [n] at r; cases r
  have hm : ∀ b u, H b = some u → ¬ Mut (some u) → b ≠ x := fun b u q nm z => by subst z; rw [q] at mu; exact nm mu
  refine ⟨fun b u q n _ _ => k b u (hb b n) q, fun b u q n _ _ => ⟨u.slots, k b u (hb b n) q⟩, fun b u q n _ => by rw [upd_ne (hx b n)]; exact n, fun b u q _ => ?_,
    fun b xs q => by rw [upd_ne (hm b _ q fun z => z)]; exact q, fun b u xs q => by rw [upd_ne (hm b _ q fun z => z)]; exact q, fun b ps q => ⟨#[], by rw [upd_ne (hm b _ q fun z => z), q]; simp⟩⟩
  by_cases hbe : b = e
  · subst hbe; exact heo
  · exact ⟨u, k b u hbe q⟩
end
def trk (h : Heap) (H : Hp) : List Addr := (List.range h.objs.size).filter fun a => (H a).isSome
def hidT (h : Heap) (H : Hp) : Heap := PySem.W.hideAll h (trk h H)
theorem hidT_size (h : Heap) (H : Hp) : (hidT h H).objs.size = h.objs.size := PySem.W.hideAll_size _ _
theorem hidT_get {h : Heap} {H : Hp} {b : Addr} {o : Obj} (e : h.get? b = some o) (n : H b = none) : (hidT h H).get? b = some o :=
  PySem.W.hideAll_get _ e fun hm => by
    have q : (H b).isSome = true := (List.mem_filter.mp hm).2
    rw [n] at q; simp at q
theorem of_hidT {h : Heap} {H : Hp} {b : Addr} {o : Obj} (e : (hidT h H).get? b = some o) : h.get? b = some o ∧ H b = none := by
  have e' : h.get? b = some o := PySem.W.of_hideAll (trk h H) e
  refine ⟨e', ?_⟩
  cases q : H b with
  | none => rfl
  | some x =>
    have hm : b ∈ trk h H := List.mem_filter.mpr ⟨List.mem_range.mpr (Heap.lt_size e'), by simp [q]⟩
    have z : (hidT h H).get? b = none := PySem.W.hideAll_none (trk h H) hm
    rw [z] at e; cases e
end L2
namespace L2
open PySem PySem.Spec PyProof.Rows
structure Mod (K : PySem.W.Frag) (mg : Str → Option Value) (base : Heap) : Prop where
  kin : K.In base
  glob : base.Ns mainGlobals mg
  blt : ∃ mb, base.Ns builtinsNs mb ∧ ∀ x : Str, x ≠ "__name__" → mb x = bootBuiltins x
  nolimit : base.NoLimit
structure Cx where
  prog : Program
  w : World
  K : PySem.W.Frag
  mg : Str → Option Value
  base : Heap
  A : Around
  N : List Str
  s_0 : Shared
  H_0 : Hp
  env : Env
  outer : List Env
  stack : List Env
  ex : List Addr
  fn : Str → Bool
  calm : Bool
  pn : List (Addr × Obj)
  xe : Value → Shared → Prop
def frs (l : List Env) : List Addr := l.filterMap (·.frame)
abbrev Cx.fs (X : Cx) : List Addr := frs X.outer
def Vis (sc : Scope) (x : Str) : Prop := sc.names.lookup x = some .local ∨ sc.names.lookup x = some .cell ∨ sc.names.lookup x = some .free
def Loc (sc : Scope) (x : Str) : Prop := sc.names.lookup x = some .local ∨ sc.names.lookup x = some .cell
def Look (env : Env) (h : Heap) (m : Str → Option Value) (x : Str) (u : Value) : Prop :=
  (env.kindOf x = some .local ∧ m x = some u) ∨ ((env.kindOf x = some .cell ∨ env.kindOf x = some .free) ∧ ∃ c, env.cells.lookup x = some c ∧ h.IsCell c (some u))
structure Cx.Ok (X : Cx) : Prop where
  mod : Mod X.K X.mg X.base
  kind : X.env.scope.kind = .function
  glob : X.env.globals = mainGlobals
  blt : X.env.builtins = builtinsNs
  above : X.s_0.heap.objs.size ≤ X.env.locals
  inj : ∀ x y c, X.env.cells.lookup x = some c → X.env.cells.lookup y = some c → x = y
  has : ∀ x, (X.env.kindOf x = some .cell ∨ X.env.kindOf x = some .free) → ∃ c, X.env.cells.lookup x = some c
  cab : ∀ x c, X.fn x = true → X.env.cells.lookup x = some c → X.s_0.heap.objs.size ≤ c
  hd : X.calm = true → X.A.handled = none
  frames : X.A.frames = some X.stack
  stk : X.stack = X.outer ∨ (X.stack = X.env :: X.outer ∧ X.env.frame = some X.env.locals)
  exf : ∀ b ∈ X.ex, b ≠ X.env.locals ∧ ∀ x c, X.env.cells.lookup x = some c → c ≠ b
  bs : ∀ b o, X.base.get? b = some o → X.s_0.heap.get? b = some o ∧ X.H_0 b = none
  bsz : X.base.objs.size ≤ X.s_0.heap.objs.size
  noex : ∀ b o, X.base.get? b = some o → b ∉ X.ex
  exfs : ∀ b ∈ X.ex, b ∉ X.fs
  funs : X.s_0.heap.FunFrames X.base X.outer
  frf : ∀ b ∈ X.fs, X.H_0 b = none
structure Inv (X : Cx) (pins : List (Addr × Obj)) (σ : List (Option V)) (H : Hp) (s : Shared) : Prop where
  ok : X.Ok
  os : s.os = X.s_0.os
  bare : AllBare s.gens
  base : Un X.fs X.ex X.H_0 H X.s_0.heap s.heap
  loc : ∃ m, s.heap.Ns X.env.locals m ∧ ∀ (i : Nat) (x : Str) (v : V), X.N[i]? = some x → σ[i]? = some (some v) → Vis X.env.scope x → ∃ u, RelV v u ∧ Look X.env s.heap m x u
  cell : ∀ x c, X.env.cells.lookup x = some c → ∃ v, s.heap.IsCell c v
  free : H X.env.locals = none
  freeC : ∀ x c, X.env.cells.lookup x = some c → H c = none
  pin : ∀ p ∈ X.pn ++ pins, s.heap.get? p.1 = some p.2 ∧ H p.1 = none ∧ p.1 ≠ X.env.locals ∧ p.1 ∉ X.fs ∧ ∀ v, p.2.data ≠ .cell v
  hok : HOk X.prog X.w H s.heap
  len : σ.length = X.N.length
section
variable {X : Cx} {pins : List (Addr × Obj)} {σ : List (Option V)} {H H' : Hp} {s : Shared} {h' : Heap}
theorem Cx.Ok.nofr (ok : X.Ok) {b : Addr} {o : Obj} (e : X.base.get? b = some o) : b ∉ X.fs := fun hb => by
  have := (ok.funs.mem hb).1
  rw [e] at this; cases this
theorem Inv.bs (I : Inv X pins σ H s) : ∀ b o, X.base.get? b = some o → s.heap.get? b = some o ∧ H b = none := fun b o e =>
  ⟨I.base.keep b o (I.ok.bs b o e).1 (I.ok.bs b o e).2 (I.ok.nofr e) (I.ok.noex b o e), I.base.free b o (I.ok.bs b o e).1 (I.ok.bs b o e).2 (I.ok.noex b o e)⟩
theorem Inv.bk (I : Inv X pins σ H s) : ∀ b o, X.base.get? b = some o → s.heap.get? b = some o := fun b o e => (I.bs b o e).1
theorem Inv.mod (I : Inv X pins σ H s) : Mod X.K X.mg X.base := I.ok.mod
theorem Inv.kIn (I : Inv X pins σ H s) : X.K.In s.heap := I.ok.mod.kin.keeps I.bk
theorem Inv.lt (I : Inv X pins σ H s) : X.env.locals < s.heap.objs.size := let ⟨_, hn, _⟩ := I.loc; hn.lt
theorem Inv.sz (I : Inv X pins σ H s) : X.s_0.heap.objs.size ≤ s.heap.objs.size := Nat.le_trans I.ok.above (Nat.le_of_lt I.lt)
theorem Inv.nofs (I : Inv X pins σ H s) {a : Addr} (h : s.heap.objs.size ≤ a) : a ∉ X.fs := fun hb => by
  obtain ⟨_, o, ho, _⟩ := I.ok.funs.mem hb
  exact absurd (Nat.lt_of_lt_of_le (Heap.lt_size ho) (Nat.le_trans I.sz h)) (Nat.lt_irrefl _)
theorem Inv.cne (I : Inv X pins σ H s) : ∀ x c, X.env.cells.lookup x = some c → c ≠ X.env.locals := fun x c e z => by
  obtain ⟨v, o, ho, hd⟩ := I.cell x c e
  obtain ⟨m, ⟨o', es, ep, ho', hd', _⟩, _⟩ := I.loc
  rw [z, ho'] at ho; cases ho; rw [hd'] at hd; cases hd
theorem Inv.funs (I : Inv X pins σ H s) : s.heap.FunFrames X.base X.outer := by
  have all : ∀ (l : List Env), (∀ b ∈ frs l, b ∈ X.fs) → X.s_0.heap.FunFrames X.base l → s.heap.FunFrames X.base l := by
    intro l
    induction l with
    | nil => intro _ _; trivial
    | cons env r ih =>
      intro hs hl
      obtain ⟨hk, ⟨L, o, hf, hn, ho, hd⟩, hr⟩ := hl
      have hL : L ∈ X.fs := hs L (by unfold frs; rw [List.filterMap_cons, hf]; exact List.mem_cons_self)
      obtain ⟨sl, e⟩ := I.base.slot L o ho (I.ok.frf L hL) hL fun z => I.ok.exfs L z hL
      exact ⟨hk, ⟨L, _, hf, hn, e, hd⟩, ih (fun b hb => hs b (by unfold frs; rw [List.filterMap_cons, hf]; exact List.mem_cons_of_mem _ hb)) hr⟩
  exact all X.outer (fun _ hb => hb) I.ok.funs
theorem Inv.stack (I : Inv X pins σ H s) : s.heap.FunFrames X.base X.stack := by
  rcases I.ok.stk with e | ⟨e, hf⟩
  · rw [e]; exact I.funs
  · rw [e]
    obtain ⟨m, hn, _⟩ := I.loc
    refine .cons (by rw [I.ok.kind]; decide) hf hn ?_ I.funs
    exact Heap.get?_none_of_le (Nat.le_trans I.ok.bsz I.ok.above)
theorem Inv.stkSub (I : Inv X pins σ H s) : ∀ b ∈ frs X.stack, b ∈ X.env.locals :: X.fs := fun b hb => by
  rcases I.ok.stk with e | ⟨e, hf⟩
  · rw [e] at hb; exact List.mem_cons_of_mem _ hb
  · rw [e] at hb
    unfold frs at hb
    rw [List.filterMap_cons, hf] at hb
    exact hb
theorem Inv.stkFree (I : Inv X pins σ H s) : ∀ b ∈ frs X.stack, H b = none := fun b hb => by
  rcases List.mem_cons.mp (I.stkSub b hb) with e | hb
  · rw [e]; exact I.free
  · obtain ⟨_, o, ho, _⟩ := I.ok.funs.mem hb
    exact I.base.free b o ho (I.ok.frf b hb) fun z => I.ok.exfs b z hb
theorem Inv.step {g' : Array GenState} {t' : Nat} {d' : Drawn} {ch : List Addr} (I : Inv X pins σ H s)
    (hch : ∀ b ∈ ch, (b ∈ X.ex ∨ X.s_0.heap.objs.size ≤ b) ∧ b ≠ X.env.locals ∧ (∀ x c, X.env.cells.lookup x = some c → c ≠ b) ∧ ∀ p ∈ X.pn ++ pins, p.1 ≠ b)
    (keep : ∀ b o, b ≠ X.env.locals → b ∉ X.fs → b ∉ ch → s.heap.get? b = some o → H b = none → h'.get? b = some o)
    (slot : ∀ b o, b ≠ X.env.locals → b ∈ X.fs → b ∉ ch → s.heap.get? b = some o → H b = none → ∃ sl, h'.get? b = some { o with slots := sl }) (free : ∀ b o, b ∉ ch → s.heap.get? b = some o → H b = none → H' b = none)
    (there : ∀ b o, b ∉ ch → s.heap.get? b = some o → ∃ o', h'.get? b = some o')
    (tups : ∀ b xs, H b = some (.tup xs) → H' b = some (.tup xs)) (frzs : ∀ b o u, H b = some (.frz o u) → H' b = some (.frz o u)) (tbls : ∀ b ps, H b = some (.tbl ps) → ∃ more, H' b = some (.tbl (ps ++ more)))
    (ns : ∀ m, s.heap.Ns X.env.locals m → h'.Ns X.env.locals m) (hok : HOk X.prog X.w H' h') (hg : AllBare g') :
    Inv X pins σ H' { s with heap := h', gens := g', drawn := d', toks := t' } := by
  have neL : ∀ b o, X.s_0.heap.get? b = some o → b ≠ X.env.locals := fun b o e => Nat.ne_of_lt (Nat.lt_of_lt_of_le (Heap.lt_size e) I.ok.above)
  have neC : ∀ b o, X.s_0.heap.get? b = some o → b ∉ X.ex → b ∉ ch := fun b o e hx hb => by
    rcases (hch b hb).1 with z | z
    · exact hx z
    · exact absurd (Nat.lt_of_lt_of_le (Heap.lt_size e) z) (Nat.lt_irrefl _)
  have cellK : ∀ x c, X.env.cells.lookup x = some c → ∀ v, s.heap.IsCell c v → h'.IsCell c v := fun x c e v ⟨o, ho, hd⟩ => by
    have nch : c ∉ ch := fun z => (hch c z).2.2.1 x c e rfl
    by_cases hc : c ∈ X.fs
    · obtain ⟨sl, q⟩ := slot c o (I.cne x c e) hc nch ho (I.freeC x c e)
      exact ⟨_, q, hd⟩
    · exact ⟨o, keep c o (I.cne x c e) hc nch ho (I.freeC x c e), hd⟩
  refine ⟨I.ok, I.os, hg, ⟨fun b o e n hb hx => ?_, fun b o e n hb hx => ?_, fun b o e n hx => ?_, fun b o e hx => ?_, fun b xs e => tups b xs (I.base.tups b xs e), fun b o xs e => frzs b o xs (I.base.frzs b o xs e), fun b ps e => ?_⟩, ?_, fun x c e => ?_, ?_, fun x c e => ?_, fun p hp => ?_, hok, I.len⟩
  · exact keep b o (neL b o e) hb (neC b o e hx) (I.base.keep b o e n hb hx) (I.base.free b o e n hx)
  · obtain ⟨sl, e1⟩ := I.base.slot b o e n hb hx
    obtain ⟨sl', e2⟩ := slot b _ (neL b o e) hb (neC b o e hx) e1 (I.base.free b o e n hx)
    exact ⟨sl', e2⟩
  · obtain ⟨o', e1⟩ := I.base.there b o e hx
    exact free b o' (neC b o e hx) e1 (I.base.free b o e n hx)
  · obtain ⟨o', e1⟩ := I.base.there b o e hx
    exact there b o' (neC b o e hx) e1
  · obtain ⟨m1, e1⟩ := I.base.tbls b ps e
    obtain ⟨m2, e2⟩ := tbls b _ e1
    exact ⟨m1 ++ m2, by rw [e2, Array.append_assoc]⟩
  · obtain ⟨m, hn, hl⟩ := I.loc
    refine ⟨m, ns m hn, fun i x v e1 e2 e3 => ?_⟩
    obtain ⟨u, r, l⟩ := hl i x v e1 e2 e3
    refine ⟨u, r, ?_⟩
    rcases l with l | ⟨k, c, e, z⟩
    · exact .inl l
    · exact .inr ⟨k, c, e, cellK x c e _ z⟩
  · obtain ⟨v, z⟩ := I.cell x c e
    exact ⟨v, cellK x c e v z⟩
  · obtain ⟨m, ⟨o, _, _, ho, _⟩, _⟩ := I.loc
    exact free _ o (fun z => (hch _ z).2.1 rfl) ho I.free
  · obtain ⟨v, o, ho, hd⟩ := I.cell x c e
    exact free c o (fun z => (hch c z).2.2.1 x c e rfl) ho (I.freeC x c e)
  · obtain ⟨e, n, ne, nf, d⟩ := I.pin p hp
    have nch : p.1 ∉ ch := fun z => (hch p.1 z).2.2.2 p hp rfl
    exact ⟨keep p.1 p.2 ne nf nch e n, free p.1 p.2 nch e n, ne, nf, d⟩
theorem Inv.un {t' : Nat} (I : Inv X pins σ H s) (u : Un X.fs [] H H' s.heap h') (hok : HOk X.prog X.w H' h') : Inv X pins σ H' { s with heap := h', toks := t' } := by
  obtain ⟨m, ⟨o, es, ep, ho, r⟩, _⟩ := id I.loc
  obtain ⟨sl, hL⟩ := u.any ho I.free (by simp)
  exact I.step (g' := s.gens) (d' := s.drawn) (ch := []) (fun _ z => nomatch z) (fun b o _ hb _ e n => u.keep b o e n hb (by simp)) (fun b o _ hb _ e n => u.slot b o e n hb (by simp)) (fun b o _ e n => u.free b o e n (by simp)) (fun b o _ e => u.there b o e (by simp)) u.tups u.frzs u.tbls (fun m' hm => by
    obtain ⟨o', es', ep', ho', r'⟩ := hm
    rw [ho] at ho'; cases ho'
    exact ⟨_, es', ep', hL, r'⟩) hok I.bare
theorem Inv.call {g' : Array GenState} {t' : Nat} {d' : Drawn} {ch : List Addr} (I : Inv X pins σ H s) (u : Un (frs X.stack) ch H H' s.heap h') (hok : HOk X.prog X.w H' h') (hg : AllBare g')
    (hch : ∀ b ∈ ch, (b ∈ X.ex ∨ X.s_0.heap.objs.size ≤ b) ∧ b ≠ X.env.locals ∧ (∀ x c, X.env.cells.lookup x = some c → c ≠ b) ∧ ∀ p ∈ X.pn ++ pins, p.1 ≠ b) :
    Inv X pins σ H' { s with heap := h', gens := g', drawn := d', toks := t' } := by
  obtain ⟨m, ⟨o, es, ep, ho, r⟩, _⟩ := id I.loc
  obtain ⟨sl, hL⟩ := u.any ho I.free fun z => (hch _ z).2.1 rfl
  exact I.step (ch := ch) hch (fun b o hL hb hc e n => u.keep b o e n (fun z => (List.mem_cons.mp (I.stkSub b z)).elim hL hb) hc) (fun b o _ _ hc e n => u.any e n hc) (fun b o hc e n => u.free b o e n hc) (fun b o hc e => u.there b o e hc) u.tups u.frzs u.tbls (fun m' hm => by
    obtain ⟨o', es', ep', ho', r'⟩ := hm
    rw [ho] at ho'; cases ho'
    exact ⟨_, es', ep', hL, r'⟩) hok hg
theorem Inv.turned {t' : Nat} {it : Addr} (I : Inv X pins σ H s) (k : ∀ b o, b ≠ it → s.heap.get? b = some o → h'.get? b = some o) (hn : H it = none) (hL : it ≠ X.env.locals)
    (h1 : it ∈ X.ex ∨ X.s_0.heap.objs.size ≤ it) (h2 : ∀ x c, X.env.cells.lookup x = some c → c ≠ it) (h3 : ∀ p ∈ X.pn ++ pins, p.1 ≠ it) : Inv X pins σ H { s with heap := h', toks := t' } := by
  have nit : ∀ b u, H b = some u → b ≠ it := fun b u e z => by rw [z, hn] at e; cases e
  refine I.step (g' := s.gens) (d' := s.drawn) (ch := [it]) (fun b hb => ?_) (fun b o _ _ hc e _ => k b o (fun z => hc (by simp [z])) e) (fun b o _ _ hc e _ => ⟨o.slots, k b o (fun z => hc (by simp [z])) e⟩) (fun _ _ _ _ n => n)
    (fun b o hc e => ⟨o, k b o (fun z => hc (by simp [z])) e⟩) (fun _ _ e => e) (fun _ _ _ e => e) (fun b ps e => ⟨#[], by rw [e]; simp⟩) (fun m hm => ?_) (fun b u e => ?_) I.bare
  · have e : b = it := by simpa using hb
    subst e
    exact ⟨h1, hL, h2, h3⟩
  · obtain ⟨o, es, ep, ho, r⟩ := hm
    exact ⟨o, es, ep, k _ o (Ne.symm hL) ho, r⟩
  · refine (I.hok b u e).stay (fun c v hc q => k c v ?_ q) (fun _ q => q) fun _ _ q => q
    rcases hc with z | z
    · rw [z]; exact nit b u e
    · exact nit c _ z
theorem Inv.tok (I : Inv X pins σ H s) (t : Nat) : Inv X pins σ H { s with toks := t } := I.un (h' := s.heap) (t' := t) Un.refl I.hok
theorem Inv.kept {t' : Nat} (I : Inv X pins σ H s) (k : ∀ b u, s.heap.get? b = some u → h'.get? b = some u) : Inv X pins σ H { s with heap := h', toks := t' } := I.un (Un.kept k) (I.hok.kept k)
theorem Inv.laid {a : Addr} {o : HO} {t' : Nat} (I : Inv X pins σ H s) (k : ∀ b u, s.heap.get? b = some u → h'.get? b = some u) (hp : s.heap.objs.size ≤ a) (new : ObjOk X.prog X.w (upd H a o) h' a o) :
    Inv X pins σ (upd H a o) { s with heap := h', toks := t' } := I.un (Un.laid k hp (I.hok.fresh hp)) (I.hok.laid k hp new)
theorem Inv.write {x e : Addr} {o : HO} {t' : Nat} (I : Inv X pins σ H s) (mu : Mut (H x)) (he : e = x ∨ H e = some (.own x)) (k : ∀ b u, b ≠ e → s.heap.get? b = some u → h'.get? b = some u) (heo : ∃ u, h'.get? e = some u)
    (new : ObjOk X.prog X.w (upd H x o) h' x o) : Inv X pins σ (upd H x o) { s with heap := h', toks := t' } := I.un (Un.write mu he k heo) (I.hok.write mu he k heo new)
theorem Inv.pins_of {pins' : List (Addr × Obj)} (I : Inv X pins σ H s) (h : ∀ p ∈ pins', s.heap.get? p.1 = some p.2 ∧ H p.1 = none ∧ p.1 ≠ X.env.locals ∧ p.1 ∉ X.fs ∧ ∀ v, p.2.data ≠ .cell v) : Inv X pins' σ H s :=
  ⟨I.ok, I.os, I.bare, I.base, I.loc, I.cell, I.free, I.freeC, fun p hp => (List.mem_append.mp hp).elim (fun z => I.pin p (List.mem_append_left _ z)) (h p), I.hok, I.len⟩
theorem nodup_ix {N : List Str} (hN : N.Nodup) {i j : Nat} {x : Str} (a : N[i]? = some x) (b : N[j]? = some x) : i = j := by
  obtain ⟨h1, e1⟩ := List.getElem?_eq_some_iff.mp a
  obtain ⟨h2, e2⟩ := List.getElem?_eq_some_iff.mp b
  exact (List.getElem_inj hN).mp (e1.trans e2.symm)
theorem store_ok2 {M : Model} {A : Around} {E : Value → Shared → Prop} {i : Nat} {x : Str} {v : V} {u : Value} {Q : Unit → Shared → Prop} (I : Inv X pins σ H s) (hN : X.N.Nodup) (hi : X.N[i]? = some x) (hx : Loc X.env.scope x) (r : RelV v u)
    (h : ∀ s', Inv X pins (σ.set i (some v)) H s' → (∃ a, Heap.SameBut a s.heap s'.heap ∧ (a = X.env.locals ∨ X.env.cells.lookup x = some a)) → Q () s') (hf : X.fn x = true ∨ X.env.scope.names.lookup x = some .local := by first | exact .inl rfl | exact .inr rfl | assumption) : wpAny M A (storeName X.env x u) Q E s := by
  obtain ⟨m, hn, hl⟩ := id I.loc
  have hcls : (X.env.scope.kind == .class || (X.env.scope.kind == .module && X.env.locals != X.env.globals)) = false := by rw [I.ok.kind]; rfl
  have hiσ : i < σ.length := by rw [I.len]; exact (List.getElem?_eq_some_iff.mp hi).1
  have cne := I.cne
  have tracked : ∀ {a : Addr} {h' : Heap}, (∃ o, s.heap.get? a = some o ∧ H a = none) → Heap.SameBut a s.heap h' → HOk X.prog X.w H h' := fun {a h'} ha hs b ob e => by
    obtain ⟨_, _, hfree⟩ := ha
    refine (I.hok b ob e).stay (fun c w' hc q => (hs.2 c ?_).trans q) (fun _ q => q) fun _ _ q => q
    rintro rfl
    rcases hc with rfl | hc
    · rw [hfree] at e; cases e
    · rw [hfree] at hc; cases hc
  rcases hx with hk | hk
  · refine wpAny_storeName_local hk hn (fun h' hn' hs => ?_) hcls
    obtain ⟨oL, _, _, hoL, _⟩ := id hn
    refine h _ ⟨I.ok, I.os, I.bare, ⟨fun b o e n hb hx => ?_, fun b o e n hb hx => ?_, I.base.free, fun b o e hx => ?_, I.base.tups, I.base.frzs, I.base.tbls⟩, ⟨_, hn', fun j y v' e1 e2 e3 => ?_⟩, fun y c e => ?_, I.free, I.freeC, fun p hp => ?_, tracked ⟨oL, hoL, I.free⟩ hs, by simpa using I.len⟩ ⟨_, hs, .inl rfl⟩
    · exact (hs.2 b (Nat.ne_of_lt (Nat.lt_of_lt_of_le (Heap.lt_size e) I.ok.above))).trans (I.base.keep b o e n hb hx)
    · obtain ⟨sl, e1⟩ := I.base.slot b o e n hb hx
      exact ⟨sl, (hs.2 b (Nat.ne_of_lt (Nat.lt_of_lt_of_le (Heap.lt_size e) I.ok.above))).trans e1⟩
    · obtain ⟨o', e1⟩ := I.base.there b o e hx
      exact ⟨o', (hs.2 b (Nat.ne_of_lt (Nat.lt_of_lt_of_le (Heap.lt_size e) I.ok.above))).trans e1⟩
    · by_cases hj : j = i
      · subst hj
        rw [hi] at e1; cases e1
        rw [List.getElem?_set_self hiσ] at e2
        cases e2
        exact ⟨u, r, .inl ⟨hk, by simp⟩⟩
      · rw [List.getElem?_set_ne (Ne.symm hj)] at e2
        obtain ⟨u', r', q⟩ := hl j y v' e1 e2 e3
        refine ⟨u', r', ?_⟩
        rcases q with ⟨k, e⟩ | ⟨k, c, e, z⟩
        · refine .inl ⟨k, ?_⟩
          have : y ≠ x := fun e => hj (nodup_ix hN e1 (e ▸ hi))
          simp [this, e]
        · exact .inr ⟨k, c, e, z.sameBut hs (cne y c e)⟩
    · obtain ⟨w', z⟩ := I.cell y c e
      exact ⟨w', z.sameBut hs (cne y c e)⟩
    · obtain ⟨e, n, ne, nf, d⟩ := I.pin p hp
      exact ⟨(hs.2 p.1 ne).trans e, n, ne, nf, d⟩
  · have hfn : X.fn x = true := by
      rcases hf with z | z
      · exact z
      · rw [z] at hk; cases hk
    obtain ⟨c, hc⟩ := I.ok.has x (.inl hk)
    obtain ⟨w', z⟩ := I.cell x c hc
    refine wpAny_storeName_cell I.ok.kind hk hc z (fun h' hc' hs => ?_)
    obtain ⟨oc, hoc, hocd⟩ := id z
    refine h { s with heap := h' } ⟨I.ok, I.os, I.bare, ⟨fun b o e n hb hx => ?_, fun b o e n hb hx => ?_, I.base.free, fun b o e hx => ?_, I.base.tups, I.base.frzs, I.base.tbls⟩, ⟨m, hn.sameBut hs (Ne.symm (cne x c hc)), fun j y v' e1 e2 e3 => ?_⟩, fun y c' e => ?_, I.free, I.freeC, fun p hp => ?_, tracked ⟨oc, hoc, I.freeC x c hc⟩ hs, by simpa using I.len⟩ ⟨c, hs, .inr hc⟩
    · exact (hs.2 b (Nat.ne_of_lt (Nat.lt_of_lt_of_le (Heap.lt_size e) (I.ok.cab x c hfn hc)))).trans (I.base.keep b o e n hb hx)
    · obtain ⟨sl, e1⟩ := I.base.slot b o e n hb hx
      exact ⟨sl, (hs.2 b (Nat.ne_of_lt (Nat.lt_of_lt_of_le (Heap.lt_size e) (I.ok.cab x c hfn hc)))).trans e1⟩
    · obtain ⟨o', e1⟩ := I.base.there b o e hx
      exact ⟨o', (hs.2 b (Nat.ne_of_lt (Nat.lt_of_lt_of_le (Heap.lt_size e) (I.ok.cab x c hfn hc)))).trans e1⟩
    · by_cases hj : j = i
      · subst hj
        rw [hi] at e1; cases e1
        rw [List.getElem?_set_self hiσ] at e2
        cases e2
        exact ⟨u, r, .inr ⟨.inl hk, c, hc, hc'⟩⟩
      · rw [List.getElem?_set_ne (Ne.symm hj)] at e2
        obtain ⟨u', r', q⟩ := hl j y v' e1 e2 e3
        refine ⟨u', r', ?_⟩
        rcases q with q | ⟨k, c', e, z'⟩
        · exact .inl q
        · refine .inr ⟨k, c', e, z'.sameBut hs ?_⟩
          rintro rfl
          exact hj (nodup_ix hN e1 (I.ok.inj _ _ _ e hc ▸ hi))
    · by_cases hcc : c' = c
      · subst hcc; exact ⟨_, hc'⟩
      · obtain ⟨w2, z2⟩ := I.cell y c' e
        exact ⟨w2, z2.sameBut hs hcc⟩
    · obtain ⟨e, n, ne, nf, d⟩ := I.pin p hp
      refine ⟨(hs.2 p.1 ?_).trans e, n, ne, nf, d⟩
      intro q
      rw [q, hoc] at e
      have q' : oc = p.2 := Option.some.inj e
      exact d w' (by rw [← q']; exact hocd)
theorem store_ok {M : Model} {A : Around} {E : Value → Shared → Prop} {i : Nat} {x : Str} {v : V} {u : Value} {Q : Unit → Shared → Prop} (I : Inv X pins σ H s) (hN : X.N.Nodup) (hi : X.N[i]? = some x) (hx : Loc X.env.scope x) (r : RelV v u)
    (h : ∀ s', Inv X pins (σ.set i (some v)) H s' → Q () s') (hf : X.fn x = true ∨ X.env.scope.names.lookup x = some .local := by first | exact .inl rfl | exact .inr rfl | assumption) : wpAny M A (storeName X.env x u) Q E s :=
  store_ok2 I hN hi hx r (fun s' I' _ => h s' I') hf
end
abbrev XK := Value → Option Addr → Hp → Prop
abbrev St := List (Option V)
abbrev VK := V → Hp → Prop
abbrev TE := St → Hp → VK → Prop
abbrev TT := St → Hp → (Bool → Hp → Prop) → Prop
abbrev TA := St → Hp → (List V → Hp → Prop) → Prop
structure Ends where
  nx : St → Hp → Prop
  rt : VK
  bk : St → Hp → Prop := fun _ _ => False
  ct : St → Hp → Prop := fun _ _ => False
abbrev TS := Ends → St → Hp → Prop
def EP (X : Cx) (pins : List (Addr × Obj)) (σ : St) (Q : VK) (u : Value) (s' : Shared) : Prop := ∃ v H', Inv X pins σ H' s' ∧ RelV v u ∧ Q v H'
def TP (X : Cx) (pins : List (Addr × Obj)) (σ : St) (Q : Bool → Hp → Prop) (b : Bool) (s' : Shared) : Prop := ∃ H', Inv X pins σ H' s' ∧ Q b H'
def AP (X : Cx) (pins : List (Addr × Obj)) (σ : St) (Q : List V → Hp → Prop) (us : List Value) (s' : Shared) : Prop := ∃ vs H', Inv X pins σ H' s' ∧ Vals vs us ∧ Q vs H'
def SP (X : Cx) (pins : List (Addr × Obj)) (D : Ends) (f : Flow) (s' : Shared) : Prop :=
  match f with
  | .next => ∃ σ' H', Inv X pins σ' H' s' ∧ D.nx σ' H'
  | .brk => ∃ σ' H', Inv X pins σ' H' s' ∧ D.bk σ' H'
  | .cont => ∃ σ' H', Inv X pins σ' H' s' ∧ D.ct σ' H'
  | .ret u => ∃ v σ' H', Inv X pins σ' H' s' ∧ RelV v u ∧ D.rt v H'
def PE (X : Cx) (e : Expr) (t : TE) : Prop :=
  ∀ (pins : List (Addr × Obj)) (s : Shared) (σ : St) (H : Hp) (Q : VK), Inv X pins σ H s → t σ H Q → wpAny (model X.prog X.w) X.A (eval e X.env) (EP X pins σ Q) X.xe s
def PT (X : Cx) (e : Expr) (t : TT) : Prop :=
  ∀ (pins : List (Addr × Obj)) (s : Shared) (σ : St) (H : Hp) (Q : Bool → Hp → Prop), Inv X pins σ H s → t σ H Q → wpAny (model X.prog X.w) X.A (isTrue e X.env (eval e X.env)) (TP X pins σ Q) X.xe s
def PW (X : Cx) (e : Expr) (t : TT) : Prop :=
  ∀ (whole : Sem Value) (pins : List (Addr × Obj)) (s : Shared) (σ : St) (H : Hp) (Q : Bool → Hp → Prop), Inv X pins σ H s → t σ H Q → wpAny (model X.prog X.w) X.A (isTrue e X.env whole) (TP X pins σ Q) X.xe s
theorem PW.pt {X : Cx} {e : Expr} {t : TT} (h : PW X e t) : PT X e t := h _
def PA (X : Cx) (es : List Expr) (t : TA) : Prop :=
  ∀ (pos : Pos) (pins : List (Addr × Obj)) (s : Shared) (σ : St) (H : Hp) (Q : List V → Hp → Prop), Inv X pins σ H s → t σ H Q → wpAny (model X.prog X.w) X.A (spliced (backTo pos (starEach es X.env))) (AP X pins σ Q) X.xe s
def PS (X : Cx) (st : Stmt) (t : TS) : Prop :=
  ∀ (pins : List (Addr × Obj)) (s : Shared) (σ : St) (H : Hp) (D : Ends), Inv X pins σ H s → t D σ H → wpAny (model X.prog X.w) X.A (exec st X.env) (SP X pins D) X.xe s
def PSs (X : Cx) (st : List Stmt) (t : TS) : Prop :=
  ∀ (pins : List (Addr × Obj)) (s : Shared) (σ : St) (H : Hp) (D : Ends), Inv X pins σ H s → t D σ H → wpAny (model X.prog X.w) X.A (execs st X.env) (SP X pins D) X.xe s
theorem thn {α : Type} {t : Sem α} {Q Q' : α → Shared → Prop} {M : Model} {A : Around} {E : Value → Shared → Prop} {s : Shared} (h : wpAny M A t Q E s) (hQ : ∀ a s, Q a s → Q' a s) : wpAny M A t Q' E s := wpAny_mono h hQ fun _ _ x => x
end L2
namespace L2
open PySem PySem.Spec PyProof.Rows
section
variable {X : Cx}
def tVar (i : Nat) : TE := fun σ H Q => ∃ v, σ[i]? = some (some v) ∧ Q v H
def tC (v : V) : TE := fun _ H Q => Q v H
theorem pe_var {i : Nat} {x : Str} {pos : Pos} (hN : X.N[i]? = some x) (hv : Vis X.env.scope x) (hd : (x == ("__debug__" : Str)) = false := by decide) (hcd : (x == ("__classdict__" : Str)) = false := by decide) : PE X (.Name x pos) (tVar i) := by
  intro pins s σ H Q I h
  obtain ⟨v, e, h⟩ := h
  obtain ⟨m, hn, hl⟩ := I.loc
  obtain ⟨u, r, l⟩ := hl i x v hN e hv
  have fin : EP X pins σ Q u s := ⟨v, H, I, r, h⟩
  rcases l with ⟨hk, hm⟩ | ⟨hk, c, hc, hcell⟩
  · exact wpAny_Name (wpAny_loadName_local I.ok.kind hk hn hm fin) hd
  · rcases hk with hk | hk
    · exact wpAny_Name (wpAny_loadName_cell I.ok.kind hk hc hcell fin) hd
    · exact wpAny_Name (wpAny_loadName_free I.ok.kind hk hc hcell fin hcd) hd
theorem pe_int {i j pos} : PE X (.Constant (.int i) j pos) (tC (.int i)) := fun _ _ _ H _ I h => wpAny_Constant_int ⟨.int i, H, I.tok _, ⟨_, rfl⟩, h⟩
theorem pe_bl {b j pos} : PE X (.Constant (.bool b) j pos) (tC (.bl b)) := fun _ _ _ H _ I h => Constant_bool ⟨.bl b, H, I, rfl, h⟩
def Gl (X : Cx) (x : Str) : Prop := X.env.kindOf x = some .globalImplicit
theorem ld_glob {E : Value → Shared → Prop} {pins : List (Addr × Obj)} {s : Shared} {σ : St} {H : Hp} {x : Str} {u : Value} {pos : Pos} {Q : Value → Shared → Prop} (I : Inv X pins σ H s) (hg : Gl X x) (hm : X.mg x = some u) (h : Q u s)
    (hd : (x == ("__debug__" : Str)) = false := by decide) : wpAny (model X.prog X.w) X.A (eval (.Name x pos) X.env) Q E s :=
  Calls.Name_function_global I.ok.kind hg (Calls.loadGlobal_global (by rw [I.ok.glob]; exact I.mod.glob.keeps I.bk) hm h) hd
theorem ld_blt {E : Value → Shared → Prop} {pins : List (Addr × Obj)} {s : Shared} {σ : St} {H : Hp} {x : Str} {u : Value} {pos : Pos} {Q : Value → Shared → Prop} (I : Inv X pins σ H s) (hg : Gl X x) (hm : X.mg x = none) (hv : bootBuiltins x = some u) (h : Q u s)
    (hn : x ≠ "__name__" := by decide) (hd : (x == ("__debug__" : Str)) = false := by decide) : wpAny (model X.prog X.w) X.A (eval (.Name x pos) X.env) Q E s := by
  obtain ⟨mb, h1, h2⟩ := I.mod.blt
  exact Calls.Name_function_global I.ok.kind hg (Calls.loadGlobal_builtin (by rw [I.ok.glob]; exact I.mod.glob.keeps I.bk) hm (by rw [I.ok.blt]; exact h1.keeps I.bk) ((h2 x hn).trans hv) h) hd
theorem pe_glob {x : Str} {v : V} {u : Value} {pos : Pos} (hg : Gl X x) (hm : X.mg x = some u) (r : RelV v u) (hd : (x == ("__debug__" : Str)) = false := by decide) : PE X (.Name x pos) (tC v) :=
  fun _ _ _ H _ I h => ld_glob I hg hm ⟨v, H, I, r, h⟩ hd
variable {a b : Expr} {ta tb : TE} {pos : Pos}
def tB (t : TE) : TT := fun σ H Q => t σ H fun x H1 => ∃ c, x = .bl c ∧ Q c H1
theorem pt_val {e : Expr} {t : TE} (h : PE X e t) (he : ∀ whole, isTrue e X.env whole = (do let v ← whole; standAt e.pos; holding [v] (truthy v)) := by intro _; rfl) : PT X e (tB t) := by
  intro pins s σ H Q I hw
  refine isTrue_plain (thn (h pins s σ H _ I hw) fun v s1 ⟨x, H1, I1, r1, q1⟩ => ?_) (he _)
  obtain ⟨d, rfl, q⟩ := q1
  cases r1
  exact wpAny_truthy_bool ⟨H1, I1, q⟩
variable {tA tB' : TT} {rest : List Expr}
def tAnd (t u : TT) : TT := fun σ H Q => t σ H fun c H1 => if c = true then u σ H1 Q else Q false H1
def tOr (t u : TT) : TT := fun σ H Q => t σ H fun c H1 => if c = true then Q true H1 else u σ H1 Q
def tNot (t : TT) : TT := fun σ H Q => t σ H fun c H1 => Q (!c) H1
theorem pw_and1 (ha : PT X a tA) : PW X (.BoolOp .And [a] pos) tA := by
  intro wh pins s σ H Q I h
  refine isTrue_and (thn (ha pins s σ H Q I h) fun c s1 e => ?_)
  cases c with
  | true => exact isTrue_and_nil e
  | false => exact e
theorem pw_or1 (ha : PT X a tA) : PW X (.BoolOp .Or [a] pos) tA := by
  intro wh pins s σ H Q I h
  refine isTrue_or (thn (ha pins s σ H Q I h) fun c s1 e => ?_)
  cases c with
  | false => exact isTrue_or_nil e
  | true => exact e
theorem pw_and (ha : PT X a tA) (hb : PW X (.BoolOp .And (b :: rest) pos) tB') : PW X (.BoolOp .And (a :: b :: rest) pos) (tAnd tA tB') := by
  intro wh pins s σ H Q I h
  refine isTrue_and (thn (ha pins s σ H _ I h) fun c s1 ⟨H1, I1, q1⟩ => ?_)
  cases c with
  | true => exact hb wh pins s1 σ H1 Q I1 q1
  | false => exact ⟨H1, I1, q1⟩
theorem pw_or (ha : PT X a tA) (hb : PW X (.BoolOp .Or (b :: rest) pos) tB') : PW X (.BoolOp .Or (a :: b :: rest) pos) (tOr tA tB') := by
  intro wh pins s σ H Q I h
  refine isTrue_or (thn (ha pins s σ H _ I h) fun c s1 ⟨H1, I1, q1⟩ => ?_)
  cases c with
  | true => exact ⟨H1, I1, q1⟩
  | false => exact hb wh pins s1 σ H1 Q I1 q1
theorem pt_not (ha : PT X a tA) : PT X (.UnaryOp .Not a pos) (tNot tA) := by
  intro pins s σ H Q I h
  exact isTrue_not (ha pins s σ H (fun c H1 => Q (!c) H1) I h)
end
end L2
namespace L2
open PySem PySem.Spec PyProof.Rows
def SqL (K : PySem.W.Frag) (H : Hp) (a : Addr) (xs : List V) : Prop :=
  Rd H a (.lst xs) ∨
    ∃ (o : Obj) (its : Array Value) (n : Nat), K.lookup a = some o ∧ o.cls = .type "list" ∧ o.dict = none ∧ o.data = .seq its n ∧ its.size ≤ sizeLine ∧ Vals xs its.toList
def SqT (K : PySem.W.Frag) (H : Hp) (a : Addr) (xs : List V) : Prop :=
  Rd H a (.tup xs) ∨
    ∃ (o : Obj) (its : Array Value) (n : Nat), K.lookup a = some o ∧ o.cls = .type "tuple" ∧ o.data = .seq its n ∧ its.size ≤ sizeLine ∧ Vals xs its.toList
def absV : Value → Option V
  | .none => some .non
  | .bool b => some (.bl b)
  | .int i _ => some (.int i)
  | .str x _ => some (.str x)
  | .bytes b _ => some (.byt b)
  | .float b _ => some (.flt b)
  | .ref a => some (.ref a)
  | .type n => some (.ty n)
  | _ => none
theorem RelV.abs {x : V} {u : Value} (r : RelV x u) : absV u = some x := by
  cases x with
  | non => cases r; rfl
  | bl _ => cases r; rfl
  | int _ => obtain ⟨t, rfl⟩ := r; rfl
  | str _ => obtain ⟨t, rfl⟩ := r; rfl
  | byt _ => obtain ⟨t, rfl⟩ := r; rfl
  | flt _ => obtain ⟨t, rfl⟩ := r; rfl
  | ref _ => cases r; rfl
  | ty _ => cases r; rfl
theorem RelV.inj {x y : V} {u : Value} (r : RelV x u) (q : RelV y u) : x = y := Option.some.inj (r.abs.symm.trans q.abs)
theorem Vals.inj : ∀ {xs ys : List V} {us : List Value}, Vals xs us → Vals ys us → xs = ys
  | _, _, _, .nil, .nil => rfl
  | _, _, _, .cons r t, .cons r' t' => by rw [r.inj r', Vals.inj t t']
section
variable {X : Cx} {pins : List (Addr × Obj)} {σ : St} {H : Hp} {s : Shared} {a : Addr} {xs ys : List V}
theorem SqL.of {K : PySem.W.Frag} (h : H a = some (.lst xs)) : SqL K H a xs := .inl (.inl h)
theorem SqT.of {K : PySem.W.Frag} (h : H a = some (.tup xs)) : SqT K H a xs := .inl (.inl h)
theorem Inv.list (I : Inv X pins σ H s) (h : SqL X.K H a xs) : ∃ its : List Value, Vals xs its ∧ PlainL s.heap a its.toArray ∧ xs.length ≤ sizeLine := by
  rcases h with h | ⟨o, its, n, hk, hc, hd, hs, hz, r⟩
  · obtain ⟨z, its, n, r, e⟩ := h.ok I.hok
    exact ⟨its, r, ⟨_, n, e, rfl, rfl, rfl⟩, z⟩
  · refine ⟨its.toList, r, ⟨o, n, I.kIn a o hk, hc, hd, by simpa using hs⟩, ?_⟩
    have e := r.length
    simp only [Array.length_toList] at e
    omega
theorem Inv.tuple (I : Inv X pins σ H s) (h : SqT X.K H a xs) : ∃ its : List Value, Vals xs its ∧ IsTup s.heap a its.toArray ∧ xs.length ≤ sizeLine := by
  rcases h with h | ⟨o, its, n, hk, hc, hs, hz, r⟩
  · obtain ⟨z, its, r, p⟩ := h.ok I.hok
    exact ⟨its, r, p, z⟩
  · refine ⟨its.toList, r, ⟨o, I.kIn a o hk, hc, n, by simpa using hs⟩, ?_⟩
    have e := r.length
    simp only [Array.length_toList] at e
    omega
theorem Inv.list_inj (I : Inv X pins σ H s) (h : SqL X.K H a xs) (h' : SqL X.K H a ys) : xs = ys := by
  obtain ⟨its, r, ⟨o, n, e, _, _, d⟩, _⟩ := I.list h
  obtain ⟨its', r', ⟨o', n', e', _, _, d'⟩, _⟩ := I.list h'
  rw [e] at e'; cases e'
  rw [d] at d'
  injection d' with d1 _
  have : its = its' := by simpa using congrArg Array.toList d1
  subst this
  exact r.inj r'
end
abbrev Cx.wish (X : Cx) (E : Value → Shared → Prop) : Cx := { X with xe := E }
abbrev Cx.nox (X : Cx) : Cx := X.wish fun _ _ => False
theorem Cx.Ok.wish {X : Cx} (ok : X.Ok) (E : Value → Shared → Prop) : (X.wish E).Ok :=
  ⟨ok.mod, ok.kind, ok.glob, ok.blt, ok.above, ok.inj, ok.has, ok.cab, ok.hd, ok.frames, ok.stk, ok.exf, ok.bs, ok.bsz, ok.noex, ok.exfs, ok.funs, ok.frf⟩
theorem Cx.Ok.unwish {X : Cx} {E : Value → Shared → Prop} (ok : (X.wish E).Ok) : X.Ok :=
  ⟨ok.mod, ok.kind, ok.glob, ok.blt, ok.above, ok.inj, ok.has, ok.cab, ok.hd, ok.frames, ok.stk, ok.exf, ok.bs, ok.bsz, ok.noex, ok.exfs, ok.funs, ok.frf⟩
section
variable {X : Cx} {pins : List (Addr × Obj)} {σ : St} {H : Hp} {s : Shared} {E : Value → Shared → Prop}
theorem Inv.wish (I : Inv X pins σ H s) (E : Value → Shared → Prop) : Inv (X.wish E) pins σ H s := ⟨I.ok.wish E, I.os, I.bare, I.base, I.loc, I.cell, I.free, I.freeC, I.pin, I.hok, I.len⟩
theorem Inv.unwish (I : Inv (X.wish E) pins σ H s) : Inv X pins σ H s := ⟨I.ok.unwish, I.os, I.bare, I.base, I.loc, I.cell, I.free, I.freeC, I.pin, I.hok, I.len⟩
theorem SP.unwish {D : Ends} {f : Flow} {s' : Shared} (h : SP (X.wish E) pins D f s') : SP X pins D f s' := by
  cases f with
  | next => obtain ⟨σ', H', I, q⟩ := h; exact ⟨σ', H', I.unwish, q⟩
  | brk => obtain ⟨σ', H', I, q⟩ := h; exact ⟨σ', H', I.unwish, q⟩
  | cont => obtain ⟨σ', H', I, q⟩ := h; exact ⟨σ', H', I.unwish, q⟩
  | ret u => obtain ⟨v, σ', H', I, r, q⟩ := h; exact ⟨v, σ', H', I.unwish, r, q⟩
theorem PSs.nox {st : List Stmt} {t : TS} (h : PSs X.nox st t) : PSs X st t := fun pins s σ H D I hw =>
  wpAny_mono (h pins s σ H D (I.wish _) hw) (fun _ _ q => q.unwish) fun _ _ z => False.elim z
end
section
variable {X : Cx} {st : Stmt} {rest : List Stmt} {t u : TS} {e : Expr} {te : TE} {pos : Pos}
def tNext : TS := fun D σ H => D.nx σ H
def tSeq (t u : TS) : TS := fun D σ H => t { D with nx := u D } σ H
theorem pss_nil : PSs X [] tNext := fun _ _ σ H _ I h => wpAny_execs_nil ⟨σ, H, I, h⟩
theorem pss_cons (h1 : PS X st t) (h2 : PSs X rest u) : PSs X (st :: rest) (tSeq t u) := by
  intro pins s σ H D I h
  refine wpAny_execs_cons (thn (h1 pins s σ H { D with nx := u D } I h) fun f s1 q => ?_)
  cases f with
  | next =>
    obtain ⟨σ', H', I', q⟩ := q
    exact h2 pins s1 σ' H' D I' q
  | ret v => exact q
  | brk => exact q
  | cont => exact q
theorem pss_one (h1 : PS X st t) : PSs X [st] t := by
  intro pins s σ H D I h
  refine wpAny_execs_cons (thn (h1 pins s σ H D I h) fun f s1 q => ?_)
  cases f with
  | next => exact wpAny_execs_nil q
  | ret v => exact q
  | brk => exact q
  | cont => exact q
theorem Inv.quiet {pins : List (Addr × Obj)} {σ : St} {H : Hp} {s : Shared} (I : Inv X pins σ H s) : interactive X.env = false := by simp [interactive, I.ok.kind]
def tDrop (te : TE) : TS := fun D σ H => te σ H fun _ H1 => D.nx σ H1
theorem ps_expr (he : PE X e te) (hs : swapsWith e none pos.line X.env = pure false := by rfl) : PS X (.Expr e pos) (tDrop te) := by
  intro pins s σ H D I h
  exact wpAny_Expr_any (thn (he pins s σ H _ I h) fun v s1 ⟨x, H1, I1, r1, q1⟩ => ⟨σ, H1, I1, q1⟩) I.quiet hs
def tRet (te : TE) : TS := fun D σ H => te σ H D.rt
theorem ps_ret (he : PE X e te) : PS X (.Return (some e) pos) (tRet te) := by
  intro pins s σ H D I h
  exact wpAny_Return_some (thn (he pins s σ H _ I h) fun v s1 ⟨x, H1, I1, r1, q1⟩ => ⟨x, σ, H1, I1, r1, q1⟩)
def tIfS (c : TT) (t u : TS) : TS := fun D σ H => c σ H fun b H1 => if b = true then t D σ H1 else u D σ H1
theorem ps_if {c : Expr} {a b : List Stmt} {tc : TT} (hc : PT X c tc) (ha : PSs X a t) (hb : PSs X b u) : PS X (.If c a b pos) (tIfS tc t u) := by
  intro pins s σ H D I h
  refine wpAny_If (thn (hc pins s σ H _ I h) fun d s1 ⟨H1, I1, q1⟩ => ?_)
  cases d with
  | true => exact ha pins s1 σ H1 D I1 q1
  | false => exact hb pins s1 σ H1 D I1 q1
end
abbrev TG := V → St → Hp → (St → Hp → Prop) → Prop
def PG (X : Cx) (target : Expr) (t : TG) : Prop :=
  ∀ (pins : List (Addr × Obj)) (s : Shared) (σ : St) (H : Hp) (v : V) (u : Value) (Q : St → Hp → Prop), Inv X pins σ H s → RelV v u → t v σ H Q →
    wpAny (model X.prog X.w) X.A (assign target X.env u) (fun _ s' => ∃ σ' H', Inv X pins σ' H' s' ∧ Q σ' H') X.xe s
abbrev TSet := V → V → V → Hp → (Hp → Prop) → Prop
def PSet (X : Cx) (t : TSet) : Prop :=
  ∀ (pins : List (Addr × Obj)) (s : Shared) (σ : St) (H : Hp) (o i v : V) (ov iv u : Value) (Q : Hp → Prop), Inv X pins σ H s → RelV o ov → RelV i iv → RelV v u → t o i v H Q →
    wpAny (model X.prog X.w) X.A (setItem ov iv u) (fun _ s' => ∃ H', Inv X pins σ H' s' ∧ Q H') X.xe s
abbrev TIp := V → V → Hp → VK → Prop
def PIp (X : Cx) (op : Operator) (t : TIp) : Prop :=
  ∀ (pins : List (Addr × Obj)) (s : Shared) (σ : St) (H : Hp) (x y : V) (v u : Value) (Q : VK), Inv X pins σ H s → RelV x v → RelV y u → t x y H Q →
    wpAny (model X.prog X.w) X.A (inplaceOp op v u) (EP X pins σ Q) X.xe s
section
variable {X : Cx} {pos : Pos}
def gName (i : Nat) : TG := fun v σ H Q => Q (σ.set i (some v)) H
theorem pg_name {i : Nat} {x : Str} (hN : X.N.Nodup) (hi : X.N[i]? = some x) (hx : Loc X.env.scope x) (hf : X.fn x = true ∨ X.env.scope.names.lookup x = some .local := by first | exact .inl rfl | exact .inr rfl | assumption) : PG X (.Name x pos) (gName i) := by
  intro pins s σ H v u Q I r h
  exact wpAny_assign_Name (store_ok I hN hi hx r (fun s' I' => ⟨_, H, I', h⟩) hf)
def tAsg (te : TE) (g : TG) : TS := fun D σ H => te σ H fun x H1 => g x σ H1 D.nx
theorem ps_set {i : Nat} {x : Str} {e : Expr} {te : TE} {pos' : Pos} (hN : X.N.Nodup) (hi : X.N[i]? = some x) (hx : Loc X.env.scope x) (he : PE X e te) (hs : swapsWith e (some (.Name x pos')) pos.line X.env = pure false := by rfl) (hf : X.fn x = true ∨ X.env.scope.names.lookup x = some .local := by first | exact .inl rfl | exact .inr rfl | assumption) :
    PS X (.Assign [.Name x pos'] e pos) (tAsg te (gName i)) := by
  intro pins s σ H D I h
  refine wpAny_Assign_Name (thn (he pins s σ H _ I h) fun v s1 ⟨y, H1, I1, r1, q1⟩ => ?_) hs
  exact store_ok I1 hN hi hx r1 (fun s2 I2 => ⟨_, H1, I2, q1⟩) hf
def tAug (i : Nat) (te : TE) (ti : TIp) : TS := fun D σ H => ∃ x, σ[i]? = some (some x) ∧ te σ H fun y H1 => ti x y H1 fun z H2 => D.nx (σ.set i (some z)) H2
theorem ps_aug {i : Nat} {x : Str} {e : Expr} {te : TE} {op : Operator} {ti : TIp} {pos' : Pos} (hN : X.N.Nodup) (hi : X.N[i]? = some x) (hx : Loc X.env.scope x) (he : PE X e te) (ho : PIp X op ti) (hf : X.fn x = true ∨ X.env.scope.names.lookup x = some .local := by first | exact .inl rfl | exact .inr rfl | assumption) :
    PS X (.AugAssign (.Name x pos') op e pos) (tAug i te ti) := by
  intro pins s σ H D I h
  obtain ⟨v, e1, h⟩ := h
  obtain ⟨m, hn, hl⟩ := I.loc
  have vis : Vis X.env.scope x := by rcases hx with k | k; exact .inl k; exact .inr (.inl k)
  obtain ⟨u, r, l⟩ := hl i x v hi e1 vis
  refine wpAny_AugAssign_Name ?_
  have go : wpAny (model X.prog X.w) X.A (eval e X.env) (fun w s₂ => wpAny (model X.prog X.w) X.A (inplaceOp op u w) (fun r s₃ => wpAny (model X.prog X.w) X.A (storeName X.env x r) (fun _ => SP X pins D .next) X.xe s₃) X.xe s₂) X.xe s := by
    refine thn (he pins s σ H _ I h) fun w s1 ⟨y, H1, I1, r1, q1⟩ => ?_
    refine thn (ho pins s1 σ H1 v y u w _ I1 r r1 q1) fun z s2 ⟨zv, H2, I2, r2, q2⟩ => ?_
    exact store_ok I2 hN hi hx r2 (fun s3 I3 => ⟨_, H2, I3, q2⟩) hf
  rcases l with ⟨hk, hm⟩ | ⟨hk, c, hc, hcell⟩
  · exact wpAny_loadName_local I.ok.kind hk hn hm go
  · rcases hk with hk | hk
    · exact wpAny_loadName_cell I.ok.kind hk hc hcell go
    · rcases hx with k | k
      · have : X.env.scope.names.lookup x = some .free := hk
        rw [k] at this; cases this
      · have : X.env.scope.names.lookup x = some .free := hk
        rw [k] at this; cases this
def tAugS (to ti te : TE) (tget : V → V → Hp → VK → Prop) (tip : TIp) (tset : TSet) : TS := fun D σ H => to σ H fun o H1 => ti σ H1 fun i H2 => tget o i H2 fun x H3 => te σ H3 fun y H4 => tip x y H4 fun z H5 => tset o i z H5 fun H6 => D.nx σ H6
def PGet (X : Cx) (t : V → V → Hp → VK → Prop) : Prop :=
  ∀ (pins : List (Addr × Obj)) (s : Shared) (σ : St) (H : Hp) (o i : V) (ov iv : Value) (Q : VK), Inv X pins σ H s → RelV o ov → RelV i iv → t o i H Q →
    wpAny (model X.prog X.w) X.A (getItem ov iv) (EP X pins σ Q) X.xe s
theorem ps_augS {o i e : Expr} {to ti te : TE} {tget : V → V → Hp → VK → Prop} {tip : TIp} {tset : TSet} {op : Operator} {tpos : Pos} (ho : PE X o to) (hi : PE X i ti) (hg : PGet X tget) (he : PE X e te) (hp : PIp X op tip) (hs : PSet X tset)
    (ha : ∀ ov iv new, augStore i ov iv new = (do holding [new, ov, iv] (setItem ov iv new); release [new, ov, iv] []; pure .next) := by intros; rfl) : PS X (.AugAssign (.Subscript o i tpos) op e pos) (tAugS to ti te tget tip tset) := by
  intro pins s σ H D I h
  refine wpAny_AugAssign_SubscriptAny (thn (ho pins s σ H _ I h) fun ov s1 ⟨x1, H1, I1, r1, q1⟩ => ?_) ha
  refine thn (hi pins s1 σ H1 _ I1 q1) fun iv s2 ⟨x2, H2, I2, r2, q2⟩ => ?_
  refine thn (hg pins s2 σ H2 x1 x2 ov iv _ I2 r1 r2 q2) fun old s3 ⟨x3, H3, I3, r3, q3⟩ => ?_
  refine thn (he pins s3 σ H3 _ I3 q3) fun v s4 ⟨x4, H4, I4, r4, q4⟩ => ?_
  refine thn (hp pins s4 σ H4 x3 x4 old v _ I4 r3 r4 q4) fun new s5 ⟨x5, H5, I5, r5, q5⟩ => ?_
  exact thn (hs pins s5 σ H5 x1 x2 x5 ov iv new _ I5 r1 r2 r5 q5) fun _ s6 ⟨H6, I6, q6⟩ => ⟨σ, H6, I6, q6⟩
def ipI (f : Int → Int → Int) : TIp := fun x y H Q => ∃ i j, x = .int i ∧ y = .int j ∧ Q (.int (f i j)) H
theorem ip_add : PIp X .Add (ipI fun i j => i + j) := by
  intro pins s σ H x y v u Q I r1 r2 h
  obtain ⟨i, j, e1, e2, q⟩ := h
  subst e1; subst e2
  obtain ⟨t, rfl⟩ := r1
  obtain ⟨t', rfl⟩ := r2
  exact iadd_int ⟨.int _, H, I.tok _, ⟨_, rfl⟩, q⟩
end
section
variable {X : Cx} {pos : Pos}
def tWhile (c : TT) (tb : TS) : TS := fun D σ H => ∃ W : Nat → St → Hp → Prop, (∃ m, W m σ H) ∧ ∀ m σ H, W m σ H →
  c σ H fun b H1 => if b = true then ∃ N : St → Hp → Prop, (∀ σ' H', N σ' H' → ∃ m', m' < m ∧ W m' σ' H') ∧ tb { D with nx := N, ct := N, bk := D.nx } σ H1 else D.nx σ H1
theorem ps_while {c : Expr} {body : List Stmt} {tc : TT} {tb : TS} (hp : PassesOwn (model X.prog X.w) X.A X.env X.xe) (hc : PT X c tc) (hb : PSs X body tb) : PS X (.While c body [] pos) (tWhile tc tb) := by
  intro pins s σ H D I h
  obtain ⟨W, ⟨m0, w0⟩, turn⟩ := h
  refine wpAny_While (codeAny_whileLoop (fun n s' => ∃ σ' H', Inv X pins σ' H' s' ∧ W n σ' H') ?_ m0 ⟨σ, H, I, w0⟩)
  rintro n s1 ⟨σ1, H1, I1, w1⟩
  refine wpAny_passesOwn hp (thn (hc pins s1 σ1 H1 _ I1 (turn n σ1 H1 w1)) fun b s2 ⟨H2, I2, q2⟩ => ?_)
  cases b with
  | true =>
    obtain ⟨N, hN, q2⟩ := q2
    rw [if_pos rfl]
    refine wpAny_passesOwn hp (thn (hb pins s2 σ1 H2 _ I2 q2) fun f s3 q3 => ?_)
    cases f with
    | next =>
      obtain ⟨σ3, H3, I3, n3⟩ := q3
      obtain ⟨m', hm, w3⟩ := hN σ3 H3 n3
      exact ⟨m', hm, σ3, H3, I3, w3⟩
    | cont =>
      obtain ⟨σ3, H3, I3, n3⟩ := q3
      obtain ⟨m', hm, w3⟩ := hN σ3 H3 n3
      exact ⟨m', hm, σ3, H3, I3, w3⟩
    | brk => exact q3
    | ret v => exact q3
  | false =>
    rw [if_neg Bool.false_ne_true]
    exact wpAny_execs_nil ⟨σ1, H2, I2, q2⟩
end
structure It where
  go : Nat → Hp → Prop
  yld : Nat → Hp → V → Hp → Prop
  stop : Nat → Hp → Prop
def FpOk (X : Cx) (pins : List (Addr × Obj)) (H : Hp) (b : Addr) : Prop :=
  H b = none ∧ b ≠ X.env.locals ∧ b ∉ X.fs ∧ (b ∈ X.ex ∨ X.s_0.heap.objs.size ≤ b) ∧ (∀ x c, X.env.cells.lookup x = some c → c ≠ b) ∧ ∀ p ∈ X.pn ++ pins, p.1 ≠ b
theorem Inv.fpOk {X : Cx} {pins : List (Addr × Obj)} {σ : St} {H H' : Hp} {s : Shared} {b : Addr} (I : Inv X pins σ H s) (hb : s.heap.objs.size ≤ b) (hn : H' b = none) : FpOk X pins H' b := by
  refine ⟨hn, Nat.ne_of_gt (Nat.lt_of_lt_of_le I.lt hb), I.nofs hb, .inr (Nat.le_trans I.sz hb), fun x c e z => ?_, fun p hp z => ?_⟩
  · obtain ⟨v, q⟩ := I.cell x c e
    exact absurd (Nat.lt_of_lt_of_le q.lt (by rw [z]; exact hb)) (Nat.lt_irrefl _)
  · exact absurd (Nat.lt_of_lt_of_le (Heap.lt_size (I.pin p hp).1) (by rw [z]; exact hb)) (Nat.lt_irrefl _)
structure Turn (P : Program) (w : World) (K : PySem.W.Frag) (tg : Expr) (J : It) (fp : List Addr) (it : Addr) (tn : Nat → Heap → Prop) : Prop where
  mem : it ∈ fp
  obj : ∀ i h, tn i h → ∀ b ∈ fp, ∃ o, h.get? b = some o ∧ ∀ v, o.data ≠ .cell v
  keep : ∀ i h h', tn i h → (∀ b ∈ fp, ∀ o, h.get? b = some o → h'.get? b = some o) → tn i h'
  item : ∀ (X : Cx), X.prog = P → X.w = w → X.K = K → X.calm = true → ∀ (i : Nat) (pins : List (Addr × Obj)) (s : Shared) (σ : St) (H : Hp) (E : Value → Shared → Prop), Inv X pins σ H s → (∀ b ∈ fp, FpOk X pins H b) → tn i s.heap → J.go i H →
    wpAny (model P w) X.A (pyNext (.ref it)) (fun r s1 => ∃ u, r = some u ∧
      wpAny (model P w) X.A (letOwnedTupleGo tg (.ref it) u) (fun _ s2 => ∃ x H', Inv X pins σ H' s2 ∧ RelV x u ∧ J.yld i H x H' ∧ tn (i + 1) s2.heap ∧ ∀ b ∈ fp, H' b = none) E s1) E s
  done : ∀ (X : Cx), X.prog = P → X.w = w → X.K = K → X.calm = true → ∀ (i : Nat) (pins : List (Addr × Obj)) (s : Shared) (σ : St) (H : Hp) (E : Value → Shared → Prop), Inv X pins σ H s → (∀ b ∈ fp, FpOk X pins H b) → tn i s.heap → J.stop i H →
    wpAny (model P w) X.A (pyNext (.ref it)) (fun r s1 => r = none ∧ Inv X pins σ H s1) E s
  self : ∀ (A : Around) (i : Nat) (s : Shared) (Q : Value → Shared → Prop) (E : Value → Shared → Prop), tn i s.heap → Q (.ref it) s → wpAny (model P w) A (pyIter (.ref it)) Q E s
abbrev TI := St → Hp → (It → Hp → Prop) → Prop
def PIE (X : Cx) (pins : List (Addr × Obj)) (σ : St) (tg : Expr) (R : It → Hp → Prop) (itv : Value) (s2 : Shared) : Prop :=
  ∃ (it : Addr) (fp : List Addr) (tn : Nat → Heap → Prop) (J : It) (H' : Hp), itv = .ref it ∧ Inv X pins σ H' s2 ∧ Turn X.prog X.w X.K tg J fp it tn ∧ tn 0 s2.heap ∧ (∀ b ∈ fp, FpOk X pins H' b) ∧ R J H'
def PI (X : Cx) (tg iter : Expr) (wi : TI) : Prop :=
  ∀ (pins : List (Addr × Obj)) (s : Shared) (σ : St) (H : Hp) (R : It → Hp → Prop), Inv X pins σ H s → wi σ H R →
    wpAny (model X.prog X.w) X.A (eval iter X.env) (fun v s1 => wpAny (model X.prog X.w) X.A (pyIter v) (PIE X pins σ tg R) X.xe s1) X.xe s
theorem go_of {M : Model} {A : Around} {E : Value → Shared → Prop} {s : Shared} {tg : Expr} {it : Addr} {u : Value} {o : Obj} {n : String} {vs : Array Value} {Q : Unit → Shared → Prop} (ho : s.heap.get? it = some o) (hc : o.cls = .type n) (hd : o.data = .fields vs)
    (hn : ["enumerate", "zip", "dict_itemiterator", "dict_reverseitemiterator", "odict_iterator", "itertools.zip_longest", "itertools.pairwise"].contains n = false) (hQ : Q () s) : wpAny M A (letOwnedTupleGo tg (.ref it) u) Q E s := by
  unfold letOwnedTupleGo
  cases tg <;> first
    | exact wpAny_pure hQ
    | (cases u <;> first
        | exact wpAny_pure hQ
        | (refine wpAny_bind (wpAny_load ho ?_)
           rw [hc, hd]
           show wpAny M A (if (["enumerate", "zip", "dict_itemiterator", "dict_reverseitemiterator", "odict_iterator", "itertools.zip_longest", "itertools.pairwise"].contains n && vs[0]? == some (rawInt _)) = true then _ else _) Q E s
           rw [if_neg (by intro h; rw [hn, Bool.false_and] at h; cases h)]
           exact wpAny_pure hQ))
def Itl (K : PySem.W.Frag) (a : Addr) : It :=
  ⟨fun i H => ∃ xs x, SqL K H a xs ∧ xs[i]? = some x, fun i H x H' => H' = H ∧ ∀ xs, SqL K H a xs → xs[i]? = some x, fun i H => ∃ xs, SqL K H a xs ∧ xs.length ≤ i⟩
theorem turn_list {P : Program} {w : World} {K : PySem.W.Frag} {tg : Expr} (a it : Addr) : Turn P w K tg (Itl K a) [it] it (fun i h => h.IsListIter it a i) where
  mem := by simp
  obj := fun i h st b hb => by
    have e : b = it := by simpa using hb
    subst e
    obtain ⟨o, e, c, d⟩ := st
    exact ⟨o, e, fun v z => by rw [d] at z; cases z⟩
  keep := fun i h h' st k => st.at fun o e => k it (by simp) o e
  item := by
    intro X hP hw hK hc i pins s σ H E I hf st hg
    subst hP hw hK
    obtain ⟨xs, x, hq, hx⟩ := hg
    obtain ⟨its, rv, p, hz⟩ := I.list hq
    obtain ⟨u, hu, ru⟩ := rv.get hx
    obtain ⟨f0, f1, f2, f3, f4, f5⟩ := hf it (by simp)
    refine wpAny_pyNext_list_item st p.isList (x := u) (by simpa using hu) fun h' st' sb => ?_
    have I1 : Inv X pins σ H { s with heap := h' } := I.turned (t' := s.toks) (fun b o hb e => (sb.2 b hb).trans e) f0 f1 f3 f4 f5
    obtain ⟨o, e, c, d⟩ := id st'
    exact ⟨u, rfl, go_of (s := { s with heap := h' }) e c d (by decide) ⟨x, H, I1, ru, ⟨rfl, fun ys hy => by rw [I.list_inj hy hq]; exact hx⟩, st', fun b hb => (hf b hb).1⟩⟩
  done := by
    intro X hP hw hK hc i pins s σ H E I hf st hg
    subst hP hw hK
    obtain ⟨xs, hq, hx⟩ := hg
    obtain ⟨its, rv, p, hz⟩ := I.list hq
    obtain ⟨f0, f1, f2, f3, f4, f5⟩ := hf it (by simp)
    have hl := rv.length
    exact wpAny_pyNext_list_end (I.ok.hd hc) st p.isList (by simp; omega) fun h' eb => ⟨rfl, I.turned (t' := s.toks) (fun b o hb e => eb b o hb e) f0 f1 f3 f4 f5⟩
  self := fun _ _ _ _ _ st h => wpAny_pyIter_listiter st h
end L2
namespace L2
open PySem PySem.Spec PyProof.Rows
section
variable {X : Cx} {tg : Expr}
def iList (K : PySem.W.Frag) (tl : TE) : TI := fun σ H R => tl σ H fun x H1 => ∃ a, x = .ref a ∧ (∃ xs, SqL K H1 a xs) ∧ R (Itl K a) H1
theorem pi_list {l : Expr} {tl : TE} (hl : PE X l tl) : PI X tg l (iList X.K tl) := by
  intro pins s σ H R I h
  refine thn (hl pins s σ H _ I h) fun v s1 ⟨x, H1, I1, r1, q1⟩ => ?_
  obtain ⟨a, e, ⟨xs, hq⟩, q⟩ := q1
  subst e
  cases r1
  obtain ⟨its, rv, p, hz⟩ := I1.list hq
  refine wpAny_pyIter_list p.isList ?_
  refine ⟨s1.heap.objs.size, [s1.heap.objs.size], _, _, H1, rfl, I1.kept (t' := s1.toks) fun b o e => Heap.get?_push_of_some _ e, turn_list a _, ⟨_, Heap.get?_push_size _ rfl, rfl, rfl⟩, fun b hb => ?_, q⟩
  have e : b = s1.heap.objs.size := by simpa using hb
  subst e
  exact I1.fpOk (Nat.le_refl _) (I1.hok.fresh (Nat.le_refl _))
def tFor (wi : TI) (g : TG) (tb : TS) : TS := fun D σ H => wi σ H fun J H1 => ∃ W : Nat → Nat → St → Hp → Prop, (∃ m, W 0 m σ H1) ∧ ∀ i m σ H, W i m σ H →
  (J.stop i H ∧ D.nx σ H) ∨ (J.go i H ∧ ∃ N : St → Hp → Prop, (∀ σ' H', N σ' H' → ∃ m', m' < m ∧ W (i + 1) m' σ' H') ∧ ∀ x H', J.yld i H x H' → g x σ H' fun σ2 H2 => tb { D with nx := N, ct := N, bk := D.nx } σ2 H2)
def pinsAt (fp : List Addr) (h : Heap) : List (Addr × Obj) := fp.filterMap fun b => (h.get? b).map fun o => (b, o)
theorem mem_pinsAt {fp : List Addr} {h : Heap} {b : Addr} {o : Obj} (hb : b ∈ fp) (e : h.get? b = some o) : (b, o) ∈ pinsAt fp h := List.mem_filterMap.mpr ⟨b, hb, by rw [e]; rfl⟩
theorem of_pinsAt {fp : List Addr} {h : Heap} {p : Addr × Obj} (hp : p ∈ pinsAt fp h) : p.1 ∈ fp ∧ h.get? p.1 = some p.2 := by
  obtain ⟨b, hb, e⟩ := List.mem_filterMap.mp hp
  cases q : h.get? b with
  | none => rw [q] at e; cases e
  | some o =>
    rw [q] at e
    have e' : (b, o) = p := Option.some.inj e
    subst e'
    exact ⟨hb, q⟩
theorem Inv.pinned {pins : List (Addr × Obj)} {σ : St} {H : Hp} {s : Shared} {fp : List Addr} (I : Inv X pins σ H s) (hf : ∀ b ∈ fp, FpOk X pins H b) (ho : ∀ b ∈ fp, ∃ o, s.heap.get? b = some o ∧ ∀ v, o.data ≠ .cell v) : Inv X (pins ++ pinsAt fp s.heap) σ H s :=
  I.pins_of fun p hp => (List.mem_append.mp hp).elim (fun z => I.pin p (List.mem_append_right _ z)) fun z => by
    obtain ⟨hb, e⟩ := of_pinsAt z
    obtain ⟨f0, f1, f2, _⟩ := hf p.1 hb
    obtain ⟨o, e', d⟩ := ho p.1 hb
    rw [e] at e'; cases e'
    exact ⟨e, f0, f1, f2, d⟩
theorem Inv.unpinned {pins pl : List (Addr × Obj)} {σ : St} {H : Hp} {s : Shared} (I : Inv X (pins ++ pl) σ H s) : Inv X pins σ H s := I.pins_of fun p hp => I.pin p (List.mem_append_right _ (List.mem_append_left _ hp))
theorem ps_for {iter : Expr} {body : List Stmt} {wi : TI} {g : TG} {tb : TS} {pos : Pos} (hp : PassesOwn (model X.prog X.w) X.A X.env X.xe) (hc : X.calm = true) (hi : PI X tg iter wi) (hg : PG X tg g) (hb : PSs X body tb)
    (hs : ∀ x, foldedSetIterable iter X.env x = pure x := by intro _; rfl) : PS X (.For tg iter body [] pos) (tFor wi g tb) := by
  intro pins s σ H D I h
  refine wpAny_For (thn (hi pins s σ H _ I h) fun v s1 h1 => thn h1 fun itv s2 h2 => ?_) hs
  obtain ⟨it, fp, tn, J, H2, e, I2, T, st2, f2, W, ⟨m0, w0⟩, turn⟩ := h2
  subst e
  -- what stays true of the iterator's objects through the loop
  have stat : ∀ {H' : Hp}, (∀ b ∈ fp, H' b = none) → ∀ b ∈ fp, FpOk X pins H' b := fun hn b hb => ⟨hn b hb, (f2 b hb).2⟩
  refine codeAny_forLoop_any (fun n s' => ∃ i σ' H', Inv X pins σ' H' s' ∧ tn i s'.heap ∧ (∀ b ∈ fp, H' b = none) ∧ W i n σ' H') ?_ m0 ⟨0, σ, H2, I2, st2, fun b hb => (f2 b hb).1, w0⟩
  rintro n s3 ⟨i, σ3, H3, I3, st3, fr3, w3⟩
  rcases turn i n σ3 H3 w3 with ⟨stop, qn⟩ | ⟨go, N, hN, step⟩
  · refine wpAny_passesOwn hp (thn (T.done X rfl rfl rfl hc i pins s3 σ3 H3 X.xe I3 (stat fr3) st3 stop) fun r s4 ⟨hr, I4⟩ => ?_)
    subst hr
    exact wpAny_execs_nil ⟨σ3, H3, I4, qn⟩
  · refine wpAny_passesOwn hp (thn (T.item X rfl rfl rfl hc i pins s3 σ3 H3 X.xe I3 (stat fr3) st3 go) fun r s4 ⟨u, hr, h4⟩ => ?_)
    subst hr
    refine wpAny_passesOwn hp (thn h4 fun _ s5 ⟨x, H5, I5, r5, y5, st5, fr5⟩ => ?_)
    have I5' := I5.pinned (stat fr5) (T.obj _ _ st5)
    refine wpAny_passesOwn hp (thn (hg _ s5 σ3 H5 x u _ I5' r5 (step x H5 y5)) fun _ s6 ⟨σ6, H6, I6, q6⟩ => ?_)
    refine wpAny_passesOwn hp (thn (hb _ s6 σ6 H6 _ I6 q6) fun f s7 q7 => ?_)
    have again : ∀ {σ7 : St} {H7 : Hp}, Inv X (pins ++ pinsAt fp s5.heap) σ7 H7 s7 → N σ7 H7 → ∃ m, m < n ∧ ∃ i σ' H', Inv X pins σ' H' s7 ∧ tn i s7.heap ∧ (∀ b ∈ fp, H' b = none) ∧ W i m σ' H' := fun {σ7 H7} I7 n7 => by
      obtain ⟨m', hm, w7⟩ := hN σ7 H7 n7
      refine ⟨m', hm, i + 1, σ7, H7, I7.unpinned, T.keep _ _ _ st5 fun b hb o e => (I7.pin (b, o) (List.mem_append_right _ (List.mem_append_right _ (mem_pinsAt hb e)))).1, fun b hb => ?_, w7⟩
      obtain ⟨o, e, d⟩ := T.obj _ _ st5 b hb
      exact (I7.pin (b, o) (List.mem_append_right _ (List.mem_append_right _ (mem_pinsAt hb e)))).2.1
    cases f with
    | next => obtain ⟨σ7, H7, I7, n7⟩ := q7; exact again I7 n7
    | cont => obtain ⟨σ7, H7, I7, n7⟩ := q7; exact again I7 n7
    | brk => obtain ⟨σ7, H7, I7, q7⟩ := q7; exact ⟨σ7, H7, I7.unpinned, q7⟩
    | ret v => obtain ⟨x7, σ7, H7, I7, r7, q7⟩ := q7; exact ⟨x7, σ7, H7, I7.unpinned, r7, q7⟩
end
theorem for_list {K : PySem.W.Frag} {a : Addr} {xs : List V} {g : TG} {tb : TS} {D : Ends} {σ : St} {H : Hp} (Pv : Nat → St → Hp → Prop) (h0 : Pv 0 σ H) (hl : ∀ i σ H, i ≤ xs.length → Pv i σ H → SqL K H a xs)
    (hs : ∀ i x σ H, xs[i]? = some x → Pv i σ H → g x σ H fun σ2 H2 => tb { D with nx := Pv (i + 1), ct := Pv (i + 1), bk := D.nx } σ2 H2) (hd : ∀ σ H, Pv xs.length σ H → D.nx σ H) :
    ∃ W : Nat → Nat → St → Hp → Prop, (∃ m, W 0 m σ H) ∧ ∀ i m σ H, W i m σ H →
      ((Itl K a).stop i H ∧ D.nx σ H) ∨ ((Itl K a).go i H ∧ ∃ N : St → Hp → Prop, (∀ σ' H', N σ' H' → ∃ m', m' < m ∧ W (i + 1) m' σ' H') ∧ ∀ x H', (Itl K a).yld i H x H' → g x σ H' fun σ2 H2 => tb { D with nx := N, ct := N, bk := D.nx } σ2 H2) := by
  refine ⟨fun i m σ H => m = xs.length - i ∧ i ≤ xs.length ∧ Pv i σ H, ⟨xs.length, by simp, Nat.zero_le _, h0⟩, ?_⟩
  rintro i m σ H ⟨rfl, hi, p⟩
  have q := hl i σ H hi p
  by_cases hlt : i < xs.length
  · refine .inr ⟨⟨xs, xs[i], q, by simp [hlt]⟩, Pv (i + 1), fun σ' H' p' => ⟨xs.length - (i + 1), by omega, rfl, hlt, p'⟩, fun x H' y => ?_⟩
    obtain ⟨e, y⟩ := y
    subst e
    exact hs i x σ _ (y xs q) p
  · have e : i = xs.length := by omega
    subst e
    exact .inl ⟨⟨xs, q, Nat.le_refl _⟩, hd σ H p⟩
end L2
namespace L2
open PySem PySem.Spec PyProof.Rows
abbrev R2 := V → V → Hp → VK → Prop
def OpR (X : Cx) (f : Value → Value → Sem Value) (r : R2) : Prop :=
  ∀ (pins : List (Addr × Obj)) (s : Shared) (σ : St) (H : Hp) (x y : V) (v u : Value) (Q : VK), Inv X pins σ H s → RelV x v → RelV y u → r x y H Q →
    wpAny (model X.prog X.w) X.A (f v u) (EP X pins σ Q) X.xe s
def UnR (X : Cx) (f : Value → Sem Value) (r : V → Hp → VK → Prop) : Prop :=
  ∀ (pins : List (Addr × Obj)) (s : Shared) (σ : St) (H : Hp) (x : V) (v : Value) (Q : VK), Inv X pins σ H s → RelV x v → r x H Q →
    wpAny (model X.prog X.w) X.A (f v) (EP X pins σ Q) X.xe s
def CallR (X : Cx) (f : Value) (r : List V → Hp → VK → Prop) : Prop :=
  ∀ (pins : List (Addr × Obj)) (s : Shared) (σ : St) (H : Hp) (xs : List V) (us : List Value) (Q : VK), Inv X pins σ H s → Vals xs us → r xs H Q →
    wpAny (model X.prog X.w) X.A (call f us) (EP X pins σ Q) X.xe s
def tOp (r : R2) (ta tb : TE) : TE := fun σ H Q => ta σ H fun x H1 => tb σ H1 fun y H2 => r x y H2 Q
def tUn (r : V → Hp → VK → Prop) (ta : TE) : TE := fun σ H Q => ta σ H fun x H1 => r x H1 Q
def rI (C : Int → Int → Prop) (g : Int → Int → V) : R2 := fun x y H Q => ∃ i j, x = .int i ∧ y = .int j ∧ C i j ∧ Q (g i j) H
def rI0 (g : Int → Int → V) : R2 := fun x y H Q => ∃ i j, x = .int i ∧ y = .int j ∧ Q (g i j) H
def rU (g : Int → V) : V → Hp → VK → Prop := fun x H Q => ∃ i, x = .int i ∧ Q (g i) H
section
variable {X : Cx} {a b c : Expr} {ta tb tc : TE} {pos : Pos}
theorem binT (ha : PE X a ta) (hb : PE X b tb) {pins : List (Addr × Obj)} {s : Shared} {σ : St} {H : Hp} {R : V → V → Hp → Prop} (I : Inv X pins σ H s)
    (h : ta σ H fun x H1 => tb σ H1 fun y H2 => R x y H2) {Q : Value → Shared → Prop} {f : Value → Value → Sem Value}
    (hf : ∀ v u s2 x y H2, Inv X pins σ H2 s2 → RelV x v → RelV y u → R x y H2 → wpAny (model X.prog X.w) X.A (f v u) Q X.xe s2) :
    wpAny (model X.prog X.w) X.A (eval a X.env) (fun v s₁ => wpAny (model X.prog X.w) X.A (eval b X.env) (fun u s₂ => wpAny (model X.prog X.w) X.A (f v u) Q X.xe s₂) X.xe s₁) X.xe s := by
  refine thn (ha pins s σ H _ I h) fun v s1 ⟨x, H1, I1, r1, q1⟩ => ?_
  refine thn (hb pins s1 σ H1 _ I1 q1) fun u s2 ⟨y, H2, I2, r2, q2⟩ => ?_
  exact hf v u s2 x y H2 I2 r1 r2 q2
theorem pe_op {op : Operator} {r : R2} (ho : OpR X (binaryOp op) r) (ha : PE X a ta) (hb : PE X b tb) : PE X (.BinOp a op b pos) (tOp r ta tb) := by
  intro pins s σ H Q I h
  exact wpAny_BinOp (binT ha hb I h fun v u s2 x y H2 I2 rx ry q => ho pins s2 σ H2 x y v u Q I2 rx ry q)
theorem pe_un {op : UnaryOp} {r : V → Hp → VK → Prop} (ho : UnR X (unaryOp op) r) (ha : PE X a ta) : PE X (.UnaryOp op a pos) (tUn r ta) := by
  intro pins s σ H Q I h
  exact UnaryOp_ (thn (ha pins s σ H _ I h) fun v s1 ⟨x, H1, I1, r1, q1⟩ => ho pins s1 σ H1 x v Q I1 r1 q1)
theorem opI {f : Value → Value → Sem Value} {C : Int → Int → Prop} {g : Int → Int → Int}
    (rule : ∀ (i j : Int) (t u : Tok) (s : Shared) (Q : Value → Shared → Prop) (E : Value → Shared → Prop), C i j → Q (.int (g i j) s.toks) { s with toks := s.toks + 1 } → wpAny (model X.prog X.w) X.A (f (.int i t) (.int j u)) Q E s) :
    OpR X f (rI C fun i j => .int (g i j)) := by
  intro pins s σ H x y v u Q I rx ry h
  obtain ⟨i, j, rfl, rfl, hc, q⟩ := h
  obtain ⟨t, rfl⟩ := rx
  obtain ⟨t', rfl⟩ := ry
  exact rule i j t t' s _ _ hc ⟨.int (g i j), H, I.tok _, ⟨_, rfl⟩, q⟩
theorem opI0 {f : Value → Value → Sem Value} {g : Int → Int → Int}
    (rule : ∀ (i j : Int) (t u : Tok) (s : Shared) (Q : Value → Shared → Prop) (E : Value → Shared → Prop), Q (.int (g i j) s.toks) { s with toks := s.toks + 1 } → wpAny (model X.prog X.w) X.A (f (.int i t) (.int j u)) Q E s) :
    OpR X f (rI0 fun i j => .int (g i j)) := by
  intro pins s σ H x y v u Q I rx ry h
  obtain ⟨i, j, rfl, rfl, q⟩ := h
  obtain ⟨t, rfl⟩ := rx
  obtain ⟨t', rfl⟩ := ry
  exact rule i j t t' s _ _ ⟨.int (g i j), H, I.tok _, ⟨_, rfl⟩, q⟩
theorem opB0 {f : Value → Value → Sem Value} {g : Int → Int → Bool}
    (rule : ∀ (i j : Int) (t u : Tok) (s : Shared) (Q : Value → Shared → Prop) (E : Value → Shared → Prop), Q (.bool (g i j)) s → wpAny (model X.prog X.w) X.A (f (.int i t) (.int j u)) Q E s) :
    OpR X f (rI0 fun i j => .bl (g i j)) := by
  intro pins s σ H x y v u Q I rx ry h
  obtain ⟨i, j, rfl, rfl, q⟩ := h
  obtain ⟨t, rfl⟩ := rx
  obtain ⟨t', rfl⟩ := ry
  exact rule i j t t' s _ _ ⟨.bl (g i j), H, I, rfl, q⟩
def CDiv (i j : Int) : Prop := 0 < j ∧ j < 1073741824
def CMul (i j : Int) : Prop := (-(2 ^ 64) < i ∧ i < 2 ^ 64) ∨ (-(2 ^ 64) < j ∧ j < 2 ^ 64)
theorem CMul.ok {i j : Int} (h : CMul i j) : IntMulOk i j := by
  rcases h with ⟨h1, h2⟩ | ⟨h1, h2⟩
  · exact .of_left (intBits_le_64 h1 h2)
  · exact .of_right (intBits_le_64 h1 h2)
theorem op_add : OpR X (binaryOp .Add) (rI0 fun i j => .int (i + j)) := opI0 fun _ _ _ _ _ _ _ q => add_int q
theorem op_sub : OpR X (binaryOp .Sub) (rI0 fun i j => .int (i - j)) := opI0 fun _ _ _ _ _ _ _ q => sub_int q
theorem op_mul : OpR X (binaryOp .Mult) (rI CMul fun i j => .int (i * j)) := opI fun _ _ _ _ _ _ _ hc q => mul_int q hc.ok
theorem op_fdiv : OpR X (binaryOp .FloorDiv) (rI CDiv fun i j => .int (i / j)) := opI fun i j _ _ _ _ _ hc q => by
  have h1 : (0 : Int) < j := hc.1
  have h2 : j < 1073741824 := hc.2
  exact floordiv_int (by omega) (by rw [Int.fdiv_eq_ediv_of_nonneg i (by omega)]; exact q) (.inl (PyProof.noPylong_small (by omega)))
theorem unI {f : Value → Sem Value} {g : Int → Int}
    (rule : ∀ (i : Int) (t : Tok) (s : Shared) (Q : Value → Shared → Prop) (E : Value → Shared → Prop), Q (.int (g i) s.toks) { s with toks := s.toks + 1 } → wpAny (model X.prog X.w) X.A (f (.int i t)) Q E s) :
    UnR X f (rU fun i => .int (g i)) := by
  intro pins s σ H x v Q I rx h
  obtain ⟨i, rfl, q⟩ := h
  obtain ⟨t, rfl⟩ := rx
  exact rule i t s _ _ ⟨.int (g i), H, I.tok _, ⟨_, rfl⟩, q⟩
theorem un_neg : UnR X (unaryOp .USub) (rU fun i => .int (-i)) := unI fun _ _ _ _ _ q => neg_int q
end
def scal : V → V → Bool
  | .non, .non => true | .non, .int _ => true | .int _, .non => true | .non, .bl _ => true | .bl _, .non => true | .non, .str _ => true | .str _, .non => true
  | .int _, .int _ => true | .bl _, .bl _ => true | .str _, .str _ => true | .byt _, .byt _ => true
  | .int _, .str _ => true | .str _, .int _ => true | .bl _, .str _ => true | .str _, .bl _ => true
  | _, _ => false
def rEq : R2 := fun x y H Q => scal x y = true ∧ Q (.bl (decide (x = y))) H
def rNe : R2 := fun x y H Q => scal x y = true ∧ Q (.bl (!decide (x = y))) H
theorem dec_int {i j : Int} : decide (V.int i = V.int j) = (i == j) := by
  rw [Bool.eq_iff_iff]
  simp
theorem dec_bl {i j : Bool} : decide (V.bl i = V.bl j) = (i == j) := by
  rw [Bool.eq_iff_iff]
  simp
theorem dec_str {i j : Str} : decide (V.str i = V.str j) = (i == j) := by
  rw [Bool.eq_iff_iff]
  simp
theorem dec_byt {i j : Array UInt8} : decide (V.byt i = V.byt j) = (i.toList == j.toList) := by
  rw [Bool.eq_iff_iff]
  cases i
  cases j
  simp
section
variable {X : Cx} {a b c : Expr} {ta tb tc : TE} {pos : Pos}
theorem fin_bl {pins : List (Addr × Obj)} {σ : St} {H : Hp} {s : Shared} {Q : VK} {k k' : Bool} (I : Inv X pins σ H s) (q : Q (.bl k) H) (e : k = k') : EP X pins σ Q (.bool k') s := by
  subst e
  exact ⟨.bl k, H, I, rfl, q⟩
theorem op_eq : OpR X (compareOp .Eq) rEq := by
  intro pins s σ H x y v u Q I rx ry h
  obtain ⟨hs, q⟩ := h
  cases x with
  | non =>
    cases rx
    cases y with
    | non => cases ry; exact PySem.EqNone.eq_none_none (fin_bl I q (by simp))
    | bl j => cases ry; exact PySem.EqNone.eq_none_bool (fin_bl I q (by simp))
    | int j => obtain ⟨t', rfl⟩ := ry; exact PySem.EqNone.eq_none_int (fin_bl I q (by simp))
    | str j => obtain ⟨t', rfl⟩ := ry; exact PySem.EqNone.eq_none_str (fin_bl I q (by simp))
    | _ => exact absurd (show false = true from hs) Bool.false_ne_true
  | bl i =>
    cases rx
    cases y with
    | non => cases ry; exact PySem.EqNone.eq_bool_none (fin_bl I q (by simp))
    | bl j => cases ry; exact eq_bool (fin_bl I q dec_bl)
    | str j => obtain ⟨t', rfl⟩ := ry; exact PySem.EqMixed.eq_bool_str (fin_bl I q (by simp))
    | _ => exact absurd (show false = true from hs) Bool.false_ne_true
  | int i =>
    obtain ⟨t, rfl⟩ := rx
    cases y with
    | non => cases ry; exact PySem.EqNone.eq_int_none (fin_bl I q (by simp))
    | int j => obtain ⟨t', rfl⟩ := ry; exact eq_int (fin_bl I q dec_int)
    | str j => obtain ⟨t', rfl⟩ := ry; exact PySem.EqMixed.eq_int_str (fin_bl I q (by simp))
    | _ => exact absurd (show false = true from hs) Bool.false_ne_true
  | str i =>
    obtain ⟨t, rfl⟩ := rx
    cases y with
    | non => cases ry; exact PySem.EqNone.eq_str_none (fin_bl I q (by simp))
    | bl j => cases ry; exact PySem.EqMixed.eq_str_bool (fin_bl I q (by simp))
    | int j => obtain ⟨t', rfl⟩ := ry; exact PySem.EqMixed.eq_str_int (fin_bl I q (by simp))
    | str j => obtain ⟨t', rfl⟩ := ry; exact eq_str (fin_bl I q dec_str)
    | _ => exact absurd (show false = true from hs) Bool.false_ne_true
  | byt i =>
    obtain ⟨t, rfl⟩ := rx
    cases y with
    | byt j => obtain ⟨t', rfl⟩ := ry; exact PySem.W.eq_bytes (fin_bl I q dec_byt)
    | _ => exact absurd (show false = true from hs) Bool.false_ne_true
  | _ => cases y <;> exact absurd (show false = true from hs) Bool.false_ne_true
theorem op_ne : OpR X (compareOp .NotEq) rNe := by
  intro pins s σ H x y v u Q I rx ry h
  obtain ⟨hs, q⟩ := h
  cases x with
  | non =>
    cases rx
    cases y with
    | non => cases ry; exact PySem.EqNone.ne_none_none (fin_bl I q (by simp))
    | bl j => cases ry; exact PySem.EqNone.ne_none_bool (fin_bl I q (by simp))
    | int j => obtain ⟨t', rfl⟩ := ry; exact PySem.EqNone.ne_none_int (fin_bl I q (by simp))
    | str j => obtain ⟨t', rfl⟩ := ry; exact PySem.EqNone.ne_none_str (fin_bl I q (by simp))
    | _ => exact absurd (show false = true from hs) Bool.false_ne_true
  | bl i =>
    cases rx
    cases y with
    | non => cases ry; exact PySem.EqNone.ne_bool_none (fin_bl I q (by simp))
    | bl j => cases ry; exact ne_bool (fin_bl I q (congrArg not dec_bl))
    | str j => obtain ⟨t', rfl⟩ := ry; exact PySem.EqMixed.ne_bool_str (fin_bl I q (by simp))
    | _ => exact absurd (show false = true from hs) Bool.false_ne_true
  | int i =>
    obtain ⟨t, rfl⟩ := rx
    cases y with
    | non => cases ry; exact PySem.EqNone.ne_int_none (fin_bl I q (by simp))
    | int j => obtain ⟨t', rfl⟩ := ry; exact ne_int (fin_bl I q (congrArg not dec_int))
    | str j => obtain ⟨t', rfl⟩ := ry; exact PySem.EqMixed.ne_int_str (fin_bl I q (by simp))
    | _ => exact absurd (show false = true from hs) Bool.false_ne_true
  | str i =>
    obtain ⟨t, rfl⟩ := rx
    cases y with
    | non => cases ry; exact PySem.EqNone.ne_str_none (fin_bl I q (by simp))
    | bl j => cases ry; exact PySem.EqMixed.ne_str_bool (fin_bl I q (by simp))
    | int j => obtain ⟨t', rfl⟩ := ry; exact PySem.EqMixed.ne_str_int (fin_bl I q (by simp))
    | str j => obtain ⟨t', rfl⟩ := ry; exact ne_str (fin_bl I q (congrArg not dec_str))
    | _ => exact absurd (show false = true from hs) Bool.false_ne_true
  | byt i =>
    obtain ⟨t, rfl⟩ := rx
    cases y with
    | byt j => obtain ⟨t', rfl⟩ := ry; exact PySem.W.ne_bytes (fin_bl I q (congrArg not dec_byt))
    | _ => exact absurd (show false = true from hs) Bool.false_ne_true
  | _ => cases y <;> exact absurd (show false = true from hs) Bool.false_ne_true
theorem op_lt : OpR X (compareOp .Lt) (rI0 fun i j => .bl (decide (i < j))) := opB0 fun _ _ _ _ _ _ _ q => lt_int q
theorem op_le : OpR X (compareOp .LtE) (rI0 fun i j => .bl (decide (i ≤ j))) := opB0 fun _ _ _ _ _ _ _ q => le_int q
theorem op_gt : OpR X (compareOp .Gt) (rI0 fun i j => .bl (decide (j < i))) := opB0 fun _ _ _ _ _ _ _ q => gt_int q
theorem op_ge : OpR X (compareOp .GtE) (rI0 fun i j => .bl (decide (j ≤ i))) := opB0 fun _ _ _ _ _ _ _ q => ge_int q
theorem nomark (b : Expr) {op : CmpOp} (h : op ≠ .In := by decide) (h2 : op ≠ .NotIn := by decide) : behindInMarks op b = false := by
  have e1 : (op == CmpOp.In) = false := by cases op <;> first | rfl | exact absurd rfl h
  have e2 : (op == CmpOp.NotIn) = false := by cases op <;> first | rfl | exact absurd rfl h2
  cases b <;> simp [behindInMarks, e1, e2]
theorem pe_cmpR {op : CmpOp} {r : R2} (ho : OpR X (compareOp op) r) (ha : PE X a ta) (hb : PE X b tb) (hm : behindInMarks op b = false) : PE X (.Compare a [op] [b] pos) (tOp r ta tb) := by
  intro pins s σ H Q I h
  exact wpAny_Compare1 (binT ha hb I h fun v u s2 x y H2 I2 rx ry q => ho pins s2 σ H2 x y v u Q I2 rx ry q) hm
def tTest (t : TE) : TT := fun σ H Q => t σ H fun x H' => ∃ k, x = .bl k ∧ Q k H'
theorem pt_cmpR {op : CmpOp} {r : R2} (ho : OpR X (compareOp op) r) (ha : PE X a ta) (hb : PE X b tb) (hm : behindInMarks op b = false) : PT X (.Compare a [op] [b] pos) (tTest (tOp r ta tb)) := by
  intro pins s σ H Q I h
  refine wpAny_isTrue_Compare1 (thn (ha pins s σ H _ I h) fun v s1 ⟨x, H1, I1, r1, q1⟩ => thn (hb pins s1 σ H1 _ I1 q1) fun u s2 ⟨y, H2, I2, r2, q2⟩ =>
    thn (ho pins s2 σ H2 x y v u _ I2 r1 r2 q2) fun c s3 ⟨z, H3, I3, r3, k, e, q3⟩ => ?_) hm
  subst e
  cases r3
  exact wpAny_truthy_bool ⟨H3, I3, q3⟩
def tChain (r r' : R2) (ta tb tc : TE) : TE := fun σ H Q => ta σ H fun x H1 => tb σ H1 fun y H2 => r x y H2 fun z H3 => ∃ k, z = .bl k ∧
  (if k = true then tc σ H3 fun w' H4 => r' y w' H4 Q else Q (.bl false) H3)
theorem pe_chain {op op' : CmpOp} {r r' : R2} (ho : OpR X (compareOp op) r) (ho' : OpR X (compareOp op') r') (ha : PE X a ta) (hb : PE X b tb) (hc : PE X c tc)
    (hm : lastMarks [op, op'] [b, c] = false := by with_unfolding_all rfl) : PE X (.Compare a [op, op'] [b, c] pos) (tChain r r' ta tb tc) := by
  intro pins s σ H Q I h
  refine Compare_chain (thn (ha pins s σ H _ I h) fun v s1 ⟨x, H1, I1, r1, q1⟩ => chain_link (thn (hb pins s1 σ H1 _ I1 q1) fun u s2 ⟨y, H2, I2, r2, q2⟩ =>
    thn (ho pins s2 σ H2 x y v u _ I2 r1 r2 q2) fun d s3 ⟨z, H3, I3, r3, k, e, q3⟩ => ?_)) hm
  subst e
  cases r3
  refine wpAny_truthy_bool ?_
  cases k with
  | false => exact ite_ff ⟨.bl false, H3, I3, rfl, q3⟩
  | true => exact ite_tt (chain_last (thn (hc pins s3 σ H3 _ I3 q3) fun w' s4 ⟨z', H4, I4, r4, q4⟩ => ho' pins s4 σ H4 y z' u w' Q I4 r2 r4 q4))
theorem line63 : (sizeLine : Nat) < 2 ^ 63 := by rw [sizeLine_eq]; decide
theorem vals1 {x : V} {us : List Value} (r : Vals [x] us) : ∃ u, us = [u] ∧ RelV x u := by
  cases r with
  | cons r1 r2 => cases r2; exact ⟨_, rfl, r1⟩
theorem vals2 {x y : V} {us : List Value} (r : Vals [x, y] us) : ∃ u w', us = [u, w'] ∧ RelV x u ∧ RelV y w' := by
  cases r with
  | cons r1 r2 =>
    cases r2 with
    | cons r3 r4 => cases r4; exact ⟨_, _, rfl, r1, r3⟩
theorem call_max2 (hc : X.calm = true) : CallR X (.builtin "max") (fun xs H Q => ∃ i j, xs = [.int i, .int j] ∧ Q (.int (if j > i then j else i)) H) := by
  intro pins s σ H xs us Q I r h
  obtain ⟨i, j, rfl, q⟩ := h
  obtain ⟨u, w', rfl, ⟨t, rfl⟩, ⟨t', rfl⟩⟩ := vals2 r
  refine max_two_ints (I.ok.hd hc) fun h' tk k => ⟨_, H, I.kept k, ?_, q⟩
  by_cases hj : j > i
  · rw [if_pos hj, if_pos hj]; exact ⟨_, rfl⟩
  · rw [if_neg hj, if_neg hj]; exact ⟨_, rfl⟩
end
end L2
namespace L2
open PySem PySem.Spec PyProof.Rows
structure ObjM (h : Heap) (x dx C : Addr) (mA : Str → Option Value) : Prop where
  obj : h.get? x = some (PySem.W.instObj C dx)
  ns : h.Ns1 dx mA
  ne : dx ≠ x
theorem lookIn_ns {h : Heap} {dx : Addr} {mA : Str → Option Value} (n : h.Ns1 dx mA) : ∃ od, h.get? dx = some od ∧ ∀ name, PySem.W.lookIn name od = some (mA name) := by
  obtain ⟨o, es, ep, ho, hd, hk, _, hm⟩ := n
  refine ⟨o, ho, fun name => ?_⟩
  have e := hm name
  unfold nsFind findBy at e
  rw [← Array.find?_toList] at e
  unfold PySem.W.lookIn
  rw [hd]
  dsimp only
  split
  · rename_i y q
    rw [q] at e
    exact congrArg some e
  · rename_i q
    rw [q] at e
    have a : es.toList.any (·.refKey) = false := by
      rw [List.any_eq_false]
      intro y hy
      obtain ⟨z, t, hkey⟩ := hk y (Array.mem_toList_iff.mp hy)
      simp [DictEntry.refKey, hkey]
    have a' : ¬ es.toList.any (·.refKey) = true := by rw [a]; exact Bool.false_ne_true
    rw [if_neg a']
    exact congrArg some e
theorem ObjM.look {h : Heap} {x dx C : Addr} {mA : Str → Option Value} (I : ObjM h x dx C mA) : ∃ od, PySem.W.InstAt h x (PySem.W.instObj C dx) C (some od) ∧ ∀ name, PySem.W.lookIn name od = some (mA name) :=
  let ⟨od, ho, hl⟩ := lookIn_ns I.ns
  ⟨od, ⟨I.obj, rfl, rfl, ho⟩, hl⟩
section
variable {prog : Program} {w : World} {A : Around} {E : Value → Shared → Prop} {s : Shared} {K : PySem.W.Frag} {x dx C f : Addr} {mA : Str → Option Value} {name : Str} {v : Value}
theorem get_map {expr : Bool} {Q : Value → Shared → Prop} (X : K.In s.heap) (I : ObjM s.heap x dx C mA) (hg : PySem.W.plainGet K C name = true) (hh : PySem.W.hasDictIn K C = true)
    (ha : PySem.W.findIn K (.ref C) name = some none) (hv : mA name = some v) (hv' : PySem.W.handedIn v = true) (h : Q v { s with toks := s.toks + 1 }) :
    wpAny (model prog w) A (getAttr (.ref x) name expr) Q E s := by
  obtain ⟨od, J, hl⟩ := I.look
  exact PySem.W.get_value X J (PySem.W.plainGet_of hg).1 (PySem.W.findObj_own hh ha rfl (by rw [hl, hv])) hv' h
theorem get_meth {pl : Sem Bool} {Q : Value × List Value → Shared → Prop} (X : K.In s.heap) (I : ObjM s.heap x dx C mA) (hg : PySem.W.plainGet K C name = true)
    (hf : PySem.W.findIn K (.ref C) name = some (some (.ref f))) (ht : PySem.W.isFn K (.ref f) = true) (hv : mA name = none) (h : Q (.ref f, [.ref x]) s) :
    wpAny (model prog w) A (getMethod (.ref x) name pl) Q E s := by
  obtain ⟨od, J, hl⟩ := I.look
  exact PySem.W.method_fn X J (PySem.W.plainGet_of hg).1 (PySem.W.plainGet_of hg).2 hf (beq_iff_eq.mp ht) (by show (PySem.W.lookIn name od).map (·.isSome) = some false; rw [hl, hv]; rfl) h
theorem set_map {ns : List Str} {Q : Unit → Shared → Prop} (X : K.In s.heap) (I : ObjM s.heap x dx C mA)
    (hs : PySem.W.findIn K (.ref C) "__setattr__" = some (some (.builtin "object.__setattr__"))) (hp : PySem.W.plainOver K C = true) (ht : PySem.W.takerIn K C name = some none) (hh : PySem.W.hasDictIn K C = true)
    (hw : PySem.Within mA ns) (hsz : ns.length ≤ sizeLine)
    (h : ∀ h', ObjM h' x dx C (fun y => if y = name then some v else mA y) → Heap.SameBut dx s.heap h' → Q () { s with heap := h', toks := s.toks + 2 }) :
    wpAny (model prog w) A (setAttr (.ref x) name v) Q E s := by
  obtain ⟨od, J, hl⟩ := I.look
  refine PySem.W.set_plain X J hs (PySem.W.osa_open (s := { s with toks := s.toks + 1 }) (r := none) X J hp ht fun b => ?_)
  obtain ⟨cd, hc, hd'⟩ := PySem.W.any_some hh
  have hx : s.heap.get? x = some ⟨.ref C, some dx, .plain, #[]⟩ := I.obj
  refine wpAny_bind (wpAny_pure (wpAny_bind (wpAny_bind (wpAny_loadPart hx (wpAny_bind (PySem.W.Looks.here (s := { s with toks := s.toks + 1 }) (PySem.W.looks_clsIn X hc) ?_))))))
  rw [hd']
  refine wpAny_pure (a := some dx) (wpAny_bind (wpAny_pure (wpAny_bind ?_)))
  refine wpAny_nsSet1 (s := { s with toks := s.toks + 1 }) I.ns fun h' hn2 hs2 => ?_
  obtain ⟨oD, esD, epD, hoD, hdD, hcD⟩ := hn2.count (PySem.Within.cons name v hw)
  refine wpAny_bind (wpAny_lookBehind hoD (by rw [hdD]; exact pastItsLine_dict (Nat.le_trans hcD (by rw [List.length_cons]; omega))) ?_)
  exact wpAny_pure (h _ ⟨(hs2.2 _ (Ne.symm I.ne)).trans I.obj, hn2, I.ne⟩ hs2)
theorem make_map {R : Result → Shared → Prop} {vs : List Value} {kw : List (Str × Value)} (X : K.In s.heap) (hm : PySem.W.makesIn K C = true)
    (hi : PySem.W.findIn K (.ref C) "__init__" = some (some (.ref f))) (hf : PySem.W.typeIn K (.ref f) = some (.type "function"))
    (h : codeAny (model prog w) (A.under (.builtin "type.__call__" ⟨.ref C :: vs, kw⟩)) (.call (.ref f) ⟨.ref (s.heap.objs.size + 1) :: vs, kw⟩) (PySem.W.InitBack (s.heap.objs.size + 1) R)
      { s with heap := (s.heap.push PySem.W.emptyDict).push (PySem.W.instObj C s.heap.objs.size) }) :
    codeAny (model prog w) A (.call (.ref C) ⟨vs, kw⟩) R s := by
  obtain ⟨hh, g, d, t, os⟩ := s
  exact PySem.W.make_core (PySem.W.makes_of X hm) (PySem.W.looks_findIn X hi) (fun self => PySem.W.bind_fn X self hf) (.inl rfl) h
end
def putF (f : Str) (v : V) : List (Str × V) → List (Str × V)
  | [] => [(f, v)]
  | (g, x) :: r => if g = f then (g, v) :: r else (g, x) :: putF f v r
theorem lookup_putF (f g : Str) (v : V) : ∀ fs : List (Str × V), (putF f v fs).lookup g = if g = f then some v else fs.lookup g
  | [] => by
    show List.lookup g [(f, v)] = _
    by_cases h : g = f
    · have hb : (g == f) = true := beq_iff_eq.mpr h
      simp only [List.lookup, hb, if_pos h]
    · have hb : (g == f) = false := beq_eq_false_iff_ne.mpr h
      simp only [List.lookup, hb, if_neg h]
  | (k, x) :: r => by
    have ih := lookup_putF f g v r
    rw [show putF f v ((k, x) :: r) = (if k = f then (k, v) :: r else (k, x) :: putF f v r) from rfl]
    by_cases hk : k = f
    · rw [if_pos hk]
      by_cases h : g = k
      · have hb : (g == k) = true := beq_iff_eq.mpr h
        simp only [List.lookup, hb, if_pos (h.trans hk)]
      · have hb : (g == k) = false := beq_eq_false_iff_ne.mpr h
        simp only [List.lookup, hb, if_neg (fun e : g = f => h (e.trans hk.symm))]
    · rw [if_neg hk]
      by_cases h : g = k
      · have hb : (g == k) = true := beq_iff_eq.mpr h
        simp only [List.lookup, hb, if_neg (fun e : g = f => hk (h.symm.trans e))]
      · have hb : (g == k) = false := beq_eq_false_iff_ne.mpr h
        simp only [List.lookup, hb]
        exact ih
theorem keys_putF (f : Str) (v : V) : ∀ fs : List (Str × V), f ∈ (putF f v fs).map (·.1) ∧ ∀ g, g ∈ fs.map (·.1) → g ∈ (putF f v fs).map (·.1)
  | [] => ⟨by simp [putF], fun g h => by simp at h⟩
  | (k, x) :: r => by
    obtain ⟨i1, i2⟩ := keys_putF f v r
    rw [show putF f v ((k, x) :: r) = (if k = f then (k, v) :: r else (k, x) :: putF f v r) from rfl]
    by_cases hk : k = f
    · rw [if_pos hk]
      subst hk
      exact ⟨by simp, fun g h => by simpa using h⟩
    · rw [if_neg hk]
      refine ⟨?_, fun g h => ?_⟩
      · rw [List.map_cons]
        exact List.mem_cons_of_mem _ i1
      · rw [List.map_cons] at h ⊢
        rcases List.mem_cons.mp h with e | e
        · exact List.mem_cons.mpr (.inl e)
        · exact List.mem_cons_of_mem _ (i2 g e)
theorem length_putF (f : Str) (v : V) : ∀ fs : List (Str × V), (putF f v fs).length ≤ fs.length + 1
  | [] => by simp [putF]
  | (k, x) :: r => by
    have ih := length_putF f v r
    rw [show putF f v ((k, x) :: r) = (if k = f then (k, v) :: r else (k, x) :: putF f v r) from rfl]
    by_cases hk : k = f
    · rw [if_pos hk, List.length_cons, List.length_cons]; omega
    · rw [if_neg hk, List.length_cons, List.length_cons]; omega
theorem RelO.some_of {v : V} {o : Option Value} (r : RelO (some v) o) : ∃ u, o = some u ∧ RelV v u := by
  cases o with
  | none => exact (show False from r).elim
  | some u => exact ⟨u, rfl, r⟩
theorem RelO.none_of {o : Option Value} (r : RelO none o) : o = none := by
  cases o with
  | none => rfl
  | some u => exact (show False from r).elim
theorem handed_of {v : V} {u : Value} (r : RelV v u) : PySem.W.handedIn u = true := by
  cases v with
  | non => cases (show u = Value.none from r); rfl
  | bl b => cases (show u = Value.bool b from r); rfl
  | int i => obtain ⟨t, e⟩ := (show ∃ t, u = Value.int i t from r); cases e; rfl
  | str x => obtain ⟨t, e⟩ := (show ∃ t, u = Value.str x t from r); cases e; rfl
  | byt b => obtain ⟨t, e⟩ := (show ∃ t, u = Value.bytes b t from r); cases e; rfl
  | flt b => obtain ⟨t, e⟩ := (show ∃ t, u = Value.float b t from r); cases e; rfl
  | ref a => cases (show u = Value.ref a from r); rfl
  | ty n => cases (show u = Value.type n from r); rfl
section
variable {P : Program} {w : World} {H H' : Hp} {h h' : Heap} {a C dx : Addr} {fs fs' : List (Str × V)}
theorem ins_get (hok : HOk P w H h) (e : H a = some (.ins C dx fs)) : ∃ mA, ObjM h a dx C mA ∧ (∀ f, RelO (fs.lookup f) (mA f)) ∧ PySem.Within mA (fs.map (·.1)) ∧ fs.length ≤ 1000 ∧ H dx = some (.own a) := by
  obtain ⟨d, z, ne, ob, mA, n, r, q⟩ := (show ObjOk P w H h a (.ins C dx fs) from hok a _ e)
  exact ⟨mA, ⟨ob, n, ne⟩, r, q, z, d⟩
end
structure Cls (K : PySem.W.Frag) (C : Addr) : Prop where
  pg : PySem.W.plainGet K C Str.empty = true
  hd : PySem.W.hasDictIn K C = true
  po : PySem.W.plainOver K C = true
  sa : PySem.W.findIn K (.ref C) "__setattr__" = some (some (.builtin "object.__setattr__"))
theorem Cls.get {K : PySem.W.Frag} {C : Addr} (c : Cls K C) (f : Str) : PySem.W.plainGet K C f = true := c.pg
def NoAttr (K : PySem.W.Frag) (C : Addr) (f : Str) : Prop := PySem.W.findIn K (.ref C) f = some none
theorem NoAttr.taker {K : PySem.W.Frag} {C : Addr} {f : Str} (n : NoAttr K C f) : PySem.W.takerIn K C f = some none := by
  unfold PySem.W.takerIn
  rw [show PySem.W.findIn K (.ref C) f = some none from n]
  rfl
structure Meth (K : PySem.W.Frag) (C : Addr) (m : Str) (f : Addr) : Prop where
  at_ : PySem.W.findIn K (.ref C) m = some (some (.ref f))
  fn : PySem.W.isFn K (.ref f) = true
  kp : PySem.W.keepIn K (.ref f) = true
section
variable {X : Cx} {pins : List (Addr × Obj)} {σ : St} {H : Hp} {s : Shared} {a C dx : Addr} {fs : List (Str × V)} {f : Str} {v : V} {A : Around} {E : Value → Shared → Prop}
theorem getattr_ok {b : Bool} {Q : Value → Shared → Prop} (I : Inv X pins σ H s) (e : H a = some (.ins C dx fs)) (c : Cls X.K C) (n : NoAttr X.K C f) (l : fs.lookup f = some v)
    (h : ∀ u s', Inv X pins σ H s' → RelV v u → Q u s') : wpAny (model X.prog X.w) A (getAttr (.ref a) f b) Q E s := by
  obtain ⟨mA, O, r, _, _, _⟩ := ins_get I.hok e
  obtain ⟨u, hu, ru⟩ := RelO.some_of (v := v) (o := mA f) (by rw [← l]; exact r f)
  exact get_map I.kIn O (c.get f) c.hd n hu (handed_of ru) (h u _ (I.tok _) ru)
theorem getmeth_ok {m : Str} {g : Addr} {pl : Sem Bool} {Q : Value × List Value → Shared → Prop} (I : Inv X pins σ H s) (e : H a = some (.ins C dx fs)) (c : Cls X.K C) (k : Meth X.K C m g) (l : fs.lookup m = none)
    (h : Q (.ref g, [.ref a]) s) : wpAny (model X.prog X.w) A (getMethod (.ref a) m pl) Q E s := by
  obtain ⟨mA, O, r, _, _, _⟩ := ins_get I.hok e
  have hn : mA m = none := RelO.none_of (by rw [← l]; exact r m)
  exact get_meth I.kIn O (c.get m) k.at_ k.fn hn h
theorem setattr_ok {y : V} {u : Value} {Q : Unit → Shared → Prop} (I : Inv X pins σ H s) (e : H a = some (.ins C dx fs)) (c : Cls X.K C) (n : NoAttr X.K C f) (hl : fs.length < 1000) (ry : RelV y u)
    (h : ∀ s', Inv X pins σ (upd H a (.ins C dx (putF f y fs))) s' → Q () s') : wpAny (model X.prog X.w) A (setAttr (.ref a) f u) Q E s := by
  obtain ⟨mA, O, r, wi, _, ho⟩ := ins_get I.hok e
  have hz : (fs.map (·.1)).length ≤ sizeLine := by rw [List.length_map, sizeLine_eq]; omega
  refine set_map I.kIn O c.sa c.po n.taker c.hd wi hz fun h' O' sb => h _ ?_
  have hd : ∃ o, h'.get? dx = some o := let ⟨o, _, _, e', _⟩ := O'.ns; ⟨o, e'⟩
  refine I.write (x := a) (e := dx) (by rw [e]; exact True.intro) (.inr ho) (fun b q hb z => (sb.2 b hb).trans z) hd ?_
  refine ⟨by rw [upd_ne O.ne]; exact ho, ?_, O.ne, O'.obj, _, O'.ns, fun g => ?_, fun g hg => ?_⟩
  · have := length_putF f y fs; omega
  · show RelO ((putF f y fs).lookup g) (if g = f then some u else mA g)
    rw [lookup_putF]
    by_cases q : g = f
    · rw [if_pos q, if_pos q]; exact ry
    · rw [if_neg q, if_neg q]; exact r g
  · by_cases q : g = f
    · rw [q]; exact (keys_putF f y fs).1
    · refine (keys_putF f y fs).2 g (wi g fun z => hg ?_)
      show (if g = f then some u else mA g) = none
      rw [if_neg q]; exact z
theorem Inv.made (I : Inv X pins σ H s) : Inv X pins σ (upd (upd H s.heap.objs.size (.own (s.heap.objs.size + 1))) (s.heap.objs.size + 1) (.ins C s.heap.objs.size []))
    { s with heap := (s.heap.push PySem.W.emptyDict).push (PySem.W.instObj C s.heap.objs.size) } := by
  have e1 : (s.heap.push PySem.W.emptyDict).get? s.heap.objs.size = some PySem.W.emptyDict := Heap.get?_push_size s.heap rfl
  have e2 : ((s.heap.push PySem.W.emptyDict).push (PySem.W.instObj C s.heap.objs.size)).get? (s.heap.objs.size + 1) = some (PySem.W.instObj C s.heap.objs.size) := by
    have := Heap.get?_push_size (s.heap.push PySem.W.emptyDict) (o := PySem.W.instObj C s.heap.objs.size) rfl
    rwa [Heap.size_push] at this
  have e3 : (s.heap.push PySem.W.emptyDict).Ns s.heap.objs.size (fun _ => none) := ⟨PySem.W.emptyDict, #[], _, e1, rfl, (fun e he => absurd he (by simp)), fun _ => rfl⟩
  have I1 := I.laid (a := s.heap.objs.size) (o := .own (s.heap.objs.size + 1)) (h' := s.heap.push PySem.W.emptyDict) (t' := s.toks) (fun b u q => Heap.get?_push_of_some _ q) (Nat.le_refl _) ⟨_, e1⟩
  refine I1.laid (a := s.heap.objs.size + 1) (o := .ins C s.heap.objs.size []) (t' := s.toks) (fun b u q => Heap.get?_push_of_some _ q) (Nat.le_of_eq (Heap.size_push _ _)) ?_
  have ne : s.heap.objs.size ≠ s.heap.objs.size + 1 := Nat.ne_of_lt (Nat.lt_succ_self _)
  refine ⟨by rw [upd_ne ne, upd_same], Nat.zero_le _, ne, e2, fun _ => none, (Heap.Ns1.of_empty e3).at fun o q => Heap.get?_push_of_some _ q, fun _ => True.intro, fun y hy => absurd rfl hy⟩
theorem attr_of {prog : Program} {w : World} {env : Env} {e : Expr} {f : Str} {pos : Pos} {s : Shared} {Q : Value → Shared → Prop} (hb : attributeBase e f env (eval e env) = eval e env)
    (h : wpAny (model prog w) A (eval e env) (fun o s₁ => wpAny (model prog w) A (getAttr o f true) Q E s₁) E s) : wpAny (model prog w) A (eval (.Attribute e f pos) env) Q E s :=
  Attribute_any_ h (by rw [arm_eval_Attribute, hb])
end
def tFld (K : PySem.W.Frag) (ta : TE) (f : Str) : TE := fun σ H Q => ta σ H fun x H1 => ∃ a C dx fs v, x = .ref a ∧ H1 a = some (.ins C dx fs) ∧ Cls K C ∧ NoAttr K C f ∧ fs.lookup f = some v ∧ Q v H1
def sFld (K : PySem.W.Frag) (ta tv : TE) (f : Str) : TS := fun D σ H => tv σ H fun y H1 => ta σ H1 fun x H2 => ∃ a C dx fs, x = .ref a ∧ H2 a = some (.ins C dx fs) ∧ Cls K C ∧ NoAttr K C f ∧ fs.length < 1000 ∧
  D.nx σ (upd H2 a (.ins C dx (putF f y fs)))
section
variable {X : Cx} {o e value : Expr} {f : Str} {pos pos' tpos : Pos} {ta tv : TE}
theorem pe_fld (he : PE X e ta) (hb : attributeBase e f X.env (eval e X.env) = eval e X.env) : PE X (.Attribute e f pos) (tFld X.K ta f) := by
  intro pins s σ H Q I h
  refine attr_of hb (thn (he pins s σ H _ I h) fun u s1 ⟨x, H1, I1, rx, a, C, dx, fs, v, ex, ea, c, n, l, q⟩ => ?_)
  subst ex
  obtain rfl : u = Value.ref a := rx
  exact getattr_ok I1 ea c n l fun u' s2 I2 ru => ⟨v, H1, I2, ru, q⟩
theorem ps_fld (ha : PE X o ta) (hv : PE X value tv) (hs : swapsWith value (some (.Attribute o f pos')) pos.line X.env = pure false) : PS X (.Assign [.Attribute o f pos'] value pos) (sFld X.K ta tv f) := by
  intro pins s σ H D I h
  refine plainObj_wpAny_Assign_Attribute (thn (hv pins s σ H _ I h) fun u s1 ⟨y, H1, I1, ry, q⟩ => thn (ha pins s1 σ H1 _ I1 q) fun ov s2 ⟨x, H2, I2, rx, a, C, dx, fs, ex, ea, c, n, l, q2⟩ => ?_) hs
  subst ex
  obtain rfl : ov = Value.ref a := rx
  exact setattr_ok I2 ea c n l ry fun s3 I3 => ⟨σ, _, I3, q2⟩
end
section
variable {X : Cx} {pins : List (Addr × Obj)} {σ : St} {H : Hp} {s : Shared} {A : Around} {E : Value → Shared → Prop} {Q : Value → Shared → Prop} {c : Value} {b : Bool}
end
end L2
namespace L2
open PySem PySem.Spec PyProof.Rows
structure Room (k : Nat) (A : Around) : Prop where
  hd : A.handled = none
  dp : A.depth + 3 * k + 5 < recursionLimit
  un : A.units + 16 * k + 200 < cLine
theorem Room.mono {j k : Nat} {A : Around} (r : Room k A) (h : j ≤ k) : Room j A := ⟨r.hd, by have := r.dp; omega, by have := r.un; omega⟩
theorem Room.deeper {k : Nat} {A : Around} (r : Room (k + 1) A) (env : Env) : Room k (A.deeper env) :=
  ⟨r.hd, by have := r.dp; show A.depth + 1 + 3 * k + 5 < _; omega, by have := r.un; show A.units + 3 + 16 * k + 200 < _; omega⟩
theorem make_depth {A : Around} {C : Addr} {us : List Value} {kw : List (Str × Value)} : (A.under (.builtin "type.__call__" ⟨.ref C :: us, kw⟩)).depth = A.depth + 1 := by
  first | rfl | simp [Around.under, Code.weight, Code.isCreation, Code.isGuard, Code.isCaller, Code.frames, Code.isFrame, guardIds]
theorem make_units {A : Around} {C : Addr} {us : List Value} {kw : List (Str × Value)} : (A.under (.builtin "type.__call__" ⟨.ref C :: us, kw⟩)).units = A.units + 1 := by
  first | rfl | simp [Around.under, Code.cUnits, Code.frames, Code.isFrame]
theorem Room.make {k : Nat} {A : Around} (r : Room (k + 1) A) (C : Addr) (us : List Value) (kw : List (Str × Value)) : Room k (A.under (.builtin "type.__call__" ⟨.ref C :: us, kw⟩)) :=
  ⟨r.hd, by have := r.dp; rw [make_depth]; omega, by have := r.un; rw [make_units]; omega⟩
theorem Room.depth {k : Nat} {A : Around} (r : Room k A) : A.depth < recursionLimit := by have := r.dp; omega
def tNil : TA := fun _ H Q => Q [] H
def tCons (ta : TE) (tr : TA) : TA := fun σ H Q => ta σ H fun x H1 => tr σ H1 fun xs H2 => Q (x :: xs) H2
section
variable {X : Cx} {e : Expr} {es : List Expr} {te : TE} {t : TA} {pos : Pos}
theorem pa_nil : PA X [] tNil := fun _ _ _ _ H Q I h => Calls.spliced_nil ⟨[], H, I, .nil, h⟩
theorem pa_cons (ha : PE X e te) (hr : PA X es t) (hs : starEach (e :: es) X.env = (false, eval e X.env) :: starEach es X.env := by rfl) : PA X (e :: es) (tCons te t) := by
  intro pos pins s σ H Q I h
  rw [hs]
  show wpAny _ _ (spliced ((false, eval e X.env) :: backTo pos (starEach es X.env))) _ _ s
  refine Calls.spliced_cons (thn (ha pins s σ H _ I h) fun u s1 ⟨x, H1, I1, r1, q1⟩ => ?_)
  exact thn (hr pos pins s1 σ H1 _ I1 q1) fun us s2 ⟨xs, H2, I2, r2, q2⟩ => ⟨x :: xs, H2, I2, .cons r1 r2, q2⟩
def tTup (t : TA) : TE := fun σ H Q => t σ H fun xs H1 => xs.length ≤ sizeLine ∧ ∀ p, H1 p = none → Q (.ref p) (upd H1 p (.tup xs))
def tLst (t : TA) : TE := fun σ H Q => t σ H fun xs H1 => xs.length ≤ sizeLine ∧ ∀ p, H1 p = none → Q (.ref p) (upd H1 p (.lst xs))
theorem pe_tup {x1} (h : PA X es t) : PE X (.Tuple es x1 pos) (tTup t) := by
  intro pins s σ H Q I hq
  refine wpAny_Tuple_spliced (thn (h pos pins s σ H _ I hq) fun us s1 ⟨xs, H1, I1, r, z, q⟩ => ⟨by rw [← r.length]; exact z, ?_⟩)
  have hf : H1 s1.heap.objs.size = none := I1.hok.fresh (Nat.le_refl _)
  refine ⟨.ref s1.heap.objs.size, upd H1 s1.heap.objs.size (.tup xs), I1.laid (t' := s1.toks) (fun b u e => Heap.get?_push_of_some _ e) (Nat.le_refl _) ?_, rfl, q _ hf⟩
  exact ⟨z, us, r, ⟨_, Heap.get?_push_size _ rfl, rfl, _, rfl⟩⟩
theorem pe_lst (h : PA X es t) : PE X (.List es pos) (tLst t) := by
  intro pins s σ H Q I hq
  refine wpAny_List_spliced (thn (h pos pins s σ H _ I hq) fun us s1 ⟨xs, H1, I1, r, z, q⟩ => ⟨by rw [← r.length]; exact z, ?_⟩)
  have hf : H1 s1.heap.objs.size = none := I1.hok.fresh (Nat.le_refl _)
  refine ⟨.ref s1.heap.objs.size, upd H1 s1.heap.objs.size (.lst xs), I1.laid (t' := s1.toks) (fun b u e => Heap.get?_push_of_some _ e) (Nat.le_refl _) ?_, rfl, q _ hf⟩
  exact ⟨z, us, 0, r, Heap.get?_push_size _ rfl⟩
end
abbrev Sp := List V → Hp → VK → XK → Prop
abbrev CXT := List Env → Hp → Shared → XK → Value → Shared → Prop
structure Env0 (P : Program) (w : World) (K : PySem.W.Frag) (mg : Str → Option Value) (base : Heap) (A : Around) (outer : List Env) (s : Shared) (H : Hp) : Prop where
  frames : A.frames = some outer
  mod : Mod K mg base
  bs : ∀ b o, base.get? b = some o → s.heap.get? b = some o ∧ H b = none
  bsz : base.objs.size ≤ s.heap.objs.size
  funs : s.heap.FunFrames base outer
  frf : ∀ b ∈ frs outer, H b = none
  hok : HOk P w H s.heap
  bare : AllBare s.gens
def CE (outer : List Env) (P : Program) (w : World) (H : Hp) (s : Shared) (Q : VK) (u : Value) (s' : Shared) : Prop :=
  ∃ v H', s'.os = s.os ∧ AllBare s'.gens ∧ Un (frs outer) [] H H' s.heap s'.heap ∧ HOk P w H' s'.heap ∧ RelV v u ∧ Q v H'
def CR (CX : CXT) (outer : List Env) (P : Program) (w : World) (H : Hp) (s : Shared) (Q : VK) (E : XK) (r : Result) (s' : Shared) : Prop :=
  match r with
  | .ok (.ret u) => CE outer P w H s Q u s'
  | .ok _ => False
  | .error e => CX outer H s E e s'
structure FnOk (P : Program) (w : World) (K : PySem.W.Frag) (mg : Str → Option Value) (base : Heap) (CX : CXT) (k : Nat) (f : Addr) (fd : FuncData) (ps : List Str) (sp : Sp) : Prop where
  len : ∀ vs H Q E, sp vs H Q E → vs.length = ps.length
  run : ∀ (A : Around) (outer : List Env) (s : Shared) (H : Hp) (args : Args) (us : List Value) (vs : List V) (Q : VK) (E : XK), Room k A → Env0 P w K mg base A outer s H → BindsTo s fd args (ps.zip us) → Vals vs us → sp vs H Q E →
    codeAny (model P w) A (.call (.ref f) args) (CR CX outer P w H s Q E) s
theorem FnOk.mono {P : Program} {w : World} {K : PySem.W.Frag} {mg : Str → Option Value} {base : Heap} {CX : CXT} {j k : Nat} {f : Addr} {fd : FuncData} {ps : List Str} {sp : Sp} (F : FnOk P w K mg base CX j f fd ps sp) (h : j ≤ k) :
    FnOk P w K mg base CX k f fd ps sp := ⟨F.len, fun A outer s H args us vs Q E hr => F.run A outer s H args us vs Q E (hr.mono h)⟩
theorem Env0.make {P : Program} {w : World} {K : PySem.W.Frag} {mg : Str → Option Value} {base : Heap} {A : Around} {outer : List Env} {s : Shared} {H : Hp} (e : Env0 P w K mg base A outer s H) (C : Addr) (us : List Value) (kw : List (Str × Value)) :
    Env0 P w K mg base (A.under (.builtin "type.__call__" ⟨.ref C :: us, kw⟩)) outer s H := ⟨by first | exact e.frames | (simpa [Around.under, Code.envs, Code.isFrame, pushEnvs] using e.frames), e.mod, e.bs, e.bsz, e.funs, e.frf, e.hok, e.bare⟩
section
variable {X : Cx} {pins : List (Addr × Obj)} {σ : St} {H : Hp} {s s' : Shared}
theorem Inv.env0 (I : Inv X pins σ H s) : Env0 X.prog X.w X.K X.mg X.base X.A X.stack s H :=
  ⟨I.ok.frames, I.ok.mod, I.bs, Nat.le_trans I.ok.bsz I.sz, I.stack, I.stkFree, I.hok, I.bare⟩
theorem Inv.after {Q : VK} {u : Value} (I : Inv X pins σ H s) (h : CE X.stack X.prog X.w H s Q u s') : EP X pins σ Q u s' := by
  obtain ⟨v, H', os, bare, un, hok, r, q⟩ := h
  obtain ⟨hh, g, d, t, os'⟩ := s'
  obtain rfl : os' = s.os := os
  exact ⟨v, H', I.call (h' := hh) (g' := g) (d' := d) (t' := t) (ch := []) un hok bare (fun b z => absurd z (by simp)), r, q⟩
end
def tCall (sp : Sp) (dvs : List V) (E : XK) (t : TA) : TE := fun σ H Q => t σ H fun vs H1 => sp (vs ++ dvs) H1 Q E
def tMeth (C : Addr) (m : Str) (sp : Sp) (dvs : List V) (E : XK) (ta : TE) (t : TA) : TE := fun σ H Q => ta σ H fun x H1 => ∃ a dx fs, x = .ref a ∧ H1 a = some (.ins C dx fs) ∧ fs.lookup m = none ∧
  t σ H1 fun vs H2 => sp (x :: (vs ++ dvs)) H2 Q E
def tMake (C : Addr) (sp : Sp) (dvs : List V) (E : XK) (t : TA) : TE := fun σ H Q => t σ H fun vs H1 => ∀ x dx, H1 x = none → H1 dx = none → dx ≠ x →
  sp (.ref x :: (vs ++ dvs)) (upd (upd H1 dx (.own x)) x (.ins C dx [])) (fun v H2 => v = .non ∧ Q (.ref x) H2) E
def Binds (K : PySem.W.Frag) (fd : FuncData) (ps : List Str) (ds : List Value) : Prop :=
  ∀ (s : Shared) (us : List Value), K.In s.heap → (us ++ ds).length = ps.length → BindsTo s fd ⟨us, []⟩ (ps.zip (us ++ ds))
theorem Binds.all {K : PySem.W.Frag} {fd : FuncData} {ps : List Str} (h : ∀ us : List Value, us.length = ps.length → bindArgs fd ⟨us, []⟩ = pure (ps.zip us)) : Binds K fd ps [] := fun s us _ hl => by
  rw [List.append_nil] at hl ⊢
  exact .of_eq (h us hl)
def Passes (CX : CXT) (X : Cx) (E : XK) : Prop := ∀ (pins : List (Addr × Obj)) (σ : St) (H : Hp) (s : Shared) (e : Value) (s' : Shared), Inv X pins σ H s → CX X.stack H s E e s' → X.xe e s'
section
variable {X : Cx} {CX : CXT} {k : Nat} {f C : Addr} {fd : FuncData} {ps : List Str} {sp : Sp} {dvs : List V} {ds : List Value} {E : XK} {x m : Str} {p pos apos : Pos} {e o : Expr} {es : List Expr} {ta : TE} {t : TA}
theorem run_fn {pins : List (Addr × Obj)} {σ : St} {H : Hp} {s : Shared} {Q : VK} {us : List Value} {vs : List V} (F : FnOk X.prog X.w X.K X.mg X.base CX k f fd ps sp) (hr : Room k X.A) (hb : Binds X.K fd ps ds) (hd : Vals dvs ds) (hx : Passes CX X E)
    (I : Inv X pins σ H s) (r : Vals vs us) (h : sp (vs ++ dvs) H Q E) : wpAny (model X.prog X.w) X.A (call (.ref f) us) (EP X pins σ Q) X.xe s := by
  have r2 : Vals (vs ++ dvs) (us ++ ds) := r.append hd
  have hl : (us ++ ds).length = ps.length := by rw [← r2.length]; exact F.len _ _ _ _ h
  refine wpAny_call (codeAny_mono (F.run X.A X.stack s H ⟨us, []⟩ (us ++ ds) (vs ++ dvs) Q E hr I.env0 (hb s us I.kIn hl) r2 h) fun r s' hq => ?_)
  cases r with
  | error e => exact hx pins σ H s e s' I hq
  | ok fl =>
    cases fl with
    | ret u => exact I.after hq
    | next => exact False.elim hq
    | brk => exact False.elim hq
    | cont => exact False.elim hq
theorem pe_call (F : FnOk X.prog X.w X.K X.mg X.base CX k f fd ps sp) (hr : Room k X.A) (hg : Gl X x) (hm : X.mg x = some (.ref f)) (hk : PySem.W.keepIn X.K (.ref f) = true) (hb : Binds X.K fd ps ds) (hd : Vals dvs ds) (hx : Passes CX X E)
    (ha : PA X (e :: es) t) (hdb : (x == ("__debug__" : Str)) = false := by decide) (he : starEach (e :: es) X.env = (false, eval e X.env) :: starEach es X.env := by rfl) (hpl : (backTo pos (starEach es X.env)).any (·.1) = false := by rfl) :
    PE X (.Call (.Name x p) (e :: es) [] pos) (tCall sp dvs E t) := by
  intro pins s σ H Q I h
  refine wpAny_Call_Name_kw (ld_glob I hg hm ?_ hdb)
  refine PySem.W.callWith_K (h₀ := X.base) I.ok.mod.kin hk (thn (ha pos pins s σ H _ I h) fun us s1 ⟨vs, H1, I1, r, q⟩ => ⟨I1.kIn, ?_⟩) he hpl
  exact run_fn F hr hb hd hx I1 r q
theorem pe_meth {pl : Sem Bool} (he : PE X o ta) (c : Cls X.K C) (hm : Meth X.K C m f) (F : FnOk X.prog X.w X.K X.mg X.base CX k f fd ps sp) (hr : Room k X.A) (hb : Binds X.K fd ps ds) (hd : Vals dvs ds) (hx : Passes CX X E) (ha : PA X (e :: es) t)
    (hst : starEach (e :: es) X.env = (false, eval e X.env) :: starEach es X.env := by rfl) (hpl : (backTo pos (starEach es X.env)).any (·.1) = false := by rfl)
    (ht : eval (.Call (.Attribute o m apos) (e :: es) [] pos) X.env = (do
      let ov ← eval o X.env
      standAt apos.atName
      let (f, first) ← holding [ov] (getMethod ov m pl)
      callWith pos f first (backTo pos (starEach (e :: es) X.env)) (backToKw pos (keywordEach [] X.env))) := by rfl) :
    PE X (.Call (.Attribute o m apos) (e :: es) [] pos) (tMeth C m sp dvs E ta t) := by
  intro pins s σ H Q I h
  refine PySem.W.methodCall_KW (pl := pl) (thn (he pins s σ H _ I h) fun u s1 ⟨x, H1, I1, rx, a, dx, fs, ex, ea, l, q⟩ => ?_) ht
  subst ex
  obtain rfl : u = Value.ref a := rx
  refine getmeth_ok I1 ea c hm l ?_
  refine PySem.W.callWith_K (first := [.ref a]) (h₀ := X.base) I.ok.mod.kin hm.kp (thn (ha pos pins s1 σ H1 _ I1 q) fun us s2 ⟨vs, H2, I2, r, q2⟩ => ⟨I2.kIn, ?_⟩) hst hpl
  exact run_fn (us := .ref a :: us) (vs := .ref a :: vs) F hr hb hd hx I2 (.cons rfl r) q2
theorem pe_meth0 {pl : Sem Bool} (he : PE X o ta) (c : Cls X.K C) (hm : Meth X.K C m f) (F : FnOk X.prog X.w X.K X.mg X.base CX k f fd ps sp) (hr : Room k X.A) (hb : Binds X.K fd ps ds) (hd : Vals dvs ds) (hx : Passes CX X E)
    (ht : eval (.Call (.Attribute o m apos) [] [] pos) X.env = (do
      let ov ← eval o X.env
      standAt apos.atName
      let (f, first) ← holding [ov] (getMethod ov m pl)
      callWith pos f first (backTo pos (starEach [] X.env)) (backToKw pos (keywordEach [] X.env))) := by rfl) :
    PE X (.Call (.Attribute o m apos) [] [] pos) (tMeth C m sp dvs E ta tNil) := by
  intro pins s σ H Q I h
  refine PySem.W.methodCall_KW (pl := pl) (thn (he pins s σ H _ I h) fun u s1 ⟨x, H1, I1, rx, a, dx, fs, ex, ea, l, q⟩ => ?_) ht
  subst ex
  obtain rfl : u = Value.ref a := rx
  refine getmeth_ok I1 ea c hm l ?_
  exact PySem.W.callWith_K0 (first := [.ref a]) I1.kIn hm.kp (run_fn (us := [.ref a]) (vs := [.ref a]) F hr hb hd hx I1 (.cons rfl .nil) q)
structure Mk (K : PySem.W.Frag) (C f : Addr) : Prop where
  makes : PySem.W.makesIn K C = true
  init : PySem.W.findIn K (.ref C) "__init__" = some (some (.ref f))
  fn : PySem.W.isFn K (.ref f) = true
  kp : PySem.W.keepIn K (.ref C) = true
theorem run_make {pins : List (Addr × Obj)} {σ : St} {H : Hp} {s : Shared} {Q : VK} {us : List Value} {vs : List V} (M : Mk X.K C f) (F : FnOk X.prog X.w X.K X.mg X.base CX k f fd ps sp) (hr : Room (k + 1) X.A) (hb : Binds X.K fd ps ds) (hd : Vals dvs ds)
    (hx : Passes CX X E) (I : Inv X pins σ H s) (r : Vals vs us)
    (h : ∀ x dx, H x = none → H dx = none → dx ≠ x → sp (.ref x :: (vs ++ dvs)) (upd (upd H dx (.own x)) x (.ins C dx [])) (fun v H2 => v = .non ∧ Q (.ref x) H2) E) :
    wpAny (model X.prog X.w) X.A (call (.ref C) us) (EP X pins σ Q) X.xe s := by
  have hq := h (s.heap.objs.size + 1) s.heap.objs.size (I.hok.fresh (Nat.le_succ _)) (I.hok.fresh (Nat.le_refl _)) (Nat.ne_of_lt (Nat.lt_succ_self _))
  have I2 := Inv.made (C := C) I
  have r2 : Vals (V.ref (s.heap.objs.size + 1) :: (vs ++ dvs)) (Value.ref (s.heap.objs.size + 1) :: (us ++ ds)) := .cons rfl (r.append hd)
  have hl : (Value.ref (s.heap.objs.size + 1) :: us ++ ds).length = ps.length := by
    have e := r2.length
    rw [F.len _ _ _ _ hq] at e
    exact e.symm
  refine wpAny_call (make_map (f := f) I.kIn M.makes M.init (beq_iff_eq.mp M.fn) (codeAny_mono (F.run _ X.stack _ _ ⟨Value.ref (s.heap.objs.size + 1) :: us, []⟩ (Value.ref (s.heap.objs.size + 1) :: (us ++ ds)) _ _ E (hr.make C us [])
    (I2.env0.make C us []) (hb _ (Value.ref (s.heap.objs.size + 1) :: us) I2.kIn hl) r2 hq) fun r s' hq' => ?_))
  cases r with
  | error e => exact hx pins σ _ _ e s' I2 hq'
  | ok fl =>
    cases fl with
    | ret u =>
      obtain ⟨v, H', I3, rv, ev, q3⟩ := I2.after hq'
      subst ev
      exact ⟨rv, ⟨V.ref (s.heap.objs.size + 1), H', I3, rfl, q3⟩⟩
    | next => exact False.elim hq'
    | brk => exact False.elim hq'
    | cont => exact False.elim hq'
theorem pe_make0 (M : Mk X.K C f) (F : FnOk X.prog X.w X.K X.mg X.base CX k f fd ps sp) (hr : Room (k + 1) X.A) (hg : Gl X x) (hm : X.mg x = some (.ref C)) (hb : Binds X.K fd ps ds) (hd : Vals dvs ds) (hx : Passes CX X E)
    (hdb : (x == ("__debug__" : Str)) = false := by decide) : PE X (.Call (.Name x p) [] [] pos) (tMake C sp dvs E tNil) := by
  intro pins s σ H Q I h
  refine wpAny_Call_Name_kw (ld_glob I hg hm ?_ hdb)
  exact PySem.W.callWith_K0 I.kIn M.kp (run_make (us := []) M F hr hb hd hx I .nil h)
end
def PK (X : Cx) (kws : List Keyword) (t : TA) : Prop :=
  ∀ (pos : Pos) (pins : List (Addr × Obj)) (s : Shared) (σ : St) (H : Hp) (Q : List V → Hp → Prop), Inv X pins σ H s → t σ H Q → wpAny (model X.prog X.w) X.A (evalAll ((backToKw pos (keywordEach kws X.env)).map (·.2))) (AP X pins σ Q) X.xe s
section
variable {X : Cx} {CX : CXT} {k : Nat} {f C : Addr} {fd : FuncData} {ps ks : List Str} {sp : Sp} {E : XK} {x m : Str} {p pos apos kpos : Pos} {e o : Expr} {es : List Expr} {kws : List Keyword} {te ta : TE} {t tk : TA} {nm : Option Str}
theorem pk_nil : PK X [] tNil := fun _ _ _ _ H Q I h => wpAny_evalAll_nil ⟨[], H, I, .nil, h⟩
theorem pk_cons (ha : PE X e te) (hr : PK X kws t) : PK X (⟨nm, e, kpos⟩ :: kws) (tCons te t) := by
  intro pos pins s σ H Q I h
  show wpAny _ _ (evalAll ((do let v ← eval e X.env; standAt pos; pure v) :: (backToKw pos (keywordEach kws X.env)).map (·.2))) _ _ s
  refine wpAny_evalAll_cons (wpAny_bind (thn (ha pins s σ H _ I h) fun u s1 ⟨x, H1, I1, r1, q1⟩ => wpAny_bind (wpAny_standAt (wpAny_pure ?_))))
  exact thn (hr pos pins s1 σ H1 _ I1 q1) fun us s2 ⟨xs, H2, I2, r2, q2⟩ => ⟨x :: xs, H2, I2, .cons r1 r2, q2⟩
variable {g : List Value → List Value → List Value} {gV : List V → List V → List V}
end
structure FnScope (N P : List Str) (sc : Scope) : Prop where
  kind : sc.kind = .function
  co : sc.isCoroutine = false
  gen : sc.isGenerator = false
  nd : N.Nodup
  pre : N.take P.length = P
  par : ∀ x ∈ P, sc.names.lookup x = some .local ∨ sc.names.lookup x = some .cell
  nofree : ∀ y ∈ sc.names, y.2 ≠ .free
theorem bindL_out {kindOf : Str → Option NameKind} {x : Str} : ∀ {binds : List (Str × Value)} {m : Str → Option Value}, (∀ v, (x, v) ∉ binds) → bindL kindOf binds m x = m x
  | [], _, _ => rfl
  | (n, v) :: r, m, h => by
    unfold bindL
    rw [bindL_out fun w hw => h w (List.mem_cons_of_mem _ hw)]
    split
    · have : x ≠ n := by rintro rfl; exact h v List.mem_cons_self
      simp [this]
    · rfl
theorem bindC_out {kindOf : Str → Option NameKind} {x : Str} : ∀ {binds : List (Str × Value)} {m : Str → Option Value}, (∀ v, (x, v) ∉ binds) → bindC kindOf binds m x = m x
  | [], _, _ => rfl
  | (n, v) :: r, m, h => by
    unfold bindC
    rw [bindC_out fun w hw => h w (List.mem_cons_of_mem _ hw)]
    split
    · rfl
    · have : x ≠ n := by rintro rfl; exact h v List.mem_cons_self
      simp [this]
theorem bindL_get {kindOf : Str → Option NameKind} {x : Str} {v : Value} : ∀ {P : List Str} {vs : List Value} {i : Nat} {m : Str → Option Value}, P.Nodup → P[i]? = some x → vs[i]? = some v → kindOf x = some .local →
    bindL kindOf (P.zip vs) m x = some v
  | [], _, _, _, _, h, _, _ => by simp at h
  | _ :: _, [], _, _, _, _, h, _ => by simp at h
  | p :: P, w :: vs, 0, m, nd, h1, h2, hk => by
    simp at h1 h2; subst h1; subst h2
    show bindL kindOf ((p, w) :: P.zip vs) m p = _
    unfold bindL
    rw [bindL_out fun v hv => (List.nodup_cons.mp nd).1 (List.of_mem_zip hv).1, if_pos hk]
    simp
  | p :: P, w :: vs, i + 1, m, nd, h1, h2, hk => by
    show bindL kindOf ((p, w) :: P.zip vs) m x = _
    unfold bindL
    exact bindL_get (i := i) (List.nodup_cons.mp nd).2 (by simpa using h1) (by simpa using h2) hk
theorem bindC_get {kindOf : Str → Option NameKind} {x : Str} {v : Value} : ∀ {P : List Str} {vs : List Value} {i : Nat} {m : Str → Option Value}, P.Nodup → P[i]? = some x → vs[i]? = some v → kindOf x ≠ some .local →
    bindC kindOf (P.zip vs) m x = some v
  | [], _, _, _, _, h, _, _ => by simp at h
  | _ :: _, [], _, _, _, _, h, _ => by simp at h
  | p :: P, w :: vs, 0, m, nd, h1, h2, hk => by
    simp at h1 h2; subst h1; subst h2
    show bindC kindOf ((p, w) :: P.zip vs) m p = _
    unfold bindC
    rw [bindC_out fun v hv => (List.nodup_cons.mp nd).1 (List.of_mem_zip hv).1, if_neg hk]
    simp
  | p :: P, w :: vs, i + 1, m, nd, h1, h2, hk => by
    show bindC kindOf ((p, w) :: P.zip vs) m x = _
    unfold bindC
    exact bindC_get (i := i) (List.nodup_cons.mp nd).2 (by simpa using h1) (by simpa using h2) hk
def start (N : List Str) (vs : List V) : St := vs.map some ++ List.replicate (N.length - vs.length) none
def cxOf (CX : CXT) (P : Program) (w : World) (K : PySem.W.Frag) (mg : Str → Option Value) (base : Heap) (N : List Str) (qual : Str) (scope : Scope) (f : Addr) (cd : Value) (A : Around) (outer : List Env) (s : Shared) (H : Hp) (E : XK) : Cx where
  prog := P
  w := w
  K := K
  mg := mg
  base := base
  A := A.deeper (envOfC qual scope s.heap.objs.size f cd)
  N := N
  s_0 := s
  H_0 := H
  env := envOfC qual scope s.heap.objs.size f cd
  outer := outer
  stack := envOfC qual scope s.heap.objs.size f cd :: outer
  ex := []
  calm := true
  fn := fun _ => true
  pn := []
  xe := fun e s' => wpAny (model P w) (A.deeper (envOfC qual scope s.heap.objs.size f cd)) (leaving (envOfC qual scope s.heap.objs.size f cd) e) (fun _ s'' => CX outer H s E e s'') (fun e' s'' => CX outer H s E e' s'') s'
theorem cell_has {sc : Scope} {n : Nat} {x : Str} (h : sc.names.lookup x = some .cell) : ∃ c, (cellsFrom n sc.names []).lookup x = some c := by
  have q := PySem.W.cellsFrom_some sc.names n [] (.inl h)
  exact Option.isSome_iff_exists.mp q
theorem inv_start {CX : CXT} {P : Program} {w : World} {K : PySem.W.Frag} {mg : Str → Option Value} {base : Heap} {N ps : List Str} {qual : Str} {scope : Scope} {f : Addr} {cd : Value} {A : Around} {outer : List Env} {s s1 : Shared} {H : Hp} {E : XK} {us : List Value} {vs : List V}
    (S : FnScope N ps scope) (hd : A.handled = none) (e0 : Env0 P w K mg base A outer s H) (hl : vs.length = ps.length) (r : Vals vs us)
    (x : InCallC s s.heap.objs.size (bindL (envOfC qual scope s.heap.objs.size f cd).kindOf (ps.zip us) fun _ => none) (cellsFrom (s.heap.objs.size + 1) scope.names []) (bindC (envOfC qual scope s.heap.objs.size f cd).kindOf (ps.zip us) fun _ => none) s1) :
    Inv (cxOf CX P w K mg base N qual scope f cd A outer s H E) [] (start N vs) H s1 := by
  have hpl : ps.length ≤ N.length := by have := congrArg List.length S.pre; rw [List.length_take] at this; omega
  obtain ⟨h1, tk, rfl, hk⟩ := x.done
  have noA : ∀ b : Addr, b ∉ (cxOf CX P w K mg base N qual scope f cd A outer s H E).ex := fun b z => absurd (show b ∈ ([] : List Addr) from z) (by simp)
  refine ⟨⟨e0.mod, S.kind, rfl, rfl, Nat.le_refl _, fun y z c h1 h2 => ?_, fun y hy => ?_, fun y c _ h => ?_, fun _ => hd, Around.frames_deeper e0.frames, .inr ⟨rfl, rfl⟩, fun b z => absurd z (noA b), e0.bs, e0.bsz, fun b _ _ => noA b, fun b z => absurd z (noA b), e0.funs, e0.frf⟩,
    rfl, e0.bare, Un.kept hk, ⟨_, x.toInCall.ns, fun i y v h1 h2 h3 => ?_⟩, fun y c h => ⟨_, x.cell y c h⟩, e0.hok.fresh (Nat.le_refl _), fun y c h => ?_, fun p hp => absurd (show p ∈ ([] : List (Addr × Obj)) from hp) (by simp), e0.hok.kept hk, ?_⟩
  · exact name_of_addr x.apart (PySem.mem_of_lookup h1) (PySem.mem_of_lookup h2)
  · have hy : scope.names.lookup y = some .cell ∨ scope.names.lookup y = some .free := hy
    rcases hy with hy | hy
    · exact cell_has hy
    · exact absurd rfl (S.nofree _ (PySem.mem_of_lookup hy))
  · exact Nat.le_of_lt (x.above y c (PySem.mem_of_lookup h))
  · have hi : i < vs.length := by
      unfold start at h2
      by_cases hi : i < vs.length
      · exact hi
      · rw [List.getElem?_append_right (by simpa using hi)] at h2
        rw [List.getElem?_replicate] at h2
        split at h2 <;> cases h2
    have ha : vs[i]? = some v := by
      unfold start at h2
      rw [List.getElem?_append_left (by simpa using hi), List.getElem?_map] at h2
      cases e : vs[i]? with
      | none => rw [e] at h2; cases h2
      | some a => rw [e] at h2; cases h2; rfl
    obtain ⟨u, hu, rv⟩ := r.get ha
    have hp : ps[i]? = some y := by
      rw [← S.pre, List.getElem?_take_of_lt (by omega)]; exact h1
    have ndP : ps.Nodup := by rw [← S.pre]; exact S.nd.sublist (List.take_sublist _ _)
    refine ⟨u, rv, ?_⟩
    rcases S.par y (List.mem_of_getElem? hp) with k | k
    · exact .inl ⟨k, bindL_get ndP hp hu k⟩
    · obtain ⟨c, e⟩ := cell_has (n := s.heap.objs.size + 1) k
      refine .inr ⟨.inl k, c, e, ?_⟩
      have q := x.cell y c e
      rw [bindC_get ndP hp hu (by show scope.names.lookup y ≠ _; rw [k]; decide)] at q
      exact q
  · exact e0.hok.fresh (Nat.le_of_lt (x.above y c (PySem.mem_of_lookup h)))
  · unfold start
    show _ = N.length
    rw [List.length_append, List.length_map, List.length_replicate]
    omega
theorem fn_of {CX : CXT} {P : Program} {w : World} {K : PySem.W.Frag} {mg : Str → Option Value} {base : Heap} {k : Nat} {f : Addr} {name qual : Str} {params : Arguments} {body : List Stmt} {scope : Scope} {dV kV doc pm cdv ct oc : Value} {an od : Option Addr}
    {osl : Array (Option Value)} {N ps : List Str} {sp : Sp} (lk : K.lookup f = some ⟨oc, od, .func (PySem.W.fnOf name qual params body scope dV kV doc pm an cdv ct), osl⟩) (hcd : PySem.W.codeIn K cdv qual = true) (S : FnScope N ps scope)
    (len : ∀ vs H Q E, sp vs H Q E → vs.length = ps.length)
    (hbody : ∀ (A : Around) (outer : List Env) (s : Shared) (H : Hp) (vs : List V) (Q : VK) (E : XK), Room k (A.deeper (envOfC qual scope s.heap.objs.size f cdv)) → sp vs H Q E →
      ∃ t, PSs (cxOf CX P w K mg base N qual scope f cdv A outer s H E) body t ∧ t { nx := fun _ H' => Q .non H', rt := Q } (start N vs) H) :
    FnOk P w K mg base CX (k + 1) f (PySem.W.fnOf name qual params body scope dV kV doc pm an cdv ct) ps sp := by
  refine ⟨len, fun A outer s H args us vs Q E hr e0 hb r hsp => ?_⟩
  have hl := len _ _ _ _ hsp
  have KX : K.In s.heap := e0.mod.kin.keeps fun b o e => (e0.bs b o e).1
  have lim : s.heap.NoLimit := e0.mod.nolimit.keeps fun b o e => (e0.bs b o e).1
  have hkind : ∀ y ∈ ps.zip us, scope.names.lookup y.1 = some .local ∨ (scope.names.lookup y.1 = some .cell ∧ ((cellsFrom (s.heap.objs.size + 1) scope.names []).lookup y.1).isSome = true) := fun ⟨n, v⟩ hy => by
    rcases S.par n (List.of_mem_zip hy).1 with q | q
    · exact .inl q
    · exact .inr ⟨q, PySem.W.cellsFrom_some _ _ _ (.inl q)⟩
  refine codeAny_call_function hr.depth (KX _ _ lk) rfl S.co S.gen rfl (PySem.W.codeRec_of KX hcd) (hb _ _ _ _ ?_)
  refine wpAny_newFunctionEnv_cells S.kind hkind fun env he s1 x => ?_
  subst he
  refine ⟨lim.keeps x.toInCall.keep, codeAny_func ?_⟩
  obtain ⟨t, ht, hq⟩ := hbody A outer s H vs Q E (hr.deeper _) hsp
  have I : Inv (cxOf CX P w K mg base N qual scope f cdv A outer s H E) [] (start N vs) H s1 := inv_start S hr.hd e0 hl r x
  refine wpAny_mono (ht [] s1 (start N vs) H _ I hq) (fun fl s' hs => ?_) fun e s' hs => hs
  have fin : ∀ {σ' : St} {H' : Hp} {v : V} {u : Value}, Inv (cxOf CX P w K mg base N qual scope f cdv A outer s H E) [] σ' H' s' → RelV v u → Q v H' → CE outer P w H s Q u s' :=
    fun {σ' H' v u} J rv q => ⟨v, H', J.os, J.bare, J.base, J.hok, rv, q⟩
  cases fl with
  | ret u =>
    obtain ⟨v, σ', H', J, rv, q⟩ := hs
    exact fin J rv q
  | next =>
    obtain ⟨σ', H', J, q⟩ := hs
    exact fin (v := V.non) (u := Value.none) J rfl q
  | brk =>
    obtain ⟨_, _, _, q⟩ := hs
    exact False.elim q
  | cont =>
    obtain ⟨_, _, _, q⟩ := hs
    exact False.elim q
end L2
namespace L2
open PySem PySem.Spec PyProof.Rows
section
variable {X : Cx} {x : Str} {p pos : Pos} {e : Expr} {es : List Expr} {t : TA} {id T : String} {r : List V → Hp → VK → Prop}
def tCB (r : List V → Hp → VK → Prop) (t : TA) : TE := fun σ H Q => t σ H fun vs H1 => r vs H1 Q
theorem pe_callB (hc : CallR X (.builtin id) r) (hg : Gl X x) (hm : X.mg x = none) (hv : bootBuiltins x = some (.builtin id)) (ha : PA X (e :: es) t) (hn : x ≠ "__name__" := by decide) (hdb : (x == ("__debug__" : Str)) = false := by decide)
    (he : starEach (e :: es) X.env = (false, eval e X.env) :: starEach es X.env := by rfl) (hpl : (backTo pos (starEach es X.env)).any (·.1) = false := by rfl) : PE X (.Call (.Name x p) (e :: es) [] pos) (tCB r t) := by
  intro pins s σ H Q I h
  refine wpAny_Call_Name_kw (ld_blt I hg hm hv ?_ hn hdb)
  exact PyProof.Rows.callWith_builtin1 (thn (ha pos pins s σ H _ I h) fun us s1 ⟨vs, H1, I1, r1, q1⟩ => hc pins s1 σ H1 vs us Q I1 r1 q1) he hpl
end
end L2
namespace HT
open PySem PyProof.Rows
section
open PySem.SeqAt
open PySem.AutoSeq1 (wpAny_loadPart')
open PySem.MeetsSeq PySem.MeetsSeq2 PySem.MeetsSeq3
end
section
variable {prog : Program} {w : World} {A : Around} {E : Value → Shared → Prop} {s : Shared}
def sIx (n d : Nat) : Option Int → Nat
  | none => d
  | some v => if v < 0 then (v + (n : Int)).toNat else min v.toNat n
theorem sIx_none (n d : Nat) : sIx n d none = d := rfl
theorem sIx_nat (n d k : Nat) : sIx n d (some (k : Int)) = min k n := by
  show (if (k : Int) < 0 then ((k : Int) + (n : Int)).toNat else min (k : Int).toNat n) = min k n
  rw [if_neg (by omega), Int.toNat_natCast]
end
end HT
namespace L2
open PySem PySem.Spec PyProof.Rows
abbrev TO := St → Hp → (Option Int → Hp → Prop) → Prop
def PO (X : Cx) (e : Option Expr) (t : TO) : Prop :=
  ∀ (pins : List (Addr × Obj)) (s : Shared) (σ : St) (H : Hp) (Q : Option Int → Hp → Prop), Inv X pins σ H s → t σ H Q →
    wpAny (model X.prog X.w) X.A (evalPart e X.env) (fun u s' => ∃ o H', Inv X pins σ H' s' ∧ IsPart u o ∧ Q o H') X.xe s
def tNoPart : TO := fun _ H Q => Q none H
def tPart (t : TE) : TO := fun σ H Q => t σ H fun x H1 => ∃ i, x = .int i ∧ Q (some i) H1
section
variable {X : Cx} {e : Expr} {te : TE} {lo hi : Option Expr} {tl th : TO} {pos p2 : Pos}
theorem po_none : PO X none tNoPart := by
  intro pins s σ H Q I h
  rw [evalPart_none]
  exact wpAny_pure ⟨none, H, I, .none, h⟩
theorem po_some (h : PE X e te) : PO X (some e) (tPart te) := by
  intro pins s σ H Q I hw
  rw [evalPart_some]
  refine thn (h pins s σ H _ I hw) fun u s1 ⟨x, H1, I1, r1, q1⟩ => ?_
  obtain ⟨i, rfl, q⟩ := q1
  obtain ⟨t, rfl⟩ := r1
  exact ⟨some i, H1, I1, .int i t, q⟩
def SlR (X : Cx) (r : V → Option Int → Option Int → Hp → VK → Prop) : Prop :=
  ∀ (pins : List (Addr × Obj)) (s : Shared) (σ : St) (H : Hp) (x : V) (v vl vu : Value) (lo hi : Option Int) (sl : Addr) (Q : VK), Inv X pins σ H s → RelV x v → s.heap.IsSliceOf sl vl vu .none → IsPart vl lo → IsPart vu hi → r x lo hi H Q →
    ∃ T id, typeLookup (.type T) "__getitem__" = pure (some (.builtin id)) ∧ s.TypeIs v T ∧ wpAny (model X.prog X.w) X.A (getItem v (.ref sl)) (EP X pins σ Q) X.xe s
def tSl (r : V → Option Int → Option Int → Hp → VK → Prop) (te : TE) (tl th : TO) : TE := fun σ H Q => te σ H fun x H1 => tl σ H1 fun l H2 => th σ H2 fun u H3 => r x l u H3 Q
theorem pe_slice {r : V → Option Int → Option Int → Hp → VK → Prop} (hr : SlR X r) (he : PE X e te) (hl : PO X lo tl) (hu : PO X hi th) : PE X (.Subscript e (.Slice lo hi none p2) pos) (tSl r te tl th) := by
  intro pins s σ H Q I h
  refine Subscript_ (thn (he pins s σ H _ I h) fun v s1 ⟨x, H1, I1, r1, q1⟩ => ?_)
  refine wpAny_Slice (thn (hl pins s1 σ H1 _ I1 q1) fun vl s2 ⟨l, H2, I2, pl, q2⟩ => thn (hu pins s2 σ H2 _ I2 q2) fun vu s3 ⟨u, H3, I3, pu, q3⟩ => ?_)
  rw [evalPart_none]
  refine wpAny_pure ?_
  have I4 : Inv X pins σ H3 { s3 with heap := s3.heap.push { cls := .type "slice", data := .fields #[vl, vu, .none] } } := I3.kept (t' := s3.toks) fun b ob q => Heap.get?_push_of_some _ q
  obtain ⟨T, id, hT, ht, hg⟩ := hr pins { s3 with heap := s3.heap.push { cls := .type "slice", data := .fields #[vl, vu, .none] } } σ H3 x v vl vu l u s3.heap.objs.size Q I4 r1 (Heap.IsSliceOf.new ..) pl pu q3
  show wpAny (model X.prog X.w) X.A (subscriptTail e (.Slice lo hi none p2) v (.ref s3.heap.objs.size)) (EP X pins σ Q) X.xe { s3 with heap := s3.heap.push { cls := .type "slice", data := .fields #[vl, vu, .none] } }
  exact tail_any (ops := [.ref s3.heap.objs.size, v]) ht hT hg (by with_unfolding_all rfl)
def cutV (xs : List V) (lo hi : Option Int) : List V := (xs.drop (HT.sIx xs.length 0 lo)).take (HT.sIx xs.length xs.length hi - HT.sIx xs.length 0 lo)
theorem cutV_length (xs : List V) (lo hi : Option Int) : (cutV xs lo hi).length ≤ xs.length := by
  unfold cutV
  rw [List.length_take, List.length_drop]
  omega
end
end L2
namespace L2
open PySem PySem.Spec PyProof.Rows
def ixN (n : Nat) (i : Int) : Option Nat := if 0 ≤ i then (if i < n then some i.toNat else none) else if -(n : Int) ≤ i then some (i + n).toNat else none
def atI {α : Type} (xs : List α) (i : Int) : Option α := (ixN xs.length i).bind fun j => xs[j]?
theorem ixN_seq {n : Nat} {i : Int} {j : Nat} (h : ixN n i = some j) : seqIndex? i n = some j ∧ j < n ∧ -(n : Int) ≤ i ∧ i < n := by
  unfold ixN at h
  by_cases h0 : 0 ≤ i
  · rw [if_pos h0] at h
    by_cases h1 : i < n
    · rw [if_pos h1] at h
      have e : i.toNat = j := Option.some.inj h
      exact ⟨by rw [seqIndex_of h0 h1, e], by omega, by omega, h1⟩
    · rw [if_neg h1] at h; cases h
  · rw [if_neg h0] at h
    by_cases h1 : -(n : Int) ≤ i
    · rw [if_pos h1] at h
      have e : (i + n).toNat = j := Option.some.inj h
      exact ⟨by rw [seqIndex_neg (by omega) h1, e], by omega, h1, by omega⟩
    · rw [if_neg h1] at h; cases h
theorem atI_get {α : Type} {xs : List α} {i : Int} {v : α} (h : atI xs i = some v) : ∃ j, seqIndex? i xs.length = some j ∧ xs[j]? = some v ∧ j < xs.length ∧ -(xs.length : Int) ≤ i ∧ i < xs.length := by
  unfold atI at h
  cases e : ixN xs.length i with
  | none => rw [e] at h; cases h
  | some j =>
    rw [e] at h
    obtain ⟨h1, h2, h3, h4⟩ := ixN_seq e
    exact ⟨j, h1, h, h2, h3, h4⟩
theorem atI_nat {α : Type} {xs : List α} {j : Nat} {v : α} (h : xs[j]? = some v) : atI xs (j : Int) = some v := by
  have hj : j < xs.length := (List.getElem?_eq_some_iff.mp h).1
  have e : ixN xs.length (j : Int) = some j := by
    unfold ixN
    rw [if_pos (by omega), if_pos (by omega)]; simp
  unfold atI; rw [e]; exact h
theorem atI_last {α : Type} (xs : List α) (v : α) : atI (xs ++ [v]) (-1) = some v := by
  have hl : (xs ++ [v]).length = xs.length + 1 := by simp
  have e : ixN (xs ++ [v]).length (-1) = some xs.length := by
    unfold ixN
    rw [hl, if_neg (by decide), if_pos (by omega)]
    congr 1
    omega
  unfold atI
  rw [e]
  show (xs ++ [v])[xs.length]? = some v
  simp
def PlainIx (b : Expr) : Prop := ∀ o i, subscripted b false o i = operate [o, i] (getItem o i)
def IxR (X : Cx) (r : R2) : Prop :=
  ∀ (value slice : Expr) (pins : List (Addr × Obj)) (s : Shared) (σ : St) (H : Hp) (x y : V) (v u : Value) (Q : VK), Inv X pins σ H s → RelV x v → RelV y u → r x y H Q →
    subscripted slice false v u = operate [v, u] (getItem v u) → wpAny (model X.prog X.w) X.A (subscriptTail value slice v u) (EP X pins σ Q) X.xe s
def MtR (X : Cx) (id : String) (r : V → List V → Hp → VK → Prop) : Prop :=
  ∀ (pins : List (Addr × Obj)) (s : Shared) (σ : St) (H : Hp) (x : V) (xs : List V) (v : Value) (us : List Value) (Q : VK), Inv X pins σ H s → RelV x v → Vals xs us → r x xs H Q →
    wpAny (model X.prog X.w) X.A (call (.builtin id) (v :: us)) (EP X pins σ Q) X.xe s
section
variable {X : Cx} {a b : Expr} {ta tb : TE} {pos : Pos}
theorem pe_ix {r : R2} (hr : IxR X r) (ha : PE X a ta) (hb : PE X b tb) (hs : PlainIx b) : PE X (.Subscript a b pos) (tOp r ta tb) := by
  intro pins s σ H Q I h
  exact Subscript_ (binT ha hb I h fun v u s2 x y H2 I2 rx ry q => hr a b pins s2 σ H2 x y v u Q I2 rx ry q (hs _ _))
def rIxL (K : PySem.W.Frag) : R2 := fun x y H Q => ∃ p xs i v, x = .ref p ∧ y = .int i ∧ SqL K H p xs ∧ atI xs i = some v ∧ Q v H
def rIxT (K : PySem.W.Frag) : R2 := fun x y H Q => ∃ p xs i v, x = .ref p ∧ y = .int i ∧ SqT K H p xs ∧ atI xs i = some v ∧ Q v H
theorem ix_list : IxR X (rIxL X.K) := by
  intro value slice pins s σ H x y v u Q I rx ry h hs
  obtain ⟨p, xs, i, z, rfl, rfl, hq, he, q⟩ := h
  cases rx
  obtain ⟨t, rfl⟩ := ry
  obtain ⟨its, r, pl, hz⟩ := I.list hq
  obtain ⟨j, h1, h2, h3, h4, h5⟩ := atI_get he
  obtain ⟨w, ew, rw'⟩ := r.get h2
  have hl := r.length
  have hn := line63
  have fin : EP X pins σ Q w s := ⟨z, H, I, rw', q⟩
  by_cases h0 : 0 ≤ i
  · have hj : i.toNat = j := by
      rw [seqIndex_of h0 h5] at h1
      exact Option.some.inj h1
    exact item_listR pl.isList h0 (by omega) (by rw [hj]; simpa using ew) fin hs
  · have hj : (i + (its.toArray.size : Int)).toNat = j := by
      rw [seqIndex_neg (by omega) h4] at h1
      rw [List.size_toArray, ← hl]
      exact Option.some.inj h1
    exact subscriptTail_builtinR (x := w) pl.isList.typeIs slot_list_getitem.lookup
      (wpAny_getItem_list_neg (Q := fun r s' => r = w ∧ EP X pins σ Q r s') pl.isList (by omega) (by rw [List.size_toArray] <;> omega) (by omega) (by rw [hj]; simpa using ew) ⟨rfl, fin⟩) hs
theorem ix_tup : IxR X (rIxT X.K) := by
  intro value slice pins s σ H x y v u Q I rx ry h hs
  obtain ⟨p, xs, i, z, rfl, rfl, hq, he, q⟩ := h
  cases rx
  obtain ⟨t, rfl⟩ := ry
  obtain ⟨its, r, pl, hz⟩ := I.tuple hq
  obtain ⟨j, h1, h2, h3, h4, h5⟩ := atI_get he
  obtain ⟨w, ew, rw'⟩ := r.get h2
  have hl := r.length
  have hn := line63
  have fin : EP X pins σ Q w s := ⟨z, H, I, rw', q⟩
  exact subscriptTail_builtinR (x := w) pl.typeIs slot_tuple_getitem.lookup
    (getItem_tuple (j := j) (Q := fun r s' => r = w ∧ EP X pins σ Q r s') pl (by omega) (by omega) (by rw [List.size_toArray, ← hl]; exact h1) (by simpa using ew) ⟨rfl, fin⟩) hs
theorem mapSeq_set (its : List Value) (n j : Nat) (u : Value) : Obj.mapSeq (·.setIfInBounds j u) { cls := .type "list", data := .seq its.toArray n } = { cls := .type "list", data := .seq (its.set j u).toArray n } := by
  simp [Obj.mapSeq]
theorem Inv.lst {pins : List (Addr × Obj)} {σ : St} {H : Hp} {s : Shared} {p : Addr} {xs : List V} (I : Inv X pins σ H s) (h : H p = some (.lst xs)) :
    ∃ (its : List Value) (n : Nat), Vals xs its ∧ s.heap.get? p = some { cls := .type "list", data := .seq its.toArray n } ∧ xs.length ≤ sizeLine := by
  obtain ⟨z, its, n, r, e⟩ := I.hok p _ h
  exact ⟨its, n, r, e, z⟩
theorem Inv.lstUpd {pins : List (Addr × Obj)} {σ : St} {H : Hp} {s : Shared} {p : Addr} {xs ys : List V} {its its' : List Value} {n n' : Nat} {f : Obj → Obj} (I : Inv X pins σ H s) (h : H p = some (.lst xs))
    (ho : s.heap.get? p = some { cls := .type "list", data := .seq its.toArray n }) (hf : f { cls := .type "list", data := .seq its.toArray n } = { cls := .type "list", data := .seq its'.toArray n' }) (r : Vals ys its') (hz : ys.length ≤ sizeLine) (t : Nat) :
    Inv X pins σ (upd H p (.lst ys)) { s with heap := s.heap.update p f, toks := t } := by
  have e : (s.heap.update p f).get? p = some { cls := .type "list", data := .seq its'.toArray n' } := by
    rw [Heap.get?_update_self f ho (by rw [hf] <;> rfl), hf]
  refine I.write (x := p) (e := p) (by rw [h]; trivial) (.inl rfl) (fun b u hb q => (Heap.get?_update_other _ _ (Ne.symm hb)).trans q) ⟨_, e⟩ ?_
  exact ⟨hz, its', n', r, e⟩
def rSetL : V → V → V → Hp → (Hp → Prop) → Prop := fun o i v H Q => ∃ p xs k j, o = .ref p ∧ i = .int k ∧ H p = some (.lst xs) ∧ ixN xs.length k = some j ∧ Q (upd H p (.lst (xs.set j v)))
theorem set_list : PSet X rSetL := by
  intro pins s σ H o i v ov iv u Q I ro ri rv h
  obtain ⟨p, xs, k, j, rfl, rfl, hp, hj, q⟩ := h
  cases ro
  obtain ⟨t, rfl⟩ := ri
  obtain ⟨its, n, r, ho, hz⟩ := I.lst hp
  obtain ⟨h1, h2, h3, h4⟩ := ixN_seq hj
  have hl := r.length
  have hn := line63
  have I' : Inv X pins σ (upd H p (.lst (xs.set j v))) { s with heap := s.heap.update p (Obj.mapSeq (·.setIfInBounds j u)) } :=
    I.lstUpd hp ho (mapSeq_set its n j u) (r.set rv j) (by rw [List.length_set]; exact hz) s.toks
  by_cases h0 : 0 ≤ k
  · have hk : k.toNat = j := by
      rw [seqIndex_of h0 h4] at h1
      exact Option.some.inj h1
    exact PySem.W.ki_setAt ho h0 (by omega) (by rw [List.size_toArray, ← hl]; exact h4) (by rw [hk]; exact ⟨_, I', q⟩)
  · have hk : (k + (its.toArray.size : Int)).toNat = j := by
      rw [seqIndex_neg (by omega) h3] at h1
      rw [List.size_toArray, ← hl]
      exact Option.some.inj h1
    exact PySem.W.ki_setBack ho (by omega) (by rw [List.size_toArray, ← hl]; exact h3) (by omega) (by rw [hk]; exact ⟨_, I', q⟩)
theorem slice_bounds (lo hi : Option Int) (n : Nat) : (sliceBounds lo hi none n).1 = ((HT.sIx n 0 lo : Nat) : Int) ∧ (sliceBounds lo hi none n).2.1 = ((HT.sIx n n hi : Nat) : Int) ∧ (sliceBounds lo hi none n).2.2 = 1 := by
  refine ⟨?_, ?_, rfl⟩
  · cases lo with
    | none => simp [sliceBounds, HT.sIx]
    | some i =>
      simp only [sliceBounds, HT.sIx, Option.getD_none, show (1 : Int) > 0 by decide, if_true]
      by_cases h : i < 0
      · simp only [h, if_true] <;> omega
      · simp only [h, if_false] <;> omega
  · cases hi with
    | none => simp [sliceBounds, HT.sIx]
    | some i =>
      simp only [sliceBounds, HT.sIx, Option.getD_none, show (1 : Int) > 0 by decide, if_true]
      by_cases h : i < 0
      · simp only [h, if_true] <;> omega
      · simp only [h, if_false] <;> omega
theorem slicePick_cut (its : List Value) (lo hi : Option Int) : slicePick its.toArray lo hi none = ((its.drop (HT.sIx its.length 0 lo)).take (HT.sIx its.length its.length hi - HT.sIx its.length 0 lo)).toArray := by
  obtain ⟨h1, h2, h3⟩ := slice_bounds lo hi its.toArray.size
  unfold slicePick
  rw [h1, h2, h3]
  simp only [sliceRange_one, pick_run, List.size_toArray] <;> rfl
def rSlL (K : PySem.W.Frag) : V → Option Int → Option Int → Hp → VK → Prop := fun x lo hi H Q => ∃ a xs, x = .ref a ∧ SqL K H a xs ∧ ∀ p, H p = none → Q (.ref p) (upd H p (.lst (cutV xs lo hi)))
theorem sl_list : SlR X (rSlL X.K) := by
  intro pins s σ H x v vl vu lo hi sl Q I rx hs pl pu h
  obtain ⟨a, xs, rfl, hx, q⟩ := h
  cases rx
  obtain ⟨its, r, ht, hz⟩ := I.list hx
  have hlen := r.length
  refine ⟨"list", _, slot_list_getitem.lookup, ht.isList.typeIs, ?_⟩
  refine wpAny_getItem_list_slice ht.isList hs pl pu .none (by simp) ?_ (by rw [List.size_toArray] <;> omega)
  rw [slicePick_cut, ← hlen]
  refine ⟨.ref s.heap.objs.size, _, I.laid (t' := s.toks) (o := .lst (cutV xs lo hi)) (fun b ob q => Heap.get?_push_of_some _ q) (Nat.le_refl _) ?_, rfl, q _ (I.hok.fresh (Nat.le_refl _))⟩
  exact ⟨Nat.le_trans (cutV_length xs lo hi) hz, _, 0, (r.drop (HT.sIx xs.length 0 lo)).take (HT.sIx xs.length xs.length hi - HT.sIx xs.length 0 lo), Heap.get?_push_size _ rfl⟩
theorem call_len_seq : CallR X (.builtin "len") (fun xs H Q => ∃ p ys, xs = [.ref p] ∧ (SqL X.K H p ys ∨ SqT X.K H p ys) ∧ Q (.int ys.length) H) := by
  intro pins s σ H xs us Q I r h
  obtain ⟨p, ys, rfl, hq, q⟩ := h
  obtain ⟨u, rfl, rx⟩ := vals1 r
  cases rx
  have hn := line63
  rcases hq with hq | hq
  · obtain ⟨its, r', pl, hz⟩ := I.list hq
    have hlen := r'.length
    exact Calls.call_len_list pl.isList (by simp only [List.size_toArray] <;> omega) ⟨.int ys.length, H, I.tok _, ⟨s.toks + 1, by rw [List.size_toArray, hlen]⟩, q⟩
  · obtain ⟨its, r', pl, hz⟩ := I.tuple hq
    have hlen := r'.length
    exact len_tuple pl (by simp only [List.size_toArray] <;> omega) ⟨.int ys.length, H, I.tok _, ⟨s.toks + 1, by rw [List.size_toArray, hlen]⟩, q⟩
def tyV (K : PySem.W.Frag) (T : String) (x : V) (H : Hp) : Prop := match x with
  | .str _ => T = "str"
  | .int _ => T = "int"
  | .ref p => (T = "list" ∧ ∃ xs, SqL K H p xs) ∨ (T = "tuple" ∧ ∃ o, K.lookup p = some o ∧ o.cls = .type "tuple" ∧ o.dict = none) ∨
      (T = "dict" ∧ ((∃ kvs, H p = some (.dK kvs)) ∨ ∃ kvs, H p = some (.dT kvs))) ∨ (T = "set" ∧ ∃ S n, H p = some (.set S n))
  | _ => False
theorem tyV_is {pins : List (Addr × Obj)} {σ : St} {H : Hp} {s : Shared} {T : String} {x : V} {v : Value} (I : Inv X pins σ H s) (r : RelV x v) (ty : tyV X.K T x H) :
    s.TypeIs v T ∧ ∀ a, v = .ref a → ∃ ob, s.heap.get? a = some ob ∧ ob.dict = none := by
  cases x with
  | str z =>
    obtain ⟨t, rfl⟩ := r
    cases (show T = "str" from ty)
    exact ⟨typeIs_str s z t, fun _ e => nomatch e⟩
  | int i =>
    obtain ⟨t, rfl⟩ := r
    cases (show T = "int" from ty)
    exact ⟨typeIs_int s i t, fun _ e => nomatch e⟩
  | ref p =>
    cases r
    rcases ty with ⟨rfl, xs, hq⟩ | ⟨rfl, o, hk, hc, hd⟩ | ⟨rfl, hk⟩ | ⟨rfl, S, n, hk⟩
    · obtain ⟨its, _, pl, _⟩ := I.list hq
      refine ⟨pl.isList.typeIs, fun a e => ?_⟩
      cases e
      obtain ⟨o, n, e, c, hd, _⟩ := pl
      exact ⟨o, e, hd⟩
    · refine ⟨⟨o, I.kIn p o hk, hc⟩, fun a e => ?_⟩
      cases e
      exact ⟨o, I.kIn _ o hk, hd⟩
    · have z : ∃ o, s.heap.get? p = some o ∧ o.ExactDict := by
        rcases hk with ⟨kvs, hk⟩ | ⟨kvs, hk⟩
        · obtain ⟨_, _, _, _, o, _, _, e, ex, _⟩ := I.hok p _ hk
          exact ⟨o, e, ex⟩
        · obtain ⟨_, _, _, _, o, _, _, e, ex, _⟩ := I.hok p _ hk
          exact ⟨o, e, ex⟩
      obtain ⟨o, e, ex⟩ := z
      refine ⟨⟨o, e, ex.1⟩, fun a e2 => ?_⟩
      cases e2
      exact ⟨o, e, ex.2.1⟩
    · obtain ⟨o, _, _, _, e, ex, _⟩ := I.hok p _ hk
      refine ⟨⟨o, e, ex.1⟩, fun a e2 => ?_⟩
      cases e2
      exact ⟨o, e, ex.2.1⟩
  | _ => exact False.elim ty
def tBM (K : PySem.W.Frag) (T : String) (r : V → List V → Hp → VK → Prop) (to : TE) (t : TA) : TE := fun σ H Q => to σ H fun x H1 => tyV K T x H1 ∧ t σ H1 fun xs H2 => r x xs H2 Q
variable {o e : Expr} {es : List Expr} {to : TE} {t : TA} {name : Str} {apos cpos : Pos} {T id : String} {r : V → List V → Hp → VK → Prop}
theorem pe_bm (pa : PlainAttrs T) (slot : Slot T name id) (hty : typeOf (.builtin id) = pure (.type "method_descriptor")) (hm : MtR X id r) (ho : PE X o to) (ha : PA X (e :: es) t)
    (hbase : attributeBase o name X.env (eval o X.env) = eval o X.env := by rfl)
    (hfew : ((backTo cpos (starEach (e :: es) X.env)).all (fun x => !x.1) && (backToKw cpos (keywordEach [] X.env)).all (fun x => x.1.isSome)
      && decide ((e :: es).length + ([] : List Keyword).length + (if ([] : List Keyword).isEmpty then 0 else 1) < 30)) = true := by rfl)
    (hline : (apos.endLine == cpos.line) = true := by rfl) (hs : starEach (e :: es) X.env = (false, eval e X.env) :: starEach es X.env := by rfl) (hplain : (backTo cpos (starEach es X.env)).any (·.1) = false := by rfl) :
    PE X (.Call (.Attribute o name apos) (e :: es) [] cpos) (tBM X.K T r to t) := by
  intro pins s σ H Q I h
  refine wpAny_Call_method_late hbase hfew hline rfl (thn (ho pins s σ H _ I h) fun v s1 ⟨x, H1, I1, r1, ty, q1⟩ => ?_)
  obtain ⟨h1, h2⟩ := tyV_is I1 r1 ty
  refine ⟨T, id, pa, slot, hty, h1, h2, ?_⟩
  have hA := ha cpos pins s1 σ H1 _ I1 q1
  rw [hs] at hA ⊢
  refine Calls.callWith_builtin (by show (false || (backTo cpos (starEach es X.env)).any (·.1)) = false; rw [hplain] <;> rfl) (Calls.evalArgs_plain ?_)
  exact thn hA fun us s2 ⟨vs, H2, I2, r2, q2⟩ => hm pins s2 σ H2 x vs v us Q I2 r1 r2 q2
end
end L2
namespace L2
open PySem PySem.Spec PyProof.Rows
def MtM (X : Cx) (id : String) (r : V → List V → Hp → VK → Prop) : Prop :=
  ∀ (pins : List (Addr × Obj)) (s : Shared) (σ : St) (H : Hp) (x : V) (xs : List V) (v : Value) (us : List Value) (Q : VK), Inv X pins σ H s → RelV x v → Vals xs us → r x xs H Q →
    wpAny (model X.prog X.w) X.A (call (.builtin id) (v :: us)) (EP X pins σ Q) X.xe s
theorem Vals.one : ∀ {x : V} {us : List Value}, Vals [x] us → ∃ u, us = [u] ∧ RelV x u
  | _, _, .cons r .nil => ⟨_, rfl, r⟩
theorem Vals.rep {xs : List V} {us : List Value} (h : Vals xs us) : ∀ k : Nat, Vals (List.replicate k xs).flatten (List.replicate k us).flatten
  | 0 => .nil
  | k + 1 => by
    rw [List.replicate_succ, List.replicate_succ, List.flatten_cons, List.flatten_cons]
    exact Vals.append h (Vals.rep h k)
theorem foldl_rep (its : List Value) : ∀ (k : Nat) (acc : List Value),
    List.foldl (fun x1 x2 => x1 ++ x2) acc.toArray (List.replicate k its.toArray) = (acc ++ (List.replicate k its).flatten).toArray
  | 0, acc => by simp
  | k + 1, acc => by
    have e : acc.toArray ++ its.toArray = (acc ++ its).toArray := by simp
    have e2 : (acc ++ its) ++ (List.replicate k its).flatten = acc ++ (List.replicate (k + 1) its).flatten := by
      rw [List.replicate_succ, List.flatten_cons, List.append_assoc]
    rw [← e2, ← foldl_rep its k (acc ++ its), ← e, List.replicate_succ, List.foldl_cons]
section
variable {X : Cx} {pins : List (Addr × Obj)} {σ : St} {H : Hp} {s : Shared} {l b : Addr} {xs ys zs : List V}
theorem Inv.lset {its its' : List Value} {n : Nat} {f : Array Value → Array Value} {t' : Nat} (I : Inv X pins σ H s) (hH : H l = some (.lst xs))
    (e : s.heap.get? l = some { cls := .type "list", data := .seq its.toArray n }) (hf : f its.toArray = its'.toArray) (hv : Vals ys its') (hz : ys.length ≤ sizeLine) :
    Inv X pins σ (upd H l (.lst ys)) { s with heap := s.heap.update l (Obj.mapSeq f), toks := t' } := by
  have q := PySem.IsL.update e f
  rw [hf] at q
  refine I.write (x := l) (e := l) (by rw [hH]; exact trivial) (.inl rfl) (fun b' u hb hu => (Heap.get?_update_other s.heap (Obj.mapSeq f) (Ne.symm hb)).trans hu) ⟨_, q⟩ ?_
  exact ⟨hz, its', _, hv, q⟩
theorem Inv.lnew {its : List Value} {t' : Nat} (I : Inv X pins σ H s) (hv : Vals ys its) (hz : ys.length ≤ sizeLine) :
    Inv X pins σ (upd H s.heap.objs.size (.lst ys)) { s with heap := s.heap.push { cls := .type "list", data := .seq its.toArray }, toks := t' } :=
  I.laid (fun _ _ q => Heap.get?_push_of_some _ q) (Nat.le_refl _) ⟨hz, its, 0, hv, Heap.get?_push_size _ rfl⟩
theorem Inv.fresh (I : Inv X pins σ H s) : H s.heap.objs.size = none := I.hok.fresh (Nat.le_refl _)
theorem Inv.lstM (I : Inv X pins σ H s) (hH : H l = some (.lst xs)) : xs.length ≤ sizeLine ∧ ∃ (its : List Value) (n : Nat), Vals xs its ∧ xs.length = its.length ∧ s.heap.get? l = some { cls := .type "list", data := .seq its.toArray n } := by
  obtain ⟨z, its, n, r, e⟩ := I.hok l _ hH
  exact ⟨z, its, n, r, r.length, e⟩
theorem notLongL {n : Nat} (h : n ≤ sizeLine) : Builtin.List.listTooLong n = false := by
  unfold Builtin.List.listTooLong
  exact decide_eq_false (by omega)
end
section
variable {X : Cx}
def rAppend : V → List V → Hp → VK → Prop := fun x vs H Q => ∃ l xs y, x = .ref l ∧ vs = [y] ∧ H l = some (.lst xs) ∧ xs.length < sizeLine ∧ Q .non (upd H l (.lst (xs ++ [y])))
theorem mt_append : MtM X "list.append" rAppend := by
  intro pins s σ H x vs v us Q I rx rv h
  obtain ⟨l, xs, y, rfl, rfl, hH, hz, q⟩ := h
  cases rx
  obtain ⟨u, rfl, ru⟩ := rv.one
  obtain ⟨z, its, n, r, hl, e⟩ := I.lstM hH
  refine call_meets F.slot_list_append ⟨_, e, rfl⟩ F.entry_list_append (F.args_list_append_2 _ _) (PySem.list_append l its.toArray n u (by rw [List.size_toArray]; omega)) ⟨e, ?_⟩
  refine ⟨.non, _, I.lset (its' := its ++ [u]) hH e (by simp) (r.append (.cons ru .nil)) ?_, rfl, q⟩
  rw [List.length_append, List.length_singleton]
  omega
def rExtend : V → List V → Hp → VK → Prop := fun x vs H Q => ∃ l b xs zs, x = .ref l ∧ vs = [.ref b] ∧ H l = some (.lst xs) ∧ H b = some (.lst zs) ∧ xs.length + zs.length ≤ sizeLine ∧ Q .non (upd H l (.lst (xs ++ zs)))
theorem mt_extend : MtM X "list.extend" rExtend := by
  intro pins s σ H x vs v us Q I rx rv h
  obtain ⟨l, b, xs, zs, rfl, rfl, hH, hB, hz, q⟩ := h
  cases rx
  obtain ⟨u, rfl, ru⟩ := rv.one
  cases ru
  obtain ⟨z, its, n, r, hl, e⟩ := I.lstM hH
  obtain ⟨z2, its2, n2, r2, hl2, e2⟩ := I.lstM hB
  have hsz : its.toArray.size + its2.toArray.size ≤ sizeLine := by rw [List.size_toArray, List.size_toArray]; omega
  have hlong : ¬ (!its.toArray.isEmpty && Builtin.List.listTooLong (its.toArray.size + its2.toArray.size)) = true := by
    rw [notLongL hsz, Bool.and_false]
    exact Bool.false_ne_true
  refine call_meets F.slot_list_extend ⟨_, e, rfl⟩ F.entry_list_extend (F.args_list_extend_2 _ _)
    (AutoSeq1.list_extend_list_list_0 l its.toArray n b its2.toArray n2 hlong (by rw [List.size_toArray]; omega) (by omega)) ⟨e, e2, ?_⟩
  refine ⟨.non, _, I.lset (its' := its ++ its2) hH e (by simp) (r.append r2) ?_, rfl, q⟩
  rw [List.length_append]
  omega
def rCat : R2 := fun x y H Q => ∃ l b xs zs, x = .ref l ∧ y = .ref b ∧ H l = some (.lst xs) ∧ H b = some (.lst zs) ∧ xs.length + zs.length ≤ sizeLine ∧ ∀ p, H p = none → Q (.ref p) (upd H p (.lst (xs ++ zs)))
theorem op_cat : OpR X (binaryOp .Add) rCat := by
  intro pins s σ H x y v u Q I rx ry h
  obtain ⟨l, b, xs, zs, rfl, rfl, hH, hB, hz, q⟩ := h
  cases rx
  cases ry
  obtain ⟨z, its, n, r, hl, e⟩ := I.lstM hH
  obtain ⟨z2, its2, n2, r2, hl2, e2⟩ := I.lstM hB
  refine PySem.P.add_list e e2 ?_ (by rw [List.size_toArray, List.size_toArray]; omega)
  have ea : its.toArray ++ its2.toArray = (its ++ its2).toArray := by simp
  rw [ea]
  exact ⟨.ref _, _, I.lnew (t' := s.toks) (r.append r2) (by rw [List.length_append]; omega), rfl, q _ I.fresh⟩
def rRep : R2 := fun x y H Q => ∃ l k xs, x = .ref l ∧ y = .int k ∧ H l = some (.lst xs) ∧ -(2 ^ 63) ≤ k ∧ k < 2 ^ 63 ∧ xs.length * k.toNat ≤ sizeLine ∧
  ∀ p, H p = none → Q (.ref p) (upd H p (.lst (List.replicate k.toNat xs).flatten))
theorem len_rep {α : Type} (xs : List α) (k : Nat) : (List.replicate k xs).flatten.length = k * xs.length := by
  induction k with
  | zero => simp
  | succ k ih => rw [List.replicate_succ, List.flatten_cons, List.length_append, ih, Nat.succ_mul, Nat.add_comm]
theorem op_rep : OpR X (binaryOp .Mult) rRep := by
  intro pins s σ H x y v u Q I rx ry h
  obtain ⟨l, k, xs, rfl, rfl, hH, h1, h2, hz, q⟩ := h
  cases rx
  obtain ⟨t, rfl⟩ := ry
  obtain ⟨z, its, n, r, hl, e⟩ := I.lstM hH
  have hlen : its.toArray.size * k.toNat ≤ sizeLine := by rw [List.size_toArray, ← hl]; exact hz
  have hcap : ¬ its.toArray.size * k.toNat > (2 ^ 63 - 1) / 8 := by
    have : (sizeLine : Nat) ≤ (2 ^ 63 - 1) / 8 := by decide
    omega
  have hfit : ¬ (!Builtin.List.listFitsIndex k) = true := by
    rw [fitsIndex_both h1 h2]
    exact Bool.false_ne_true
  have hlong : ¬ Builtin.List.listTooLong (its.toArray.size * k.toNat) = true := by
    rw [notLongL hlen]
    exact Bool.false_ne_true
  have hnew : List.foldl (fun x1 x2 => x1 ++ x2) #[] (List.replicate (if its.toArray.isEmpty = true then 0 else k.toNat) its.toArray) = (List.replicate k.toNat its).flatten.toArray := by
    have f0 : ∀ m : Nat, List.foldl (fun x1 x2 => x1 ++ x2) #[] (List.replicate m its.toArray) = (List.replicate m its).flatten.toArray := fun m => by
      have := foldl_rep its m []
      rw [List.nil_append] at this
      exact this
    rw [f0]
    cases its with
    | nil => simp
    | cons a r' => rw [if_neg (by simp)]
  refine wpAny_binaryOp_repeat_ref (T := "list") (U := "int") (by decide) ⟨_, e, rfl⟩ (fun s' => typeIs_int s' k t) noFill_list_mul F.fills_int_mul F.slot_int_rmul repeat_list F.slot_int_index.lookup
    (call_meets F.slot_int_rmul (typeIs_int s k t) F.entry_int_rmul (F.args_int_rmul_2 _ _) (int___rmul___int_list k t l its.toArray n)
      ⟨e, rfl, ⟨_, e, rfl⟩, call_meets F.slot_list_mul ⟨_, e, rfl⟩ F.entry_list_mul (F.args_list_mul_2 _ _) (AutoListH.list___mul___list_int_3 l its.toArray n k t hfit hcap hlong) ⟨e, ?_⟩⟩)
  rw [hnew]
  exact ⟨.ref _, _, I.lnew (t' := s.toks) (r.rep k.toNat) (by rw [len_rep, Nat.mul_comm]; exact hz), rfl, q _ I.fresh⟩
end
section
variable {prog : Program} {w : World} {A : Around} {E : Value → Shared → Prop} {s : Shared}
set_option maxRecDepth 100000 in
end
section
variable {X : Cx}
end
end L2
namespace L2
open PySem PySem.Spec PyProof.Rows
theorem Vals.ints : ∀ {ns : List Int} {us : List Value}, Vals (ns.map V.int) us → IntsAre us ns
  | [], us, h => by
    rw [List.map_nil] at h
    cases h
    exact IntsAre.nil
  | n :: ns, us, h => by
    rw [List.map_cons] at h
    cases h with
    | cons r t =>
      obtain ⟨k, rfl⟩ := r
      exact IntsAre.cons n k (Vals.ints t)
theorem Vals.ref1 {a : Addr} {us : List Value} (r : Vals [V.ref a] us) : us = [Value.ref a] := by
  cases r with
  | cons r t =>
    cases t
    cases r
    rfl
section
variable {prog : Program} {w : World} {A : Around} {E : Value → Shared → Prop} {s : Shared} {l : Addr} {its : List Value} {ns : List Int} {Q : Value → Shared → Prop}
theorem sum_raw (hh : A.handled = none) (hl : s.heap.IsList l its.toArray) (hi : IntsAre its ns)
    (h : ∀ h' tk t', (∀ b o, s.heap.get? b = some o → h'.get? b = some o) → Q (.int ns.sum t') { s with heap := h', toks := tk }) : wpAny (model prog w) A (call (.builtin "sum") [.ref l]) Q E s := by
  obtain ⟨xs, e⟩ := hi.allInts.items
  have hn : numsOf (intItems xs).toList = ns := by rw [← e]; exact hi.numsOf
  rw [nums_intItems] at hn
  rw [e] at hl
  refine PySem.sum_intListG hh hl fun h' tk t' hk => ?_
  have := h h' tk t' hk
  rw [preSum_eq, List.take_of_length_le (by simp), hn]; exact this
end
section
variable {X : Cx}
def rSum (K : PySem.W.Frag) : List V → Hp → VK → Prop := fun vs H Q => ∃ (a : Addr) (ns : List Int), vs = [V.ref a] ∧ SqL K H a (ns.map V.int) ∧ Q (.int ns.sum) H
theorem cr_sum (hc : X.calm = true) : CallR X (.builtin "sum") (rSum X.K) := by
  intro pins s σ H vs us Q I r h
  obtain ⟨a, ns, rfl, hs, q⟩ := h
  obtain ⟨its, rv, hl, _⟩ := I.list hs
  rw [Vals.ref1 r]
  exact sum_raw (I.ok.hd hc) hl.isList rv.ints fun h' tk t' hk => ⟨.int _, H, I.kept hk, ⟨_, rfl⟩, q⟩
end
section
variable {X : Cx}
end
section
variable {X : Cx}
end
section
variable {X : Cx}
end
section
variable {X : Cx} {pins : List (Addr × Obj)} {σ : St} {H : Hp} {s : Shared}
end
section
variable {X : Cx}
end
end L2
namespace L2
open PySem PySem.Spec PyProof.Rows
section
variable {X : Cx} {pins : List (Addr × Obj)} {σ : St} {H : Hp} {s : Shared}
end
section
variable {X : Cx}
end
end L2
namespace L2
open PySem PySem.Spec PyProof.Rows
section
variable {prog : Program} {w : World} {A : Around} {R : Result → Shared → Prop} {s : Shared} {elt t0 i0 t1 i1 : Expr} {ifs0 ifs1 : List Expr} {scope : Scope} {pos : Pos} {it acc : Value} {env : Env}
end
section
variable {X : Cx}
end
end L2
namespace L2
open PySem PySem.Spec PyProof.Rows
section
variable {κ : Type} [DecidableEq κ]
end
section
variable {P : Program} {w : World} {H : Hp} {h : Heap} {a : Addr}
end
section
variable {X : Cx} {pins : List (Addr × Obj)} {σ : St} {H : Hp} {s : Shared} {a : Addr} {y v : V} {u r : Value} {o : Option V} {A : Around} {E : Value → Shared → Prop}
end
section
variable {X : Cx} {pins : List (Addr × Obj)} {σ : St} {H : Hp} {s : Shared} {a : Addr} {kvs : List (Key × V)} {k : Key} {u : Value} {A : Around} {E : Value → Shared → Prop}
end
section
variable {X : Cx} {o i e value : Expr} {pos pos' tpos : Pos} {td ty tv : TE}
end
section
variable {X : Cx} {pos : Pos}
end
section
variable {X : Cx} {pins : List (Addr × Obj)} {σ : St} {H : Hp} {s : Shared} {a : Addr} {y d : V} {u r : Value} {o : Option V} {A : Around} {E : Value → Shared → Prop}
end
section
variable {X : Cx} {o e f : Expr} {apos cpos : Pos} {td ty tx : TE}
end
section
variable {X : Cx} {pins : List (Addr × Obj)} {σ : St} {H : Hp} {s : Shared} {a : Addr} {kvs : List (Key × V)} {A : Around} {E : Value → Shared → Prop}
end
section
variable {X : Cx} {pins : List (Addr × Obj)} {σ : St} {H : Hp} {s : Shared} {a : Addr} {y : V} {u : Value} {A : Around} {E : Value → Shared → Prop}
end
end L2
namespace L2
open PySem PySem.Spec PyProof.Rows
section
variable {prog : Program} {w : World} {A : Around} {E : Value → Shared → Prop}
end
section
variable {X : Cx}
end
end L2
namespace L2
open PySem PySem.Spec PyProof.Rows
section
variable {X : Cx} {pins : List (Addr × Obj)} {σ : St} {H : Hp} {s : Shared} {h' : Heap}
theorem Inv.lock {d : Addr} {u : HO} (I : Inv X pins σ H s) (h : H d = some u) (mu : Mut (some u)) : ∃ od, Inv X pins σ (upd H d (.frz od u)) s := by
  have x := I.hok d u h
  have ex : ∃ od, s.heap.get? d = some od := by
    cases u with
    | lst xs => obtain ⟨_, _, _, _, e⟩ := x; exact ⟨_, e⟩
    | dK kvs => obtain ⟨_, _, _, _, o, _, _, e, _⟩ := x; exact ⟨o, e⟩
    | dT kvs => obtain ⟨_, _, _, _, o, _, _, e, _⟩ := x; exact ⟨o, e⟩
    | set S n => obtain ⟨o, _, _, _, e, _⟩ := x; exact ⟨o, e⟩
    | ins C dx fs => obtain ⟨_, _, _, e, _⟩ := x; exact ⟨_, e⟩
    | ext φ => obtain ⟨_, ⟨_, e⟩, _⟩ := x; exact ⟨_, e⟩
    | _ => exact False.elim mu
  obtain ⟨od, e⟩ := ex
  have new : ObjOk X.prog X.w (upd H d (.frz od u)) s.heap d (.frz od u) := by
    refine ⟨e, x.stay (fun b v _ q => q) (fun b q => ?_) fun b xs q => ?_⟩
    · rw [upd_ne (fun z => by rw [z, h] at q; cases q; exact mu)]; exact q
    · rw [upd_ne (fun z => by rw [z, h] at q; cases q; exact mu)]; exact q
  exact ⟨od, I.write (x := d) (e := d) (t' := s.toks) (h' := s.heap) (by rw [h]; exact mu) (.inl rfl) (fun b v _ q => q) ⟨od, e⟩ new⟩
theorem Inv.nofrz {d : Addr} {u : HO} (I : Inv X pins σ H s) (h : H d = some u) (mu : Mut (some u)) : ∀ o' u', X.H_0 d ≠ some (.frz o' u') := fun o' u' e => by
  have q := I.base.frzs d o' u' e
  rw [h] at q
  cases q
  exact mu
theorem Inv.unlock {d : Addr} {od : Obj} {u : HO} (I : Inv X pins σ H s) (h : H d = some (.frz od u)) (hn : ∀ o' u', X.H_0 d ≠ some (.frz o' u')) : Inv X pins σ (upd H d u) s := by
  have neH : ∀ b o, H b = some o → (∀ o' u', o ≠ .frz o' u') → b ≠ d := fun b o e hne z => by
    rw [z, h] at e
    cases e
    exact hne _ _ rfl
  have neN : ∀ b, H b = none → b ≠ d := fun b e z => by rw [z, h] at e; cases e
  refine ⟨I.ok, I.os, I.bare, ⟨I.base.keep, I.base.slot, fun b o e n hx => ?_, I.base.there, fun b xs e => ?_, fun b o x e => ?_, fun b ps e => ?_⟩, I.loc, I.cell, ?_, fun x c e => ?_, fun p hp => ?_, fun b o e => ?_, I.len⟩
  · rw [upd_ne (neN b (I.base.free b o e n hx))]; exact I.base.free b o e n hx
  · have q := I.base.tups b xs e
    rw [upd_ne (neH b _ q (fun _ _ z => nomatch z))]; exact q
  · have q := I.base.frzs b o x e
    rw [upd_ne (fun z => by rw [z] at e; exact hn _ _ e)]; exact q
  · obtain ⟨m, q⟩ := I.base.tbls b ps e
    exact ⟨m, by rw [upd_ne (neH b _ q (fun _ _ z => nomatch z))]; exact q⟩
  · rw [upd_ne (neN _ I.free)]; exact I.free
  · rw [upd_ne (neN c (I.freeC x c e))]; exact I.freeC x c e
  · obtain ⟨e, n, r⟩ := I.pin p hp
    exact ⟨e, by rw [upd_ne (neN _ n)]; exact n, r⟩
  · by_cases hb : b = d
    · rw [hb, upd_same] at e
      cases e
      rw [hb]
      obtain ⟨_, x⟩ := I.hok d _ h
      exact x.stay (fun c v _ q => q) (fun c q => by rw [upd_ne (neH c _ q (fun _ _ z => nomatch z))]; exact q) fun c xs q => by rw [upd_ne (neH c _ q (fun _ _ z => nomatch z))]; exact q
    · rw [upd_ne hb] at e
      exact (I.hok b o e).stay (fun c v _ q => q) (fun c q => by rw [upd_ne (neH c _ q (fun _ _ z => nomatch z))]; exact q) fun c xs q => by rw [upd_ne (neH c _ q (fun _ _ z => nomatch z))]; exact q
end
def tLockE (t : TE) : TE := fun σ H Q => ∃ d u, H d = some u ∧ Mut (some u) ∧ ∀ od, t σ (upd H d (.frz od u)) fun v H' => H' d = some (.frz od u) ∧ Q v (upd H' d u)
section
variable {X : Cx}
theorem pe_lock {e : Expr} {t : TE} (h : PE X e t) : PE X e (tLockE t) := by
  intro pins s σ H Q I hw
  obtain ⟨d, u, hd, mu, hw⟩ := hw
  obtain ⟨od, I1⟩ := I.lock hd mu
  refine thn (h pins s σ _ _ I1 (hw od)) fun v s1 ⟨x, H1, I2, r, e2, q⟩ => ?_
  exact ⟨x, _, I2.unlock e2 (I.nofrz hd mu), r, q⟩
end
section
variable {X : Cx} {tg : Expr}
end
section
variable {X : Cx} {tg : Expr}
end
section
variable {prog : Program} {w : World} {A : Around} {E : Value → Shared → Prop} {s : Shared}
end
section
variable {X : Cx} {pins : List (Addr × Obj)} {σ : St} {H : Hp} {s : Shared} {d : Addr} {o : Obj}
end
section
variable {P : Program} {w : World} {K : PySem.W.Frag} {tg : Expr} {d : Addr} {o : Obj} {es : Array DictEntry} {ep : Nat}
end
section
variable {X : Cx} {tg e : Expr} {td : TE} {apos cpos : Pos}
end
end L2
section 
namespace Bits
open PySem PyProof.Rows
end Bits
end 
section 
namespace TL
open PySem PySem.Builtin PySem.Builtin.Str PySem.StrLaws
end TL
end 
namespace L2
open PySem PySem.Spec PyProof.Rows
section
variable {X : Cx} {pins : List (Addr × Obj)} {σ : St} {H : Hp} {s : Shared} {Q : VK}
end
section
variable {X : Cx}
end
section
variable {X : Cx} {o e : Expr} {to te : TE}
end
end L2
namespace L2
open PySem PySem.Spec PyProof.Rows
section
variable {X : Cx}
end
end L2
namespace Att
open PySem PySem.W PySem.Calls PyProof.Rows
section
variable {prog : Program} {w : World} {A : Around} {E : Value → Shared → Prop} {s : Shared} {K : Frag}
end
end Att
namespace L2
open PySem PySem.Spec PyProof.Rows
end L2
namespace L2
open PySem PySem.Spec PyProof.Rows
end L2
namespace L2
open PySem PySem.Spec PyProof.Rows
def inClass (s : Stmt) (j : Nat) : Stmt := match s with
  | .ClassDef _ _ _ body _ _ _ _ _ _ _ => body.getD j (.Pass ⟨0, 0, 0, 0⟩)
  | _ => .Pass ⟨0, 0, 0, 0⟩
def defArgs (s : Stmt) : Arguments := match s with
  | .FunctionDef _ a _ _ _ _ _ _ _ _ => a
  | _ => { posonlyargs := [], args := [], vararg := none, kwonlyargs := [], kw_defaults := [], kwarg := none, defaults := [] }
def defBody (s : Stmt) : List Stmt := match s with
  | .FunctionDef _ _ b _ _ _ _ _ _ _ => b
  | _ => []
def defScope (s : Stmt) : Scope := match s with
  | .FunctionDef _ _ _ _ _ _ sc _ _ _ => sc
  | _ => { kind := .function, names := [], isGenerator := false, isCoroutine := false }
abbrev CX0 : CXT := fun _ _ _ _ _ _ => False
abbrev E0 : XK := fun _ _ _ => False
theorem pass0 {X : Cx} : Passes CX0 X E0 := fun _ _ _ _ _ _ _ h => h.elim
structure Fun (K : PySem.W.Frag) (x qual : Str) (st : Stmt) (f : Addr) (fd : FuncData) : Prop where
  ex : ∃ (oc : Value) (od : Option Addr) (kV doc pm : Value) (an : Option Addr) (cdv ct : Value) (osl : Array (Option Value)),
    fd = PySem.W.fnOf x qual (defArgs st) (defBody st) (defScope st) .none kV doc pm an cdv ct ∧ K.lookup f = some ⟨oc, od, .func fd, osl⟩ ∧ PySem.W.codeIn K cdv qual = true
  kp : PySem.W.keepIn K (.ref f) = true
section
variable {P : Program} {w : World} {K : PySem.W.Frag} {mg : Str → Option Value} {base : Heap}
theorem Fun.ok {x qual : Str} {st : Stmt} {f : Addr} {fd : FuncData} {N ps : List Str} {k : Nat} {sp : Sp} (F : Fun K x qual st f fd) (S : FnScope N ps (defScope st)) (len : ∀ vs H Q E, sp vs H Q E → vs.length = ps.length)
    (hbody : ∀ (cdv : Value) (A : Around) (outer : List Env) (s : Shared) (H : Hp) (vs : List V) (Q : VK) (E : XK), Room k (A.deeper (envOfC qual (defScope st) s.heap.objs.size f cdv)) → sp vs H Q E →
      ∃ t, PSs (cxOf CX0 P w K mg base N qual (defScope st) f cdv A outer s H E).nox (defBody st) t ∧ t { nx := fun _ H' => Q .non H', rt := Q } (start N vs) H) : FnOk P w K mg base CX0 (k + 1) f fd ps sp := by
  obtain ⟨oc, od, kV, doc, pm, an, cdv, ct, osl, rfl, lk, hcd⟩ := F.ex
  refine fn_of lk hcd S len fun A outer s H vs Q E hr hsp => ?_
  obtain ⟨t, h, q⟩ := hbody cdv A outer s H vs Q E hr hsp
  exact ⟨t, h.nox, q⟩
theorem Fun.binds {x qual : Str} {st : Stmt} {f : Addr} {fd : FuncData} {ps : List Str} (F : Fun K x qual st f fd)
    (h : ∀ (kV doc pm : Value) (an : Option Addr) (cdv ct : Value) (us : List Value), us.length = ps.length → bindArgs (PySem.W.fnOf x qual (defArgs st) (defBody st) (defScope st) .none kV doc pm an cdv ct) ⟨us, []⟩ = pure (ps.zip us)) : Binds K fd ps [] := by
  obtain ⟨oc, od, kV, doc, pm, an, cdv, ct, osl, rfl, lk, hcd⟩ := F.ex
  exact .all (h kV doc pm an cdv ct)
theorem fun_mk {x qual : Str} {st : Stmt} {f : Addr} {oc : Value} {od an : Option Addr} {osl : Array (Option Value)} {kV doc pm cdv ct : Value} (l : K.lookup f = some ⟨oc, od, .func (PySem.W.fnOf x qual (defArgs st) (defBody st) (defScope st) .none kV doc pm an cdv ct), osl⟩)
    (c : PySem.W.codeIn K cdv qual = true) (k : PySem.W.keepIn K (.ref f) = true) : Fun K x qual st f (PySem.W.fnOf x qual (defArgs st) (defBody st) (defScope st) .none kV doc pm an cdv ct) := ⟨⟨oc, od, kV, doc, pm, an, cdv, ct, osl, rfl, l, c⟩, k⟩
end
section
variable {X : Cx}
theorem pv (i : Nat) {x : Str} {pos : Pos} (hN : X.N[i]? = some x := by rfl) (hv : Vis X.env.scope x := by first | exact Or.inl rfl | exact Or.inr (Or.inl rfl) | exact Or.inr (Or.inr rfl)) (hd : (x == ("__debug__" : Str)) = false := by decide)
    (hcd : (x == ("__classdict__" : Str)) = false := by decide) : PE X (.Name x pos) (tVar i) := pe_var hN hv hd hcd
end
theorem iteF {A B : Prop} (h : B) : if false = true then A else B := by
  rw [if_neg Bool.false_ne_true]
  exact h
theorem ite2 {c A B : Prop} [Decidable c] (h1 : c → A) (h2 : ¬ c → B) : if c then A else B := by
  by_cases h : c
  · rw [if_pos h]
    exact h1 h
  · rw [if_neg h]
    exact h2 h
def Same (H H' : Hp) : Prop := ∀ b o, H b = some o → H' b = some o
theorem Same.trans {H H1 H2 : Hp} (a : Same H H1) (b : Same H1 H2) : Same H H2 := fun c o h => b c o (a c o h)
theorem Same.free {H H' : Hp} (e : Same H H') {l : Addr} (h : H' l = Option.none) : H l = Option.none := by
  cases q : H l with
  | none => rfl
  | some o =>
    rw [e l o q] at h
    cases h
theorem Same.seq {K : PySem.W.Frag} {H H' : Hp} {a : Addr} {xs : List V} (e : Same H H') (h : SqL K H a xs) : SqL K H' a xs := by
  rcases h with (h | ⟨o, h⟩) | h
  · exact .inl (.inl (e _ _ h))
  · exact .inl (.inr ⟨o, e _ _ h⟩)
  · exact .inr h
section
variable {κ : Type} [DecidableEq κ]
end
theorem at_of {xs : List V} {z : Int} {j : Nat} {v : V} (e : z = (j : Int)) (h : xs[j]? = some v) : atI xs z = some v := by
  rw [e]
  exact atI_nat h
end L2
section
set_option Elab.async false
set_option linter.all false
set_option maxRecDepth 100000
set_option maxHeartbeats 2000000
namespace L2
open PySem PySem.Spec PyProof.Rows
open PySem.W (WData Codec OpenSpec Well WellAll ReadsW ReadsAllW)
mutual
/-- x stands for the datum d, lists and tuples all the way -/
inductive Dw (K : PySem.W.Frag) (H : Hp) : V → WData → Prop
  | non : Dw K H .non .none
  | bl (b : Bool) : Dw K H (.bl b) (.bool b)
  | int (i : Int) : Dw K H (.int i) (.int i)
  | str (x : Str) : Dw K H (.str x) (.str x)
  | byt (b : Array UInt8) : Dw K H (.byt b) (.bytes b.toList)
  | lst {a : Addr} {xs : List V} {ds : List WData} : SqL K H a xs → DwAll K H xs ds → Dw K H (.ref a) (.list ds)
  | tup {a : Addr} {xs : List V} {ds : List WData} : SqT K H a xs → DwAll K H xs ds → Dw K H (.ref a) (.tuple ds)
inductive DwAll (K : PySem.W.Frag) (H : Hp) : List V → List WData → Prop
  | nil : DwAll K H [] []
  | cons {v : V} {vs : List V} {d : WData} {ds : List WData} : Dw K H v d → DwAll K H vs ds → DwAll K H (v :: vs) (d :: ds)
end
theorem dw_ints {K : PySem.W.Frag} {H : Hp} : ∀ ns : List Int, DwAll K H (ns.map V.int) (ns.map WData.int)
  | [] => .nil
  | n :: r => .cons (.int n) (dw_ints r)
theorem ints_dw {K : PySem.W.Frag} {H : Hp} : ∀ (ns : List Int) (xs : List V), DwAll K H xs (ns.map WData.int) → xs = ns.map V.int
  | [], xs, h => by
    cases h
    rfl
  | n :: r, xs, h => by
    cases h with
    | cons h1 h2 =>
      cases h1
      rw [ints_dw r _ h2] <;> rfl
section
variable {P : Program} {w : World} {K : PySem.W.Frag} {H : Hp} {h : Heap} {R : PySem.W.WRecords} {cl : Str → Option Addr}
theorem sqL_at {a : Addr} {xs : List V} (hok : HOk P w H h) (KX : K.In h) (q : SqL K H a xs) : ∃ (its : List Value) (o : Obj) (n : Nat), Vals xs its ∧ h.get? a = some o ∧ o.cls = .type "list" ∧ o.data = .seq its.toArray n := by
  rcases q with q | ⟨o, its, n, e, hc, _, hd, _, hv⟩
  · obtain ⟨_, its, n, hv, e⟩ := (show ObjOk P w H h a (.lst xs) from q.ok hok)
    exact ⟨its, _, n, hv, e, rfl, rfl⟩
  · exact ⟨its.toList, o, n, hv, KX _ _ e, hc, by simp [hd]⟩
theorem sqT_at {a : Addr} {xs : List V} (hok : HOk P w H h) (KX : K.In h) (q : SqT K H a xs) : ∃ (its : List Value) (o : Obj) (n : Nat), Vals xs its ∧ h.get? a = some o ∧ o.cls = .type "tuple" ∧ o.data = .seq its.toArray n := by
  rcases q with q | ⟨o, its, n, e, hc, hd, _, hv⟩
  · obtain ⟨_, its, hv, o, e, hc, n, hd⟩ := (show ObjOk P w H h a (.tup xs) from q.ok hok)
    exact ⟨its, o, n, hv, e, hc, hd⟩
  · exact ⟨its.toList, o, n, hv, KX _ _ e, hc, by simp [hd]⟩
mutual
theorem Dw.reads (hok : HOk P w H h) (KX : K.In h) : ∀ (d : WData) (v : V) (u : Value), Dw K H v d → RelV v u → ∃ as, ReadsW R cl h u d as
  | .none, _, _, x, r => by
    cases x
    cases r
    exact ⟨_, ReadsW.none⟩
  | .bool b, _, _, x, r => by
    cases x
    cases r
    exact ⟨_, ReadsW.bool b⟩
  | .int i, _, _, x, r => by
    cases x
    obtain ⟨t, rfl⟩ := r
    exact ⟨_, ReadsW.int i t⟩
  | .str s, _, _, x, r => by
    cases x
    obtain ⟨t, rfl⟩ := r
    exact ⟨_, ReadsW.str s t⟩
  | .bytes b, _, _, x, r => by
    cases x
    obtain ⟨t, rfl⟩ := r
    exact ⟨_, ReadsW.bytes _ t⟩
  | .list ds, _, _, x, r => by
    cases x with
    | lst hs ha =>
      cases r
      obtain ⟨its, o, n, rv, ho, hc, hd⟩ := sqL_at hok KX hs
      obtain ⟨as, hr⟩ := Dw.readsAll hok KX ds _ its ha rv
      exact ⟨_, ReadsW.list ho hc hd hr⟩
  | .tuple ds, _, _, x, r => by
    cases x with
    | tup hs ha =>
      cases r
      obtain ⟨its, o, n, rv, ho, hc, hd⟩ := sqT_at hok KX hs
      obtain ⟨as, hr⟩ := Dw.readsAll hok KX ds _ its ha rv
      exact ⟨_, ReadsW.tuple ho hc hd hr⟩
  | .float _, _, _, x, _ => by cases x
  | .dict _, _, _, x, _ => by cases x
  | .bytearray _, _, _, x, _ => by cases x
  | .set _, _, _, x, _ => by cases x
  | .frozenset _, _, _, x, _ => by cases x
  | .obj _ _, _, _, x, _ => by cases x
theorem Dw.readsAll (hok : HOk P w H h) (KX : K.In h) : ∀ (ds : List WData) (vs : List V) (us : List Value), DwAll K H vs ds → Vals vs us → ∃ as, ReadsAllW R cl h us ds as
  | [], _, _, x, r => by
    cases x
    cases r
    exact ⟨_, ReadsAllW.nil⟩
  | d :: ds, _, _, x, r => by
    cases x with
    | cons h1 h2 =>
      cases r with
      | cons r1 r2 =>
        obtain ⟨as, q1⟩ := Dw.reads hok KX d _ _ h1 r1
        obtain ⟨bs, q2⟩ := Dw.readsAll hok KX ds _ _ h2 r2
        exact ⟨_, ReadsAllW.cons q1 q2⟩
end
end
mutual
/-- data that a codec tells -/
def plW : WData → Bool
  | .none => true
  | .bool _ => true
  | .int _ => true
  | .str _ => true
  | .bytes _ => true
  | .list xs => plWs xs
  | .tuple xs => plWs xs
  | _ => false
def plWs : List WData → Bool
  | [] => true
  | x :: r => plW x && plWs r
end
theorem plWs_map {α : Type} {f : α → WData} (h : ∀ a, plW (f a) = true) : ∀ l : List α, plWs (l.map f) = true
  | [] => rfl
  | x :: r => by
    show (plW (f x) && plWs (r.map f)) = true
    rw [h x, plWs_map h r] <;> rfl
theorem pl_enc : ∀ (c : Codec) (a : c.denote), plW (c.enc a) = true
  | .unit, _ => rfl
  | .bool, _ => rfl
  | .int _ _, _ => rfl
  | .nat _ _, _ => rfl
  | .u8, _ => rfl
  | .bytes _ _, _ => rfl
  | .text _ _ _ _, _ => rfl
  | .list _ _ c, a => plWs_map (fun x => pl_enc c x) a
  | .pair c d, a => by
    show (plW (c.enc a.1) && (plW (d.enc a.2) && true)) = true
    rw [pl_enc c a.1, pl_enc d a.2] <;> rfl
  | .triple c d e, a => by
    show (plW (c.enc a.1) && (plW (d.enc a.2.1) && (plW (e.enc a.2.2) && true))) = true
    rw [pl_enc c a.1, pl_enc d a.2.1, pl_enc e a.2.2] <;> rfl
  | .option c, none => rfl
  | .option c, some x => pl_enc c x
theorem pl_encAll : ∀ (cs : List Codec) (a : Codec.denoteAll cs), plWs (Codec.encAll cs a) = true
  | [], _ => rfl
  | c :: cs, a => by
    show (plW (c.enc a.1) && plWs (Codec.encAll cs a.2)) = true
    rw [pl_enc c a.1, pl_encAll cs a.2] <;> rfl
theorem weight_mem : ∀ {xs : List WData} {d : WData}, d ∈ xs → d.weight ≤ WData.weightAll xs
  | [], d, h => absurd h (by simp)
  | x :: r, d, h => by
    show d.weight ≤ x.weight + 1 + WData.weightAll r
    rcases List.mem_cons.mp h with e | m
    · rw [e]
      omega
    · have z := weight_mem m
      omega
def toV : Value → V
  | .none => .non
  | .bool b => .bl b
  | .int i _ => .int i
  | .str x _ => .str x
  | .bytes b _ => .byt b
  | .ref a => .ref a
  | _ => .non
def OkU (A : List Addr) : Value → Prop
  | .none => True
  | .bool _ => True
  | .int _ _ => True
  | .str _ _ => True
  | .bytes _ _ => True
  | .ref a => a ∈ A
  | _ => False
theorem OkU.mono {A B : List Addr} (h : ∀ a ∈ A, a ∈ B) : ∀ {u : Value}, OkU A u → OkU B u := fun {u} x => by
  cases u with
  | ref a => exact h a x
  | none => trivial
  | bool b => trivial
  | int i t => trivial
  | str s t => trivial
  | bytes b t => trivial
  | _ => exact False.elim x
theorem relV_toV {A : List Addr} {u : Value} (x : OkU A u) : RelV (toV u) u := by
  cases u with
  | ref a => rfl
  | none => rfl
  | bool b => rfl
  | int i t => exact ⟨t, rfl⟩
  | str s t => exact ⟨t, rfl⟩
  | bytes b t => exact ⟨t, rfl⟩
  | _ => exact False.elim x
theorem vals_toV {A : List Addr} : ∀ {vs : List Value}, (∀ u ∈ vs, OkU A u) → Vals (vs.map toV) vs
  | [], _ => .nil
  | u :: r, h => .cons (relV_toV (h u (List.mem_cons_self ..))) (vals_toV fun x hx => h x (List.mem_cons_of_mem _ hx))
def ArgOb (h : Heap) (A : List Addr) (a : Addr) : Prop := ∃ vs : List Value, vs.length ≤ sizeLine ∧ (∀ u ∈ vs, OkU A u) ∧
  (h.get? a = some { cls := .type "list", data := .seq vs.toArray } ∨ h.get? a = some { cls := .type "tuple", data := .seq vs.toArray })
theorem ArgOb.mono {h : Heap} {A B : List Addr} {a : Addr} (k : ∀ a ∈ A, a ∈ B) (x : ArgOb h A a) : ArgOb h B a := by
  obtain ⟨vs, h1, h2, h3⟩ := x
  exact ⟨vs, h1, fun u hu => (h2 u hu).mono k, h3⟩
theorem wellAll_len {P : Params} {h : Heap} : ∀ {vs : List Value} {ds : List WData}, WellAll P h vs ds → vs.length = ds.length
  | _, _, .nil => rfl
  | _, _, .cons _ b => by
    show _ + 1 = _ + 1
    rw [wellAll_len b]
theorem well_list {P : Params} {h : Heap} {v : Value} {ds : List WData} (x : Well P h v (.list ds)) : ∃ (a : Addr) (vs : List Value), v = .ref a ∧ h.get? a = some { cls := .type "list", data := .seq vs.toArray } ∧ WellAll P h vs ds := by
  cases x with
  | list ho hall => exact ⟨_, _, rfl, ho, hall⟩
theorem well_tuple {P : Params} {h : Heap} {v : Value} {ds : List WData} (x : Well P h v (.tuple ds)) : ∃ (a : Addr) (vs : List Value), v = .ref a ∧ h.get? a = some { cls := .type "tuple", data := .seq vs.toArray } ∧ WellAll P h vs ds := by
  cases x with
  | tuple ho hall => exact ⟨_, _, rfl, ho, hall⟩
theorem well_cons {P : Params} {h : Heap} {us : List Value} {d : WData} {ds : List WData} (x : WellAll P h us (d :: ds)) : ∃ (v : Value) (vs : List Value), us = v :: vs ∧ Well P h v d ∧ WellAll P h vs ds := by
  cases x with
  | cons a b => exact ⟨_, _, rfl, a, b⟩
theorem line_of {n : Nat} (h : n ≤ 1048576) : n ≤ sizeLine := Nat.le_trans h (by decide)
section
variable {P : Params} {h : Heap}
mutual
theorem area_one : ∀ (d : WData) (v : Value), Well P h v d → plW d = true → d.weight ≤ 1048576 → ∃ A : List Addr, OkU A v ∧ ∀ a ∈ A, ArgOb h A a
  | .none, _, x, _, _ => by
    cases x
    exact ⟨[], trivial, fun a m => absurd m (by simp)⟩
  | .bool b, _, x, _, _ => by
    cases x
    exact ⟨[], trivial, fun a m => absurd m (by simp)⟩
  | .int i, _, x, _, _ => by
    cases x
    exact ⟨[], trivial, fun a m => absurd m (by simp)⟩
  | .str s, _, x, _, _ => by
    cases x
    exact ⟨[], trivial, fun a m => absurd m (by simp)⟩
  | .bytes b, _, x, _, _ => by
    cases x
    exact ⟨[], trivial, fun a m => absurd m (by simp)⟩
  | .list ds, _, x, p, z => by
    obtain ⟨a, vs, rfl, ho, hall⟩ := well_list x
    have z2 : WData.weightAll ds ≤ 1048576 := z
    obtain ⟨A, h1, h2⟩ := area_all ds _ hall p fun d hd => Nat.le_trans (weight_mem hd) z2
    have k : ∀ b ∈ A, b ∈ a :: A := fun b hb => List.mem_cons_of_mem _ hb
    refine ⟨a :: A, List.mem_cons_self .., fun b hb => ?_⟩
    rcases List.mem_cons.mp hb with e | m
    · rw [e]
      exact ⟨vs, line_of (by rw [wellAll_len hall]; exact Nat.le_trans (PySem.W.length_le_weightAllW ds) z2), fun u hu => (h1 u hu).mono k, .inl ho⟩
    · exact (h2 b m).mono k
  | .tuple ds, _, x, p, z => by
    obtain ⟨a, vs, rfl, ho, hall⟩ := well_tuple x
    have z2 : WData.weightAll ds ≤ 1048576 := z
    obtain ⟨A, h1, h2⟩ := area_all ds _ hall p fun d hd => Nat.le_trans (weight_mem hd) z2
    have k : ∀ b ∈ A, b ∈ a :: A := fun b hb => List.mem_cons_of_mem _ hb
    refine ⟨a :: A, List.mem_cons_self .., fun b hb => ?_⟩
    rcases List.mem_cons.mp hb with e | m
    · rw [e]
      exact ⟨vs, line_of (by rw [wellAll_len hall]; exact Nat.le_trans (PySem.W.length_le_weightAllW ds) z2), fun u hu => (h1 u hu).mono k, .inr ho⟩
    · exact (h2 b m).mono k
  | .float _, _, _, p, _ => Bool.noConfusion (show false = true from p)
  | .dict _, _, _, p, _ => Bool.noConfusion (show false = true from p)
  | .bytearray _, _, _, p, _ => Bool.noConfusion (show false = true from p)
  | .set _, _, _, p, _ => Bool.noConfusion (show false = true from p)
  | .frozenset _, _, _, p, _ => Bool.noConfusion (show false = true from p)
  | .obj _ _, _, _, p, _ => Bool.noConfusion (show false = true from p)
theorem area_all : ∀ (ds : List WData) (vs : List Value), WellAll P h vs ds → plWs ds = true → (∀ d ∈ ds, d.weight ≤ 1048576) → ∃ A : List Addr, (∀ u ∈ vs, OkU A u) ∧ ∀ a ∈ A, ArgOb h A a
  | [], _, x, _, _ => by
    cases x
    exact ⟨[], fun u m => absurd m (by simp), fun a m => absurd m (by simp)⟩
  | d :: ds, _, x, p, z => by
    obtain ⟨v, vs, rfl, x1, x2⟩ := well_cons x
    have q : plW d = true ∧ plWs ds = true := Bool.and_eq_true_iff.mp p
    obtain ⟨A, a1, a2⟩ := area_one d v x1 q.1 (z d (List.mem_cons_self ..))
    obtain ⟨B, b1, b2⟩ := area_all ds vs x2 q.2 fun e he => z e (List.mem_cons_of_mem _ he)
    have kA : ∀ b ∈ A, b ∈ A ++ B := fun b hb => List.mem_append.mpr (.inl hb)
    have kB : ∀ b ∈ B, b ∈ A ++ B := fun b hb => List.mem_append.mpr (.inr hb)
    refine ⟨A ++ B, fun u hu => ?_, fun b hb => ?_⟩
    · rcases List.mem_cons.mp hu with e | m
      · rw [e]
        exact a1.mono kA
      · exact (b1 u m).mono kB
    · rcases List.mem_append.mp hb with m | m
      · exact (a2 b m).mono kA
      · exact (b2 b m).mono kB
end
end
def hoOf (o : Obj) : Option HO := match o.data with
  | .seq vs _ => if (o.cls == Value.type "list") = true then some (.frz o (.lst (vs.toList.map toV))) else some (.frz o (.tup (vs.toList.map toV)))
  | _ => none
def argH (K : PySem.W.Frag) (h : Heap) (A : List Addr) : Hp := fun b => if b ∈ A then (if (K.lookup b).isNone = true then (h.get? b).bind hoOf else none) else none
def OnlyF (H : Hp) : Prop := ∀ b, H b = none ∨ ∃ o u, H b = some (.frz o u)
theorem hoOf_lst (vs : List Value) : hoOf { cls := .type "list", data := .seq vs.toArray } = some (.frz { cls := .type "list", data := .seq vs.toArray } (.lst (vs.map toV))) := by
  show (if (Value.type "list" == Value.type "list") = true then some (HO.frz { cls := .type "list", data := .seq vs.toArray } (.lst (vs.toArray.toList.map toV))) else some (HO.frz { cls := .type "list", data := .seq vs.toArray } (.tup (vs.toArray.toList.map toV)))) = _
  rw [if_pos (beq_self_eq_true _)]
theorem hoOf_tup (vs : List Value) : hoOf { cls := .type "tuple", data := .seq vs.toArray } = some (.frz { cls := .type "tuple", data := .seq vs.toArray } (.tup (vs.map toV))) := by
  show (if (Value.type "tuple" == Value.type "list") = true then some (HO.frz { cls := .type "tuple", data := .seq vs.toArray } (.lst (vs.toArray.toList.map toV))) else some (HO.frz { cls := .type "tuple", data := .seq vs.toArray } (.tup (vs.toArray.toList.map toV)))) = _
  rw [if_neg (by decide)]
section
variable {P : Program} {w : World} {K : PySem.W.Frag} {h : Heap} {A : List Addr}
theorem argH_at {b : Addr} {o : Obj} (hb : b ∈ A) (hk : K.lookup b = none) (e : h.get? b = some o) : argH K h A b = hoOf o := by
  unfold argH
  rw [if_pos hb, hk, if_pos (show (none : Option Obj).isNone = true from rfl), e] <;> rfl
theorem of_argH {b : Addr} {u : HO} (q : argH K h A b = some u) : b ∈ A ∧ K.lookup b = none := by
  unfold argH at q
  by_cases hb : b ∈ A
  · rw [if_pos hb] at q
    cases hk : K.lookup b with
    | none => exact ⟨hb, rfl⟩
    | some o =>
      rw [hk, if_neg (by simp)] at q
      cases q
  · rw [if_neg hb] at q
    cases q
theorem argH_is (ar : ∀ a ∈ A, ArgOb h A a) {b : Addr} {u : HO} (q : argH K h A b = some u) : K.lookup b = none ∧ ∃ vs : List Value, vs.length ≤ sizeLine ∧ (∀ u ∈ vs, OkU A u) ∧
    ((h.get? b = some { cls := .type "list", data := .seq vs.toArray } ∧ u = .frz { cls := .type "list", data := .seq vs.toArray } (.lst (vs.map toV))) ∨
     (h.get? b = some { cls := .type "tuple", data := .seq vs.toArray } ∧ u = .frz { cls := .type "tuple", data := .seq vs.toArray } (.tup (vs.map toV)))) := by
  obtain ⟨hb, hk⟩ := of_argH q
  obtain ⟨vs, h1, h2, h3⟩ := ar b hb
  refine ⟨hk, vs, h1, h2, ?_⟩
  rcases h3 with e | e
  · rw [argH_at hb hk e, hoOf_lst] at q
    exact .inl ⟨e, (Option.some.inj q).symm⟩
  · rw [argH_at hb hk e, hoOf_tup] at q
    exact .inr ⟨e, (Option.some.inj q).symm⟩
theorem argH_only (ar : ∀ a ∈ A, ArgOb h A a) : OnlyF (argH K h A) := fun b => by
  cases q : argH K h A b with
  | none => exact .inl rfl
  | some u =>
    obtain ⟨_, vs, _, _, ⟨_, e⟩ | ⟨_, e⟩⟩ := argH_is ar q
    · exact .inr ⟨_, _, by rw [e]⟩
    · exact .inr ⟨_, _, by rw [e]⟩
theorem argH_ok (ar : ∀ a ∈ A, ArgOb h A a) : HOk P w (argH K h A) h := fun b u q => by
  obtain ⟨_, vs, h1, h2, ⟨e, rfl⟩ | ⟨e, rfl⟩⟩ := argH_is ar q
  · exact ⟨e, by rw [List.length_map]; exact h1, vs, _, vals_toV h2, e⟩
  · exact ⟨e, by rw [List.length_map]; exact h1, vs, vals_toV h2, _, e, rfl, _, rfl⟩
theorem seq_inj {c c' : Value} {vs us : List Value} (e : (some { cls := c, data := .seq vs.toArray } : Option Obj) = some { cls := c', data := .seq us.toArray }) : c = c' ∧ vs = us := by
  have e1 := Option.some.inj e
  have e2 : c = c' := congrArg Obj.cls e1
  have e3 : Data.seq vs.toArray = Data.seq us.toArray := congrArg Obj.data e1
  injection e3 with e4
  refine ⟨e2, ?_⟩
  have e5 := congrArg Array.toList e4
  simpa using e5
theorem argL (KX : K.In h) (ar : ∀ a ∈ A, ArgOb h A a) {a : Addr} {vs : List Value} (ha : a ∈ A) (e : h.get? a = some { cls := .type "list", data := .seq vs.toArray }) : (∀ u ∈ vs, OkU A u) ∧ SqL K (argH K h A) a (vs.map toV) := by
  obtain ⟨us, h1, h2, h3⟩ := ar a ha
  have hu : us = vs := by
    rcases h3 with q | q
    · rw [e] at q
      exact (seq_inj q).2.symm
    · rw [e] at q
      exact absurd (Value.type.inj (seq_inj q).1) (by decide)
  subst hu
  refine ⟨h2, ?_⟩
  cases hk : K.lookup a with
  | none => exact .inl (.inr ⟨_, by rw [argH_at ha hk e, hoOf_lst]⟩)
  | some o =>
    have e2 := KX a o hk
    rw [e] at e2
    obtain rfl := Option.some.inj e2
    exact .inr ⟨_, us.toArray, _, hk, rfl, rfl, rfl, by rw [List.size_toArray]; exact h1, by simpa using vals_toV h2⟩
theorem argT (KX : K.In h) (ar : ∀ a ∈ A, ArgOb h A a) {a : Addr} {vs : List Value} (ha : a ∈ A) (e : h.get? a = some { cls := .type "tuple", data := .seq vs.toArray }) : (∀ u ∈ vs, OkU A u) ∧ SqT K (argH K h A) a (vs.map toV) := by
  obtain ⟨us, h1, h2, h3⟩ := ar a ha
  have hu : us = vs := by
    rcases h3 with q | q
    · rw [e] at q
      exact absurd (Value.type.inj (seq_inj q).1) (by decide)
    · rw [e] at q
      exact (seq_inj q).2.symm
  subst hu
  refine ⟨h2, ?_⟩
  cases hk : K.lookup a with
  | none => exact .inl (.inr ⟨_, by rw [argH_at ha hk e, hoOf_tup]⟩)
  | some o =>
    have e2 := KX a o hk
    rw [e] at e2
    obtain rfl := Option.some.inj e2
    exact .inr ⟨_, us.toArray, _, hk, rfl, rfl, by rw [List.size_toArray]; exact h1, by simpa using vals_toV h2⟩
mutual
theorem dw_one {Pm : Params} (KX : K.In h) (ar : ∀ a ∈ A, ArgOb h A a) : ∀ (d : WData) (v : Value), Well Pm h v d → plW d = true → OkU A v → Dw K (argH K h A) (toV v) d
  | .none, _, x, _, _ => by
    cases x
    exact .non
  | .bool b, _, x, _, _ => by
    cases x
    exact .bl b
  | .int i, _, x, _, _ => by
    cases x
    exact .int i
  | .str s, _, x, _, _ => by
    cases x
    exact .str s
  | .bytes b, _, x, _, _ => by
    cases x
    have z := Dw.byt (K := K) (H := argH K h A) b.toArray
    exact z
  | .list ds, _, x, p, hu => by
    obtain ⟨a, vs, rfl, ho, hall⟩ := well_list x
    obtain ⟨h2, hs⟩ := argL KX ar hu ho
    exact .lst hs (dw_all KX ar ds _ hall p h2)
  | .tuple ds, _, x, p, hu => by
    obtain ⟨a, vs, rfl, ho, hall⟩ := well_tuple x
    obtain ⟨h2, hs⟩ := argT KX ar hu ho
    exact .tup hs (dw_all KX ar ds _ hall p h2)
  | .float _, _, _, p, _ => Bool.noConfusion (show false = true from p)
  | .dict _, _, _, p, _ => Bool.noConfusion (show false = true from p)
  | .bytearray _, _, _, p, _ => Bool.noConfusion (show false = true from p)
  | .set _, _, _, p, _ => Bool.noConfusion (show false = true from p)
  | .frozenset _, _, _, p, _ => Bool.noConfusion (show false = true from p)
  | .obj _ _, _, _, p, _ => Bool.noConfusion (show false = true from p)
theorem dw_all {Pm : Params} (KX : K.In h) (ar : ∀ a ∈ A, ArgOb h A a) : ∀ (ds : List WData) (vs : List Value), WellAll Pm h vs ds → plWs ds = true → (∀ u ∈ vs, OkU A u) → DwAll K (argH K h A) (vs.map toV) ds
  | [], _, x, _, _ => by
    cases x
    exact .nil
  | d :: ds, _, x, p, hu => by
    obtain ⟨v, vs, rfl, x1, x2⟩ := well_cons x
    have q : plW d = true ∧ plWs ds = true := Bool.and_eq_true_iff.mp p
    exact .cons (dw_one KX ar d v x1 q.1 (hu _ (List.mem_cons_self ..))) (dw_all KX ar ds vs x2 q.2 fun u m => hu u (List.mem_cons_of_mem _ m))
end
end
theorem spec_call {P : Program} {w : World} {K : PySem.W.Frag} {mg mb : Str → Option Value} {CX : CXT} {k : Nat} {fa : Addr} {fd : FuncData} {ps : List Str} {sp : Sp} {s₁ : Shared} {vals : List Value} {ds : List WData} {R : PySem.W.WRecords} {cl : Str → Option Addr} {d0 : WData}
    (KX : K.In s₁.heap) (hns : s₁.heap.Ns mainGlobals mg) (hb : s₁.heap.Ns builtinsNs mb) (hbb : ∀ x : Str, x ≠ "__name__" → mb x = bootBuiltins x) (hlim : s₁.heap.NoLimit) (hg : s₁.gens = #[])
    (hwl : WellAll w.params s₁.heap vals ds) (hpl : plWs ds = true) (hwt : ∀ d ∈ ds, d.weight ≤ 1048576) (hr : Room k callerA)
    (F : ∀ base : Heap, K.In base → base.Ns mainGlobals mg → FnOk P w K mg base CX k fa fd ps sp) (hbind : ∀ (s : Shared) (us : List Value), us.length = ps.length → BindsTo s fd ⟨us, []⟩ (ps.zip us)) (hlen : ds.length = ps.length)
    (hsp : ∀ (H : Hp) (xs : List V), OnlyF H → DwAll K H xs ds → sp xs H (fun v H' => Dw K H' v d0) fun _ _ _ => False)
    (hCX : ∀ H e s', CX [] H s₁ (fun _ _ _ => False) e s' → False) :
    codeAny (model P w) callerA (.call (.ref fa) ⟨vals, []⟩) (fun r s' => ∃ u as, r = .ok (.ret u) ∧ ReadsW R cl s'.heap u d0 as ∧ OldK s₁.heap s'.heap ∧ s'.os = s₁.os ∧ AllBare s'.gens) s₁ := by
  obtain ⟨A, ho, ar⟩ := area_all ds vals hwl hpl hwt
  have hO : OnlyF (argH K s₁.heap A) := argH_only ar
  have hok : HOk P w (argH K s₁.heap A) s₁.heap := argH_ok ar
  have hS := dw_all KX ar ds vals hwl hpl ho
  have hV := vals_toV ho
  have hK : ∀ b u, argH K s₁.heap A b = some u → K.lookup b = none := fun b u q => (argH_is ar q).1
  have noA : ∀ {b : Addr} {o : Obj} {es : Array DictEntry} {ep : Nat}, s₁.heap.get? b = some o → o.data = .dict es ep → argH K s₁.heap A b = none := fun {b o es ep} e d => by
    cases q : argH K s₁.heap A b with
    | none => rfl
    | some u =>
      obtain ⟨_, vs, _, _, ⟨e2, _⟩ | ⟨e2, _⟩⟩ := argH_is ar q
      · rw [e2] at e
        cases e
        have d' : Data.seq vs.toArray _ = Data.dict es ep := d
        cases d'
      · rw [e2] at e
        cases e
        have d' : Data.seq vs.toArray _ = Data.dict es ep := d
        cases d'
  generalize argH K s₁.heap A = H at hO hok hS hK noA
  have base_of : ∀ {b : Addr} {o : Obj}, s₁.heap.get? b = some o → H b = none → (hidT s₁.heap H).get? b = some o := fun e n => hidT_get e n
  have nsK : ∀ {b : Addr} {m : Str → Option Value}, s₁.heap.Ns b m → (hidT s₁.heap H).Ns b m := fun {b m} ⟨o, es, ep, e, d, r⟩ => ⟨o, es, ep, base_of e (noA e d), d, r⟩
  have nK : ∀ b o, K.lookup b = some o → H b = none := fun b o e => by
    cases q : H b with
    | none => rfl
    | some u =>
      rw [hK b u q] at e
      cases e
  have hKb : K.In (hidT s₁.heap H) := fun b o e => base_of (KX b o e) (nK b o e)
  have hM : Mod K mg (hidT s₁.heap H) := ⟨hKb, nsK hns, ⟨mb, nsK hb, hbb⟩, let ⟨mc, h1, h2⟩ := hlim; ⟨mc, nsK h1, h2⟩⟩
  have e0 : Env0 P w K mg (hidT s₁.heap H) callerA [] s₁ H := ⟨rfl, hM, fun b o e => of_hidT e, Nat.le_of_eq (hidT_size _ _), trivial, fun b hb => absurd (show b ∈ ([] : List Addr) from hb) (by simp), hok, .of_eq hg⟩
  have hl : vals.length = ps.length := by rw [wellAll_len hwl]; exact hlen
  refine codeAny_mono ((F _ hKb (nsK hns)).run callerA [] s₁ H ⟨vals, []⟩ vals (vals.map toV) _ _ hr e0 (hbind s₁ vals hl) hV (hsp H _ hO hS)) fun r s' x => ?_
  cases r with
  | error e => exact (hCX H e s' x).elim
  | ok fl =>
    cases fl with
    | next => exact False.elim x
    | brk => exact False.elim x
    | cont => exact False.elim x
    | ret u =>
      obtain ⟨v, H', os, bare, un, hok', r', q⟩ := x
      have kept : ∀ b o, s₁.heap.get? b = some o → s'.heap.get? b = some o := fun b o e => by
        cases q2 : H b with
        | none => exact un.keep b o e q2 (by intro z; exact absurd (show b ∈ ([] : List Addr) from z) (by simp)) (by simp)
        | some u2 =>
          rcases hO b with z | ⟨ob, u3, z⟩
          · rw [q2] at z
            cases z
          · have z2 := un.frzs b ob _ z
            obtain ⟨e1, _⟩ := hok b _ z
            obtain ⟨e2, _⟩ := hok' b _ z2
            rw [e] at e1
            cases e1
            exact e2
      have KX' : K.In s'.heap := fun b o e => kept b o (KX b o e)
      obtain ⟨as, hrd⟩ := Dw.reads (R := R) (cl := cl) hok' KX' d0 v u q r'
      exact ⟨u, as, rfl, hrd, OldK.of_keep kept, os, bare⟩
theorem layable_weight {ds : List WData} (h : WData.layableAll ds = true) : ∀ d ∈ ds, d.weight ≤ 1048576 := fun d hd =>
  (PySem.W.layableW_iff.mp (List.all_eq_true.mp h d hd)).2.2
theorem encAll_len : ∀ (cs : List Codec) (a : Codec.denoteAll cs), (Codec.encAll cs a).length = cs.length
  | [], _ => rfl
  | c :: cs, a => by
    show (Codec.encAll cs a.2).length + 1 = cs.length + 1
    rw [encAll_len cs a.2]
theorem walk_spec {r : OpenSpec} {k : Nat} {q : Program} {loose : List Str} {XP : (Str → Option Value) → Heap → Prop} {YP : World → Heap → Prop} {d : DefRec} {K : Params → PySem.W.Frag} {CX : World → CXT} {ps : List Str} {sp : World → Sp}
    (hwell : r.wellSaid = true) (hdf : d.params.defaults = []) (hlen : r.args.length = ps.length) (hr : Room k callerA)
    (hY : ∀ (w : World) (h : Heap), YP w h → (K w.params).In h)
    (F : ∀ (w : World) (mg : Str → Option Value) (fa : Addr) (h : Heap), YP w h → (K w.params).In h → h.Ns mainGlobals mg → mg d.name = some (.ref fa) →
      ∃ fd : FuncData, (∀ (s : Shared) (us : List Value), us.length = ps.length → BindsTo s fd ⟨us, []⟩ (ps.zip us)) ∧
        ∀ base : Heap, (K w.params).In base → base.Ns mainGlobals mg → FnOk r.prog w (K w.params) mg base (CX w) k fa fd ps (sp w))
    (hsp : ∀ (w : World) (H : Hp) (xs : List V) (a : Codec.denoteAll r.args), OnlyF H → Codec.withinAll r.args a = true → Codec.app r.args r.asked a = true → DwAll (K w.params) H xs (Codec.encAll r.args a) →
      sp w xs H (fun v H' => Dw (K w.params) H' v (r.ret.enc (Codec.app r.args r.f a))) fun _ _ _ => False)
    (hCX : ∀ (w : World) (H : Hp) (s : Shared) (e : Value) (s' : Shared), CX w [] H s (fun _ _ _ => False) e s' → False) :
    PySem.W.WalkOS q loose XP YP r d [] (fun f vs => PySem.call f vs) := by
  intro w s_0 s₁ mg mb G Y fa o pm cd doc dV kV ho hd hcd hD hmg hg args vals as hpre hlay hrd hwl hlo
  obtain ⟨a, e1, e2⟩ := PySem.W.os_pre_some hpre
  obtain ⟨e3, hwi⟩ := Codec.encAll_of_decAll r.args args a e1
  subst e3
  have KX := hY w _ Y
  obtain ⟨fd, hb, hF⟩ := F w mg fa _ Y KX G.T.g hmg
  refine PySem.W.enter_call (codeAny_mono (spec_call (R := []) (cl := classAt s_0.heap) (d0 := r.ret.enc (Codec.app r.args r.f a)) KX G.T.g G.T.b G.T.builtins G.T.nolimit hg hwl (pl_encAll _ _) (layable_weight hlay) hr hF hb (by rw [encAll_len]; exact hlen)
    (fun H xs hO hS => hsp w H xs a hO hwi e2 hS) fun H e s' => hCX w H s₁ e s') fun r' s' hq => ?_)
  obtain ⟨u, as', rfl, h1, h2, h3, h4⟩ := hq
  exact ⟨.inl ⟨u, _, as', rfl, fun _ => rfl, h1, (OpenSpec.post_iff hwell hwi _ _).mpr rfl, fun z => Bool.noConfusion (show false = true from z)⟩, h2, h3, h4⟩
theorem walk_specK {r : OpenSpec} {k : Nat} {q : Program} {loose : List Str} {XP : (Str → Option Value) → Heap → Prop} {YP : World → Heap → Prop} {d : DefRec} {K : Params → PySem.W.Frag} {CX : CXT} {ps : List Str} {sp : PySem.W.Frag → Sp}
    (hwell : r.wellSaid = true) (hdf : d.params.defaults = []) (hlen : r.args.length = ps.length) (hr : Room k callerA)
    (hY : ∀ (w : World) (h : Heap), YP w h → (K w.params).In h)
    (F : ∀ (w : World) (mg : Str → Option Value) (fa : Addr) (h : Heap), YP w h → (K w.params).In h → h.Ns mainGlobals mg → mg d.name = some (.ref fa) →
      ∃ fd : FuncData, (∀ (s : Shared) (us : List Value), us.length = ps.length → BindsTo s fd ⟨us, []⟩ (ps.zip us)) ∧
        ∀ base : Heap, (K w.params).In base → base.Ns mainGlobals mg → FnOk r.prog w (K w.params) mg base CX k fa fd ps (sp (K w.params)))
    (hsp : ∀ (K : PySem.W.Frag) (H : Hp) (xs : List V) (a : Codec.denoteAll r.args), OnlyF H → Codec.withinAll r.args a = true → Codec.app r.args r.asked a = true → DwAll K H xs (Codec.encAll r.args a) →
      sp K xs H (fun v H' => Dw K H' v (r.ret.enc (Codec.app r.args r.f a))) fun _ _ _ => False)
    (hCX : ∀ (H : Hp) (s : Shared) (e : Value) (s' : Shared), CX [] H s (fun _ _ _ => False) e s' → False) :
    PySem.W.WalkOS q loose XP YP r d [] (fun f vs => PySem.call f vs) :=
  walk_spec (K := K) (CX := fun _ => CX) (sp := fun w => sp (K w.params)) hwell hdf hlen hr hY F (fun w H xs a h1 h2 h3 h4 => hsp (K w.params) H xs a h1 h2 h3 h4) fun _ H s e s' => hCX H s e s'
end L2
-- rests on (row put in by the clerk, for the bench that shows a file only what it spells): KE.SpHead KE.OsShapes
end
end
section
/-! The mathematics of the specification: shares, least, longer; plain lists and numbers. -/
namespace Rs
open Kh368
/-- one row more is given out: the shares so far (the newest first), the minutes of the newest -/
def stp (m : Nat) (x : List Nat × Nat) (n : Nat) : List Nat × Nat := match x.1 with
  | [] => ([1], n)
  | k :: r => if x.2 + n ≤ m then ((k + 1) :: r, x.2 + n) else (1 :: k :: r, n)
def run (m : Nat) (l : List Nat) : List Nat × Nat := l.foldl (stp m) ([], 0)
theorem shares_run (m : Nat) (l : List Nat) : shares m l = (run m l).1.reverse := rfl
theorem shares_len (m : Nat) (l : List Nat) : (shares m l).length = (run m l).1.length := by
  rw [shares_run, List.length_reverse]
theorem run_snoc (m : Nat) (l : List Nat) (n : Nat) : run m (l ++ [n]) = stp m (run m l) n := by
  unfold run
  rw [List.foldl_append]
  rfl
theorem stp_nil (m t n : Nat) : stp m ([], t) n = ([1], n) := rfl
theorem stp_in {m k t n : Nat} {r : List Nat} (h : t + n ≤ m) : stp m (k :: r, t) n = ((k + 1) :: r, t + n) := by
  show (if t + n ≤ m then _ else _) = _
  rw [if_pos h]
theorem stp_out {m k t n : Nat} {r : List Nat} (h : ¬ t + n ≤ m) : stp m (k :: r, t) n = (1 :: k :: r, n) := by
  show (if t + n ≤ m then _ else _) = _
  rw [if_neg h]
/-! ### greatest -/
theorem great_fold : ∀ (l : List Nat) (a : Nat), l.foldl (fun m x => max m x) a = max a (l.foldl (fun m x => max m x) 0)
  | [], a => by simp
  | x :: r, a => by
    rw [List.foldl_cons, List.foldl_cons, great_fold r (max a x), great_fold r (max 0 x)]
    omega
theorem great_nil : greatest [] = 0 := rfl
theorem great_cons (x : Nat) (r : List Nat) : greatest (x :: r) = max x (greatest r) := by
  unfold greatest
  rw [List.foldl_cons, great_fold]
  omega
theorem great_append : ∀ (l r : List Nat), greatest (l ++ r) = max (greatest l) (greatest r)
  | [], r => by rw [List.nil_append, great_nil]; omega
  | x :: l, r => by
    rw [List.cons_append, great_cons, great_cons, great_append l r]
    omega
theorem great_snoc (l : List Nat) (x : Nat) : greatest (l ++ [x]) = max (greatest l) x := by
  rw [great_append, great_cons, great_nil]
  omega
theorem great_mem : ∀ {l : List Nat} {x : Nat}, x ∈ l → x ≤ greatest l
  | a :: l, x, h => by
    rw [great_cons]
    rcases List.mem_cons.mp h with e | h
    · omega
    · have := great_mem h
      omega
theorem great_le {m : Nat} : ∀ {l : List Nat}, (∀ x ∈ l, x ≤ m) → greatest l ≤ m
  | [], _ => Nat.zero_le _
  | a :: l, h => by
    rw [great_cons]
    have h1 := h a List.mem_cons_self
    have h2 := great_le (l := l) fun x hx => h x (List.mem_cons_of_mem _ hx)
    omega
theorem great_iff {m : Nat} {l : List Nat} : greatest l ≤ m ↔ ∀ x ∈ l, x ≤ m := ⟨fun h _ hx => Nat.le_trans (great_mem hx) h, great_le⟩
theorem great_in : ∀ {l : List Nat}, l ≠ [] → greatest l ∈ l
  | [a], _ => by
    rw [great_cons, great_nil]
    simp
  | a :: b :: l, _ => by
    rw [great_cons]
    have ih := great_in (l := b :: l) (by simp)
    by_cases h : a ≤ greatest (b :: l)
    · rw [Nat.max_eq_right h]
      exact List.mem_cons_of_mem _ ih
    · rw [Nat.max_eq_left (by omega)]
      exact List.mem_cons_self
theorem mem_sum : ∀ {l : List Nat} {x : Nat}, x ∈ l → x ≤ l.sum
  | a :: l, x, h => by
    rw [List.sum_cons]
    rcases List.mem_cons.mp h with e | h
    · omega
    · have := mem_sum h
      omega
theorem great_sum (l : List Nat) : greatest l ≤ l.sum := great_le fun _ h => mem_sum h
theorem sum_snoc (l : List Nat) (x : Nat) : (l ++ [x]).sum = l.sum + x := by simp
/-! ### induction from the other end -/
theorem snoc_ind {p : List Nat → Prop} (h0 : p []) (h1 : ∀ l x, p l → p (l ++ [x])) : ∀ l, p l := by
  intro l
  have h : ∀ l : List Nat, p l.reverse := by
    intro l
    induction l with
    | nil => exact h0
    | cons a r ih =>
      rw [List.reverse_cons]
      exact h1 _ _ ih
  have := h l.reverse
  rwa [List.reverse_reverse] at this
/-! ### the minutes of the shares -/
theorem run_bound {m : Nat} (l : List Nat) : greatest l ≤ m → ((run m l).1 = [] ∧ l = [] ∨ (run m l).1 ≠ [] ∧ (run m l).2 ≤ m ∧ l.sum ≤ m * ((run m l).1.length - 1) + (run m l).2) := by
  induction l using snoc_ind with
  | h0 => intro _; exact .inl ⟨rfl, rfl⟩
  | h1 l x ih =>
    intro h
    rw [great_snoc] at h
    have hx : x ≤ m := by omega
    refine .inr ?_
    rw [run_snoc, sum_snoc]
    rcases ih (by omega) with ⟨e, e2⟩ | ⟨e, ht, hs⟩
    · subst e2
      refine ⟨by simp [run, stp], ?_, ?_⟩
      · exact hx
      · simp [run, stp]
    · cases q : run m l with
      | mk ss t =>
        rw [q] at e ht hs
        cases ss with
        | nil => exact absurd rfl e
        | cons k r =>
          simp only at ht hs
          by_cases c : t + x ≤ m
          · rw [stp_in c]
            refine ⟨by simp, c, ?_⟩
            simp only [List.length_cons] at hs ⊢
            omega
          · rw [stp_out c]
            refine ⟨by simp, hx, ?_⟩
            simp only [List.length_cons, Nat.add_sub_cancel] at hs ⊢
            rw [Nat.mul_add]
            omega
theorem sum_le_shares {m : Nat} {l : List Nat} (h : greatest l ≤ m) : l.sum ≤ m * (shares m l).length := by
  rw [shares_len]
  rcases run_bound l h with ⟨e, e2⟩ | ⟨e, ht, hs⟩
  · subst e2
    simp
  · cases q : (run m l).1 with
    | nil => exact absurd q e
    | cons k r =>
      rw [q] at hs
      simp only [List.length_cons, Nat.add_sub_cancel] at hs ⊢
      rw [Nat.mul_add]
      omega
/-- all to one -/
theorem run_all (m : Nat) (l : List Nat) : l.sum ≤ m → (run m l).1.length ≤ 1 ∧ (run m l).2 = l.sum := by
  induction l using snoc_ind with
  | h0 => intro _; exact ⟨Nat.zero_le _, rfl⟩
  | h1 l x ih =>
    intro h
    rw [sum_snoc] at h
    obtain ⟨h1, h2⟩ := ih (by omega)
    rw [run_snoc, sum_snoc]
    cases q : run m l with
    | mk ss t =>
      rw [q] at h1 h2
      simp only at h1 h2
      cases ss with
      | nil =>
        have : t = 0 ∧ l = [] := by
          rcases run_bound l (Nat.le_trans (great_sum l) (show l.sum ≤ m by omega)) with ⟨_, e2⟩ | ⟨e, _⟩
          · subst e2
            have : t = 0 := by
              have := congrArg Prod.snd q
              exact this.symm
            exact ⟨this, rfl⟩
          · rw [q] at e
            exact absurd rfl e
        obtain ⟨_, e2⟩ := this
        subst e2
        rw [stp_nil]
        exact ⟨Nat.le_refl _, by simp⟩
      | cons k r =>
        rw [stp_in (by omega)]
        exact ⟨h1, by omega⟩
theorem shares_one {m : Nat} {l : List Nat} (h : l.sum ≤ m) : (shares m l).length ≤ 1 := by
  rw [shares_len]
  exact (run_all m l h).1
/-! ### the first number of a range that will do -/
theorem find_first {p : Nat → Bool} : ∀ {l : List Nat} {x : Nat}, l.Pairwise (· < ·) → x ∈ l → p x = true → ∃ y, l.find? p = some y ∧ p y = true ∧ y ∈ l ∧ ∀ z ∈ l, p z = true → y ≤ z
  | a :: l, x, hp, hx, h => by
    obtain ⟨h1, h2⟩ := List.pairwise_cons.mp hp
    by_cases c : p a = true
    · refine ⟨a, ?_, c, List.mem_cons_self, fun z hz _ => ?_⟩
      · rw [List.find?_cons, c]
      · rcases List.mem_cons.mp hz with e | hz
        · omega
        · exact Nat.le_of_lt (h1 z hz)
    · have hx' : x ∈ l := by
        rcases List.mem_cons.mp hx with e | hx
        · subst e; exact absurd h c
        · exact hx
      obtain ⟨y, e1, e2, e3, e4⟩ := find_first h2 hx' h
      refine ⟨y, ?_, e2, List.mem_cons_of_mem _ e3, fun z hz hz2 => ?_⟩
      · rw [List.find?_cons]
        simp only [Bool.not_eq_true] at c
        rw [c]
        exact e1
      · rcases List.mem_cons.mp hz with e | hz
        · subst e; exact absurd hz2 c
        · exact e4 z hz hz2
/-- what least is -/
structure Least (k : Nat) (l : List Nat) (L : Nat) : Prop where
  great : greatest l ≤ L
  few : (shares L l).length ≤ k
  most : L ≤ l.sum
  first : ∀ m, greatest l ≤ m → (shares m l).length ≤ k → L ≤ m
theorem least_is {k : Nat} (l : List Nat) (hk : 1 ≤ k) : Least k l (leastBy k l) := by
  have hp : ((List.range (l.sum + 1)).filter fun m => decide (greatest l ≤ m)).Pairwise (· < ·) := List.Pairwise.filter _ List.pairwise_lt_range
  have hm : l.sum ∈ (List.range (l.sum + 1)).filter fun m => decide (greatest l ≤ m) := List.mem_filter.mpr ⟨List.mem_range.mpr (by omega), decide_eq_true (great_sum l)⟩
  obtain ⟨y, e1, e2, e3, e4⟩ := find_first (p := fun m => decide ((shares m l).length ≤ k)) hp hm (decide_eq_true (Nat.le_trans (shares_one (Nat.le_refl _)) hk))
  have e : leastBy k l = y := by
    unfold leastBy
    rw [e1]
    rfl
  rw [e]
  obtain ⟨e5, e6⟩ := List.mem_filter.mp e3
  have e7 := List.mem_range.mp e5
  refine ⟨of_decide_eq_true e6, of_decide_eq_true e2, by omega, fun m h1 h2 => ?_⟩
  by_cases c : m ≤ l.sum
  · exact e4 m (List.mem_filter.mpr ⟨List.mem_range.mpr (by omega), decide_eq_true h1⟩) (decide_eq_true h2)
  · omega
theorem Least.eq {k : Nat} {l : List Nat} {L : Nat} (hk : 1 ≤ k) (h1 : greatest l ≤ L) (h2 : (shares L l).length ≤ k) (h3 : L ≤ leastBy k l) : L = leastBy k l :=
  Nat.le_antisymm h3 ((least_is l hk).first L h1 h2)
theorem sum_le_least {k : Nat} (l : List Nat) (hk : 1 ≤ k) : l.sum ≤ k * leastBy k l := by
  have h := least_is l hk
  refine Nat.le_trans (sum_le_shares h.great) ?_
  rw [Nat.mul_comm]
  exact Nat.mul_le_mul_right _ h.few
/-! ### rows that take no less: no fewer pickers, least no less -/
/-- the one has got no further than the other -/
def Behind (x y : List Nat × Nat) : Prop := x.1.length < y.1.length ∨ (x.1.length = y.1.length ∧ x.2 ≤ y.2)
theorem behind_stp {m n n' : Nat} {x y : List Nat × Nat} (h : Behind x y) (h0 : y.1 = [] → x.1 = []) (hn : n ≤ n') : Behind (stp m x n) (stp m y n') := by
  obtain ⟨a, t⟩ := x
  obtain ⟨b, u⟩ := y
  unfold Behind at h ⊢
  cases b with
  | nil =>
    have e : a = [] := h0 rfl
    subst e
    rw [stp_nil, stp_nil]
    exact .inr ⟨rfl, hn⟩
  | cons j b =>
    cases a with
    | nil =>
      rw [stp_nil]
      by_cases c : u + n' ≤ m
      · rw [stp_in c]
        simp only [List.length_cons, List.length_nil]
        omega
      · rw [stp_out c]
        simp only [List.length_cons, List.length_nil]
        omega
    | cons i a =>
      simp only [List.length_cons] at h
      by_cases c : u + n' ≤ m
      · rw [stp_in c]
        by_cases d : t + n ≤ m
        · rw [stp_in d]
          simp only [List.length_cons]
          omega
        · rw [stp_out d]
          simp only [List.length_cons]
          omega
      · rw [stp_out c]
        by_cases d : t + n ≤ m
        · rw [stp_in d]
          simp only [List.length_cons]
          omega
        · rw [stp_out d]
          simp only [List.length_cons]
          omega
theorem stp_ne (m : Nat) (x : List Nat × Nat) (n : Nat) : (stp m x n).1 ≠ [] := by
  obtain ⟨a, t⟩ := x
  cases a with
  | nil => rw [stp_nil]; simp
  | cons i a =>
    by_cases d : t + n ≤ m
    · rw [stp_in d]; simp
    · rw [stp_out d]; simp
inductive Below : List Nat → List Nat → Prop
  | nil : Below [] []
  | cons {x y : Nat} {l r : List Nat} : x ≤ y → Below l r → Below (x :: l) (y :: r)
theorem Below.refl : ∀ l : List Nat, Below l l
  | [] => .nil
  | _ :: l => .cons (Nat.le_refl _) (Below.refl l)
theorem behind_fold {m : Nat} {l r : List Nat} (h : Below l r) : ∀ {x y : List Nat × Nat}, Behind x y → (y.1 = [] → x.1 = []) → Behind (l.foldl (stp m) x) (r.foldl (stp m) y) := by
  induction h with
  | nil => intro x y h _; exact h
  | cons hxy _ ih =>
    intro x y h h0
    exact ih (behind_stp h h0 hxy) fun e => absurd e (stp_ne _ _ _)
theorem shares_mono {m : Nat} {l r : List Nat} (h : Below l r) : (shares m l).length ≤ (shares m r).length := by
  rw [shares_len, shares_len]
  have := behind_fold (m := m) h (x := ([], 0)) (y := ([], 0)) (.inr ⟨rfl, Nat.le_refl _⟩) fun e => e
  unfold Behind at this
  show (l.foldl (stp m) ([], 0)).1.length ≤ (r.foldl (stp m) ([], 0)).1.length
  omega
theorem Below.great {l r : List Nat} (h : Below l r) : greatest l ≤ greatest r := by
  induction h with
  | nil => exact Nat.le_refl _
  | cons hxy _ ih =>
    rw [great_cons, great_cons]
    omega
theorem least_mono {k : Nat} {l r : List Nat} (hk : 1 ≤ k) (h : Below l r) : leastBy k l ≤ leastBy k r := by
  have hr := least_is r hk
  exact (least_is l hk).first _ (Nat.le_trans h.great hr.great) (Nat.le_trans (shares_mono h) hr.few)
theorem below_set : ∀ (l : List Nat) (i : Nat) {a b : Nat}, a ≤ b → Below (l.set i a) (l.set i b)
  | [], _, _, _, _ => .nil
  | _ :: l, 0, _, _, h => .cons h (Below.refl l)
  | _ :: l, i + 1, _, _, h => .cons (Nat.le_refl _) (below_set l i h)
/-! ### longer -/
theorem filter_upto {p : Nat → Bool} {X : Nat} : ∀ n, X < n → (∀ x, x ≤ X → p x = true) → (∀ x, X < x → x < n → p x = false) → ((List.range n).filter p).length = X + 1
  | 0, h, _, _ => by omega
  | n + 1, h, h1, h2 => by
    rw [List.range_succ, List.filter_append, List.length_append]
    by_cases c : X = n
    · subst c
      have e : (List.range X).filter p = List.range X := List.filter_eq_self.mpr fun x hx => h1 x (by have := List.mem_range.mp hx; omega)
      rw [e, List.filter_cons, h1 X (Nat.le_refl _)]
      simp
    · rw [filter_upto n (by omega) h1 fun x hx hx2 => h2 x hx (by omega), List.filter_cons, h2 n (by omega) (by omega)]
      simp
theorem great_set : ∀ {l : List Nat} {i : Nat} {v : Nat}, i < l.length → v ≤ greatest (l.set i v)
  | a :: l, 0, v, _ => by
    show v ≤ greatest (v :: l)
    rw [great_cons]
    omega
  | a :: l, i + 1, v, h => by
    show v ≤ greatest (a :: l.set i v)
    rw [great_cons]
    have := great_set (l := l) (i := i) (v := v) (by simpa using h)
    omega
/-- just so much longer: by X least is no more, by one minute more than X it is -/
theorem longer_is {a : Abs} {i X : Nat} (hk : 1 ≤ a.pickers) (hi : i < a.rows.length) (h1 : leastBy a.pickers (a.rows.set i (a.rows.getD i 0 + X)) ≤ leastBy a.pickers a.rows)
    (h2 : leastBy a.pickers a.rows < leastBy a.pickers (a.rows.set i (a.rows.getD i 0 + (X + 1)))) : longer a i = X := by
  have hX : X ≤ leastBy a.pickers a.rows := by
    have := (least_is (a.rows.set i (a.rows.getD i 0 + X)) hk).great
    have := great_set (v := a.rows.getD i 0 + X) hi
    omega
  unfold longer
  have e := filter_upto (p := fun x => decide (least (withRow a i (a.rows.getD i 0 + x)) ≤ least a)) (X := X) (least a + 1) (by show X < leastBy a.pickers a.rows + 1; omega)
    (fun x hx => decide_eq_true (Nat.le_trans (least_mono hk (below_set a.rows i (show a.rows.getD i 0 + x ≤ a.rows.getD i 0 + X by omega))) h1))
    (fun x hx _ => decide_eq_false (Nat.not_le.mpr (Nat.lt_of_lt_of_le h2 (least_mono hk (below_set a.rows i (show a.rows.getD i 0 + (X + 1) ≤ a.rows.getD i 0 + x by omega))))))
  rw [e]
  omega
/-- some X is so -/
theorem longer_some {a : Abs} {i : Nat} (hk : 1 ≤ a.pickers) (hi : i < a.rows.length) :
    leastBy a.pickers (a.rows.set i (a.rows.getD i 0 + longer a i)) ≤ leastBy a.pickers a.rows ∧ leastBy a.pickers a.rows < leastBy a.pickers (a.rows.set i (a.rows.getD i 0 + (longer a i + 1))) := by
  have h0 : leastBy a.pickers (a.rows.set i (a.rows.getD i 0 + 0)) ≤ leastBy a.pickers a.rows := by
    have e : a.rows.set i (a.rows.getD i 0 + 0) = a.rows := by
      rw [Nat.add_zero, List.getD_eq_getElem?_getD, List.getElem?_eq_getElem hi]
      exact List.set_getElem_self hi
    rw [e]
    exact Nat.le_refl _
  have hN : leastBy a.pickers a.rows < leastBy a.pickers (a.rows.set i (a.rows.getD i 0 + (leastBy a.pickers a.rows + 1))) := by
    have := (least_is (a.rows.set i (a.rows.getD i 0 + (leastBy a.pickers a.rows + 1))) hk).great
    have := great_set (v := a.rows.getD i 0 + (leastBy a.pickers a.rows + 1)) hi
    omega
  have go : ∀ n, leastBy a.pickers a.rows < leastBy a.pickers (a.rows.set i (a.rows.getD i 0 + n)) → ∃ X, leastBy a.pickers (a.rows.set i (a.rows.getD i 0 + X)) ≤ leastBy a.pickers a.rows ∧ leastBy a.pickers a.rows < leastBy a.pickers (a.rows.set i (a.rows.getD i 0 + (X + 1))) := by
    intro n
    induction n with
    | zero => intro h; omega
    | succ n ih =>
      intro h
      by_cases c : leastBy a.pickers (a.rows.set i (a.rows.getD i 0 + n)) ≤ leastBy a.pickers a.rows
      · exact ⟨n, c, h⟩
      · exact ih (by omega)
  obtain ⟨X, e1, e2⟩ := go _ hN
  rw [longer_is hk hi e1 e2]
  exact ⟨e1, e2⟩
end Rs
end
section
/-! Who, told, has: the rows cut by shares; the flat list of calls; what holds of every state. -/
namespace Rs
open Kh368
/-! ### rows, cut -/
theorem cut_snoc : ∀ (l p : List Nat) (c : Nat), cut l (p ++ [c]) = cut l p ++ [(l.drop p.sum).take c]
  | l, [], c => by simp [cut]
  | l, n :: r, c => by
    show l.take n :: cut (l.drop n) (r ++ [c]) = l.take n :: (cut (l.drop n) r ++ [(l.drop (n :: r).sum).take c])
    rw [cut_snoc (l.drop n) r c, List.sum_cons, List.drop_drop]
theorem cut_len : ∀ (l p : List Nat), (cut l p).length = p.length
  | _, [] => rfl
  | l, n :: r => by
    show (cut (l.drop n) r).length + 1 = r.length + 1
    rw [cut_len]
theorem cut_get : ∀ (l p : List Nat) (i : Nat), i < p.length → (cut l p).getD i [] = (l.drop (p.take i).sum).take (p.getD i 0)
  | _, [], i, h => by simp at h
  | l, n :: r, 0, _ => by simp [cut]
  | l, n :: r, i + 1, h => by
    show (cut (l.drop n) r).getD i [] = (l.drop (n :: r.take i).sum).take (r.getD i 0)
    rw [cut_get (l.drop n) r i (by simpa using h), List.sum_cons, List.drop_drop]
theorem most_snoc (l p : List Nat) (c : Nat) : mostOf l (p ++ [c]) = max (mostOf l p) ((l.drop p.sum).take c).sum := by
  unfold mostOf
  rw [cut_snoc, List.map_append, great_append]
  show max _ (greatest [((l.drop p.sum).take c).sum]) = _
  rw [great_cons, great_nil]
  omega
/-! ### who -/
theorem find_zip {α : Type} {q : Nat → Bool} {p : Nat} : ∀ (l : List α) (n : Nat), n ≤ p → p < n + l.length → (∀ j, n ≤ j → j < p → q j = false) → q p = true →
    ((l.zipIdx n).find? fun x => q x.2).map (fun x => x.2) = some p
  | [], n, h1, h2, _, _ => by simp at h2; omega
  | a :: l, n, h1, h2, h3, h4 => by
    rw [List.zipIdx_cons, List.find?_cons]
    by_cases c : n = p
    · subst c
      show (match q n with | true => some (a, n) | false => _).map _ = _
      rw [h4]
      rfl
    · show (match q n with | true => some (a, n) | false => _).map _ = _
      rw [h3 n (Nat.le_refl _) (by omega)]
      exact find_zip l (n + 1) (by omega) (by simp at h2; omega) (fun j hj => h3 j (by omega)) h4
theorem take_sum_mono (l : List Nat) {i j : Nat} (h : i ≤ j) : (l.take i).sum ≤ (l.take j).sum := by
  have e : l.take j = l.take i ++ (l.drop i).take (j - i) := by
    rw [← List.take_add]
    congr 1
    omega
  rw [e]
  simp
theorem who_is {a : Abs} {i p : Nat} (h1 : ((plan a).take p).sum ≤ i) (h2 : i < ((plan a).take (p + 1)).sum) : who a i = p := by
  unfold who
  have hp : p < (plan a).length := by
    apply Nat.lt_of_not_le
    intro c
    rw [List.take_of_length_le (by omega)] at h2
    rw [List.take_of_length_le c] at h1
    omega
  have e := find_zip (q := fun j => decide (i < ((plan a).take (j + 1)).sum)) (p := p) (plan a) 0 (Nat.zero_le _) (by omega) (fun j _ hj => decide_eq_false (by
    have := take_sum_mono (plan a) (show j + 1 ≤ p by omega)
    omega)) (decide_eq_true h2)
  rw [e]
  rfl
/-! ### the plan -/
theorem stp_sum (m : Nat) (x : List Nat × Nat) (n : Nat) : (stp m x n).1.sum = x.1.sum + 1 := by
  obtain ⟨a, t⟩ := x
  cases a with
  | nil => rfl
  | cons k r =>
    by_cases d : t + n ≤ m
    · rw [stp_in d]
      simp only [List.sum_cons]
      omega
    · rw [stp_out d]
      simp only [List.sum_cons]
      omega
theorem run_sum (m : Nat) (l : List Nat) : (run m l).1.sum = l.length := by
  induction l using snoc_ind with
  | h0 => rfl
  | h1 l x ih => rw [run_snoc, stp_sum, ih, List.length_append]; rfl
theorem shares_sum (m : Nat) (l : List Nat) : (shares m l).sum = l.length := by
  rw [shares_run, List.sum_reverse, run_sum]
theorem plan_len {a : Abs} (hk : 1 ≤ a.pickers) : (plan a).length = a.pickers := by
  unfold plan
  have := (least_is a.rows hk).few
  have e : least a = leastBy a.pickers a.rows := rfl
  rw [e]
  simp only [List.length_append, List.length_replicate]
  omega
theorem plan_sum (a : Abs) : (plan a).sum = a.rows.length := by
  unfold plan
  simp only [List.sum_append, List.sum_replicate_nat, Nat.mul_zero, Nat.add_zero, shares_sum]
/-! ### told: by no shares has the one who has most less than least -/
def BehindN (x : List Nat × Nat) (c t : Nat) : Prop := x.1.length < c ∨ (x.1.length = c ∧ x.2 ≤ t)
theorem part_fold {m c : Nat} (hc : 1 ≤ c) : ∀ (q : List Nat) (x : List Nat × Nat) (t : Nat), BehindN x c t → t + q.sum ≤ m → BehindN (q.foldl (stp m) x) c (t + q.sum)
  | [], x, t, h, _ => h
  | n :: q, x, t, h, hs => by
    rw [List.sum_cons] at hs
    have h1 : BehindN (stp m x n) c (t + n) := by
      obtain ⟨a, u⟩ := x
      unfold BehindN at h ⊢
      cases a with
      | nil =>
        rw [stp_nil]
        simp only [List.length_cons, List.length_nil] at h ⊢
        omega
      | cons k r =>
        simp only [List.length_cons] at h
        by_cases d : u + n ≤ m
        · rw [stp_in d]
          simp only [List.length_cons]
          omega
        · rw [stp_out d]
          simp only [List.length_cons]
          omega
    have := part_fold (m := m) hc q (stp m x n) (t + n) h1 (by omega)
    rw [List.foldl_cons, List.sum_cons, ← Nat.add_assoc]
    exact this
theorem parts_fold {m : Nat} : ∀ (p l : List Nat) (x : List Nat × Nat) (c : Nat), (∀ q ∈ cut l p, q.sum ≤ m) → l.length ≤ p.sum → x.1.length ≤ c → (l.foldl (stp m) x).1.length ≤ c + p.length
  | [], l, x, c, _, h2, h3 => by
    have e : l = [] := List.eq_nil_of_length_eq_zero (by simpa using h2)
    subst e
    exact h3
  | n :: r, l, x, c, h1, h2, h3 => by
    have hq : (l.take n).sum ≤ m := h1 _ List.mem_cons_self
    have a1 := part_fold (m := m) (c := c + 1) (by omega) (l.take n) x 0 (.inl (by omega)) (by omega)
    have a2 : ((l.take n).foldl (stp m) x).1.length ≤ c + 1 := by
      unfold BehindN at a1
      omega
    have a3 := parts_fold r (l.drop n) _ (c + 1) (fun q hq => h1 q (List.mem_cons_of_mem _ hq)) (by rw [List.sum_cons] at h2; rw [List.length_drop]; omega) a2
    rw [← List.foldl_append, List.take_append_drop] at a3
    rw [List.length_cons]
    omega
theorem cut_all : ∀ (p l : List Nat), l.length ≤ p.sum → (cut l p).flatten = l
  | [], l, h => by
    have e : l = [] := List.eq_nil_of_length_eq_zero (by simpa using h)
    subst e
    rfl
  | n :: r, l, h => by
    show (l.take n :: cut (l.drop n) r).flatten = l
    rw [List.flatten_cons, cut_all r (l.drop n) (by rw [List.sum_cons] at h; rw [List.length_drop]; omega), List.take_append_drop]
theorem least_le_most {k : Nat} {l p : List Nat} (hk : 1 ≤ k) (h1 : p.length = k) (h2 : p.sum = l.length) : leastBy k l ≤ mostOf l p := by
  have hq : ∀ q ∈ cut l p, q.sum ≤ mostOf l p := fun q hq => great_mem (List.mem_map.mpr ⟨q, hq, rfl⟩)
  refine (least_is l hk).first _ (great_le fun x hx => ?_) ?_
  · rw [← cut_all p l (by omega)] at hx
    obtain ⟨q, hq1, hq2⟩ := List.mem_flatten.mp hx
    exact Nat.le_trans (mem_sum hq2) (hq q hq1)
  · rw [shares_len]
    have := parts_fold (m := mostOf l p) p l ([], 0) 0 hq (by omega) (Nat.le_refl _)
    show (l.foldl (stp (mostOf l p)) ([], 0)).1.length ≤ k
    omega
theorem okShares_iff {a : Abs} {p : List Nat} : okShares a p = true ↔ p.length = a.pickers ∧ p.sum = a.rows.length := by
  unfold okShares
  simp
theorem okPickers_iff {k : Nat} : okPickers k = true ↔ 1 ≤ k ∧ k ≤ 6 := by
  unfold okPickers PICKERS
  simp
theorem okMinutes_iff {k : Nat} : okMinutes k = true ↔ 1 ≤ k ∧ k ≤ 100 := by
  unfold okMinutes MINUTES
  simp
theorem okP {k : Nat} (h : ¬ okPickers k = false) : 1 ≤ k ∧ k ≤ 6 := okPickers_iff.mp (by simpa using h)
theorem okM {k : Nat} (h : ¬ okMinutes k = false) : 1 ≤ k ∧ k ≤ 100 := okMinutes_iff.mp (by simpa using h)
/-! ### states -/
structure OkRows (k : Nat) (l : List Nat) : Prop where
  k1 : 1 ≤ k
  k6 : k ≤ 6
  len : l.length ≤ 14
  each : ∀ x ∈ l, 1 ≤ x ∧ x ≤ 100
structure Good (a : Abs) : Prop where
  now : OkRows a.pickers a.rows
  past : ∀ x ∈ a.undo, OkRows x.1 x.2
  ten : a.undo.length ≤ 10
theorem good_keep {a b : Abs} (g : Good a) (h : OkRows b.pickers b.rows) : Good (keep a b) := by
  refine ⟨h, fun x hx => ?_, ?_⟩
  · have hx : x ∈ ((a.pickers, a.rows) :: a.undo).take BACK := hx
    rcases List.mem_cons.mp (List.mem_of_mem_take hx) with e | hx
    · subst e; exact g.now
    · exact g.past x hx
  · show (((a.pickers, a.rows) :: a.undo).take BACK).length ≤ 10
    rw [List.length_take]
    exact Nat.min_le_left _ _
theorem good_doing {s : Option Abs} (c : Call) (h : ∀ a, s = some a → Good a) : ∀ a, (doing s c).1 = some a → Good a := by
  intro b hb
  cases s with
  | none =>
    cases c with
    | begin_ k =>
      simp only [doing] at hb
      split at hb
      · cases hb
      · rename_i q
        cases hb
        have q := okP q
        exact ⟨⟨by show 1 ≤ k; omega, by show k ≤ 6; omega, by simp [begun], by simp [begun]⟩, by simp [begun], by simp [begun]⟩
    | _ => simp [doing] at hb
  | some a =>
    have g := h a rfl
    cases c with
    | begin_ k =>
      simp only [doing] at hb
      split at hb
      · cases hb; exact g
      · rename_i q
        cases hb
        have q := okP q
        exact ⟨⟨by show 1 ≤ k; omega, by show k ≤ 6; omega, by simp [begun], by simp [begun]⟩, by simp [begun], by simp [begun]⟩
    | row n =>
      simp only [doing] at hb
      split at hb
      · cases hb; exact g
      · rename_i q
        split at hb
        · cases hb; exact g
        · rename_i q2
          cases hb
          have q := okM q
          simp [ROWS] at q2
          refine good_keep g ⟨g.now.k1, g.now.k6, by simp; omega, fun x hx => ?_⟩
          rcases List.mem_append.mp hx with hx | hx
          · exact g.now.each x hx
          · have := List.mem_singleton.mp hx
            omega
    | out i =>
      simp only [doing] at hb
      split at hb
      · cases hb; exact g
      · cases hb
        refine good_keep g ⟨g.now.k1, g.now.k6, ?_, fun x hx => g.now.each x (List.mem_of_mem_eraseIdx hx)⟩
        have := List.length_eraseIdx_le a.rows i
        exact Nat.le_trans this g.now.len
    | minutes i n =>
      simp only [doing] at hb
      split at hb
      · cases hb; exact g
      · split at hb
        · cases hb; exact g
        · rename_i q
          cases hb
          have q := okM q
          refine good_keep g ⟨g.now.k1, g.now.k6, by simpa [withRow] using g.now.len, fun x hx => ?_⟩
          rcases List.mem_or_eq_of_mem_set hx with hx | hx
          · exact g.now.each x hx
          · omega
    | pickers k =>
      simp only [doing] at hb
      split at hb
      · cases hb; exact g
      · rename_i q
        split at hb
        · cases hb; exact g
        · cases hb
          have q := okP q
          exact good_keep g ⟨by show 1 ≤ k; omega, by show k ≤ 6; omega, g.now.len, g.now.each⟩
    | back =>
      simp only [doing] at hb
      cases q : a.undo with
      | nil => rw [q] at hb; cases hb; exact g
      | cons x u =>
        rw [q] at hb
        cases hb
        have hp := g.past
        have ht := g.ten
        rw [q] at hp ht
        exact ⟨hp x List.mem_cons_self, fun y hy => hp y (List.mem_cons_of_mem _ hy), by simp at ht; show u.length ≤ 10; omega⟩
    | fewest m =>
      simp only [doing] at hb
      split at hb <;> (cases hb; exact g)
    | least => simp only [doing] at hb; cases hb; exact g
    | plan => simp only [doing] at hb; cases hb; exact g
    | idle => simp only [doing] at hb; cases hb; exact g
    | sums => simp only [doing] at hb; cases hb; exact g
    | state => simp only [doing] at hb; cases hb; exact g
    | _ =>
      simp only [doing] at hb
      split at hb <;> (cases hb; exact g)
end Rs
end
section
/-! Own rules over the layer: max(xs, default=d); a call of what an expression gives. -/
set_option Elab.async false
set_option linter.all false
set_option maxRecDepth 100000
set_option maxHeartbeats 2000000
namespace Rs
open PySem PySem.Spec PyProof.Rows L2
theorem max_args (a d : Value) : argsOk "max" ⟨[a], [(Str.ofString "default", d)]⟩ := by unfold argsOk; kernel_rfl
theorem loop_name : (toString "max" ++ toString ".loop" : String) = "max.loop" := by decide
section
variable {prog : Program} {w : World} {A : Around} {R : Result → Shared → Prop} {I : Addr} {fp wr : List Addr} {n : Nat} {P : Nat → Value → Prop} {Z : Nat → Heap → Prop} {kw : List (Str × Value)}
/-- the loop behind max, from its second item on, whatever keyword is carried along -/
theorem more_of_max (k : Walks prog w A.in1 I fp wr n P Z) (bt : Nat → Nat → Bool) (gt : CmpOf prog w A.in1 .Gt P bt) (B : Addr) (out : B ∉ fp) : ∀ (left at_ : Nat) (s : Shared) (best : Value) (c : Nat),
    n - (at_ + 1) = left → at_ + 1 ≤ n → Z (at_ + 1) s.heap → P (argBest bt at_) best → s.heap.get? B = some { cls := .type "list", dict := none, data := .seq #[best, best] c, slots := #[] } →
    (∀ v g t, P (argBest bt (n - 1)) v → (∀ b o, b ∉ wr → b ≠ B → s.heap.get? b = some o → g.get? b = some o) → R (.ok (.ret v)) { s with heap := g, toks := t }) →
    codeAny (model prog w) A (.builtin "max.loop" ⟨[.ref I, .none, .ref B], kw⟩) R s := by
  have outw : B ∉ wr := fun z => out (k.sub _ z)
  intro left
  induction left with
  | zero =>
    intro at_ s best c e1 e2 z pb hB fin
    have last : at_ + 1 = n := by omega
    refine codeAny_builtin PySem.F.entry_max_loop (by
      rw [Around.under_plainId PySem.F.plain_max_loop _]
      show wpAny _ A.in1 (seqItems? (.ref B) >>= _) _ _ s
      exact wpAny_bind (wpAny_seqItems hB rfl (by
        show wpAny _ A.in1 (tryCatch (pyNext (.ref I)) _ >>= _) _ _ s
        refine wpAny_bind (wpAny_tryCatch (k.done s _ _ (last ▸ z) fun g t kept => ?_))
        have hB' := kept B _ outw hB
        show wpAny _ A.in1 (updateSeq B (fun _ => #[]) >>= _) _ _ _
        refine wpAny_bind (wpAny_updateSeq hB' rfl (wpAny_bind (wpAny_letGo (wpAny_pure ?_))))
        exact fin best _ t (by rw [← last]; exact pb) fun b o q1 q2 e => (Heap.get?_update_other _ _ (Ne.symm q2)).trans (kept b o q1 e))))
  | succ left ih =>
    intro at_ s best c e1 e2 z pb hB fin
    have more : at_ + 1 < n := by omega
    refine codeAny_builtin PySem.F.entry_max_loop (by
      rw [Around.under_plainId PySem.F.plain_max_loop _]
      show wpAny _ A.in1 (seqItems? (.ref B) >>= _) _ _ s
      refine wpAny_bind (wpAny_seqItems hB rfl (by
        show wpAny _ A.in1 (tryCatch (pyNext (.ref I)) _ >>= _) _ _ s
        refine wpAny_bind (wpAny_tryCatch (k.item (at_ + 1) s _ _ more z fun v g t pv' z' kept => ?_))
        have hB' := kept B _ outw hB
        show wpAny _ A.in1 (tryCatch (holding [v, v] (richCompare .Gt v best >>= _)) _ >>= _) _ _ _
        refine wpAny_bind (wpAny_tryCatch (wpAny_holding (wpAny_bind (gt (at_ + 1) (argBest bt at_) v best _ _ _ pv' pb (wpAny_bind (wpAny_holding (wpAny_truthy_bool (wpAny_bind (wpAny_letGo (wpAny_pure ?_))))))))))
        cases hb : bt (at_ + 1) (argBest bt at_) with
        | true =>
          simp only [if_true]
          refine wpAny_bind (wpAny_updateSeq hB' rfl (wpAny_bind (wpAny_letGo ?_)))
          rw [loop_name]
          refine wpAny_pure ⟨plainId_quiet PySem.F.plain_max_loop _, ih (at_ + 1) _ v _ (by omega) more (k.frame _ _ _ z' fun b q o e => ?_) (by simp only [argBest, hb, if_true]; exact pv') (Heap.get?_update_self _ hB' rfl) fun v' g' t' p' kept' => ?_⟩
          · exact (Heap.get?_update_other _ _ (fun h : B = b => out (by rw [h]; exact q))).trans e
          · exact fin v' g' t' p' fun b o q1 q2 e => kept' b o q1 q2 ((Heap.get?_update_other _ _ (Ne.symm q2)).trans (kept b o q1 e))
        | false =>
          simp only [Bool.false_eq_true, if_false]
          refine wpAny_bind (wpAny_letGo ?_)
          rw [loop_name]
          refine wpAny_pure ⟨plainId_quiet PySem.F.plain_max_loop _, ih (at_ + 1) _ best c (by omega) more z' (by simp only [argBest, hb, Bool.false_eq_true, if_false]; exact pb) hB' fun v' g' t' p' kept' => ?_⟩
          exact fin v' g' t' p' fun b o q1 q2 e => kept' b o q1 q2 (kept b o q1 e))))
/-- .. from its first item on -/
theorem all_of_max (k : Walks prog w A.in1 I fp wr n P Z) (bt : Nat → Nat → Bool) (gt : CmpOf prog w A.in1 .Gt P bt) (B : Addr) (out : B ∉ fp) (some_ : 0 < n) {s : Shared} {c : Nat} (z : Z 0 s.heap)
    (hB : s.heap.get? B = some { cls := .type "list", dict := none, data := .seq #[] c, slots := #[] })
    (fin : ∀ v g t, P (argBest bt (n - 1)) v → (∀ b o, b ∉ wr → b ≠ B → s.heap.get? b = some o → g.get? b = some o) → R (.ok (.ret v)) { s with heap := g, toks := t }) :
    codeAny (model prog w) A (.builtin "max.loop" ⟨[.ref I, .none, .ref B], kw⟩) R s := by
  have outw : B ∉ wr := fun q => out (k.sub _ q)
  refine codeAny_builtin PySem.F.entry_max_loop (by
    rw [Around.under_plainId PySem.F.plain_max_loop _]
    show wpAny _ A.in1 (seqItems? (.ref B) >>= _) _ _ s
    refine wpAny_bind (wpAny_seqItems hB rfl (by
      show wpAny _ A.in1 (tryCatch (pyNext (.ref I)) _ >>= _) _ _ s
      refine wpAny_bind (wpAny_tryCatch (k.item 0 s _ _ some_ z fun v g t pv' z' kept => ?_))
      have hB' := kept B _ outw hB
      show wpAny _ A.in1 (updateSeq B (fun _ => #[v, v]) >>= _) _ _ _
      refine wpAny_bind (wpAny_updateSeq hB' rfl ?_)
      rw [loop_name]
      refine wpAny_pure ⟨plainId_quiet PySem.F.plain_max_loop _, more_of_max k bt gt B out _ 0 _ v _ rfl some_ (k.frame _ _ _ z' fun b q o e => ?_) pv' (Heap.get?_update_self _ hB' rfl) fun v' g' t' p' kept' => ?_⟩
      · exact (Heap.get?_update_other _ _ (fun h : B = b => out (by rw [h]; exact q))).trans e
      · exact fin v' g' t' p' fun b o q1 q2 e => kept' b o q1 q2 ((Heap.get?_update_other _ _ (Ne.symm q2)).trans (kept b o q1 e)))))
/-- .. over nothing: what stands as the default -/
theorem none_of_max {d : Value} {x : Str} (k : Walks prog w A.in1 I fp wr 0 P Z) (B : Addr) (out : B ∉ fp) {s : Shared} {c : Nat} (z : Z 0 s.heap)
    (hB : s.heap.get? B = some { cls := .type "list", dict := none, data := .seq #[] c, slots := #[] })
    (fin : ∀ g t, (∀ b o, b ∉ wr → s.heap.get? b = some o → g.get? b = some o) → R (.ok (.ret d)) { s with heap := g, toks := t }) :
    codeAny (model prog w) A (.builtin "max.loop" ⟨[.ref I, .none, .ref B], [(x, d)]⟩) R s := by
  refine codeAny_builtin PySem.F.entry_max_loop (by
    rw [Around.under_plainId PySem.F.plain_max_loop _]
    show wpAny _ A.in1 (seqItems? (.ref B) >>= _) _ _ s
    refine wpAny_bind (wpAny_seqItems hB rfl (by
      show wpAny _ A.in1 (tryCatch (pyNext (.ref I)) _ >>= _) _ _ s
      refine wpAny_bind (wpAny_tryCatch (k.done s _ _ z fun g t kept => ?_))
      exact wpAny_bind (wpAny_rule (wpAny_pure (fin g t kept))))))
end
section
variable {prog : Program} {w : World} {A : Around} {E : Value → Shared → Prop} {s : Shared} {l : Addr} {its : List Value} {ns : List Int} {d : Value} {Q : Value → Shared → Prop}
/-- max(xs, default=d) of a list of ints -/
theorem max_or (hh : A.handled = none) (hl : s.heap.IsList l its.toArray) (hi : IntsAre its ns)
    (h0 : ns = [] → ∀ g t, (∀ b o, s.heap.get? b = some o → g.get? b = some o) → Q d { s with heap := g, toks := t })
    (h1 : ∀ g t M u, (∀ b o, s.heap.get? b = some o → g.get? b = some o) → M ∈ ns → (∀ a, a ∈ ns → a ≤ M) → Q (.int M u) { s with heap := g, toks := t }) :
    wpAny (model prog w) A (call (.builtin "max") [.ref l] [(Str.ofString "default", d)]) Q E s := by
  obtain ⟨xs, e⟩ := hi.allInts.items
  have hn : numsOf (intItems xs).toList = ns := by rw [← e]; exact hi.numsOf
  rw [nums_intItems] at hn
  subst hn
  rw [e] at hl
  refine kmk_tree PySem.F.kind_max PySem.F.plain_max PySem.F.entry_max (max_args _ _) ?_
  show wpAny _ A.in1 (Builtin.Builtins.bindParams "max" ["key", "default"] 0 ⟨[], [(Str.ofString "default", d)]⟩ >>= _) _ _ s
  refine wpAny_bind (wpAny_of_eq (show Builtin.Builtins.bindParams "max" ["key", "default"] 0 ⟨[], [(Str.ofString "default", d)]⟩ = pure [none, some d] from rfl) ?_)
  refine wpAny_bind (wpAny_pure (wpAny_bind (iter_intList hl fun s2 e2 st lt ne => ?_)))
  subst e2
  refine wpAny_bind (wpAny_newObj_type ?_)
  have far : (s.heap.push { cls := .type "list_iterator", data := .fields #[.ref l, .int 0 0] }).objs.size ∉ [s.heap.objs.size, l] := fun q => Nat.lt_irrefl _ (lt _ q)
  have k := Walks.list (prog := prog) (w := w) (A := A.in1) hh s.heap.objs.size l ne (intItems xs)
  rw [loop_name]
  by_cases c : xs.size = 0
  · have e0 : (intItems xs).size = 0 := by simpa [intItems] using c
    rw [e0] at k
    refine wpAny_pure ⟨plainId_quiet PySem.F.plain_max_loop _, none_of_max k _ far (k.frame _ _ _ st fun b _ o q => Heap.get?_push_of_some _ q) (Heap.get?_push_size _ rfl) fun g t kept => ?_⟩
    refine h0 ?_ g t (old_kept fun b o q q2 => kept b o q (Heap.get?_push_of_some _ q2))
    exact List.eq_nil_of_length_eq_zero (by rw [List.length_map, Array.length_toList]; exact c)
  · have some_ : 0 < (intItems xs).size := by simpa [intItems] using Nat.pos_of_ne_zero c
    refine wpAny_pure ⟨plainId_quiet PySem.F.plain_max_loop _, all_of_max k _ (CmpOf.ints_gt (numAt xs) (fun _ _ => intItems_at)) _ far some_ (k.frame _ _ _ st fun b _ o q => Heap.get?_push_of_some _ q) (Heap.get?_push_size _ rfl) fun v g t pv' kept => ?_⟩
    obtain ⟨u, rfl⟩ := intItems_at pv'
    have sz : (intItems xs).size = xs.size := by simp [intItems]
    rw [sz]
    obtain ⟨a1, a2⟩ := argBest_gt (numAt xs) (xs.size - 1)
    refine h1 g t _ u (old_kept fun b o q q2 => kept b o q (fun z => ?_) (Heap.get?_push_of_some _ q2)) ?_ fun a ha => ?_
    · exact absurd (z ▸ Heap.lt_size q2) (Nat.lt_irrefl _)
    · rw [numAt_eq]
      exact PySem.getD_mem (by rw [List.length_map, Array.length_toList]; omega)
    · obtain ⟨j, hj, rfl⟩ := mem_getD ha
      rw [List.length_map, Array.length_toList] at hj
      rw [← numAt_eq]
      exact a2 j (by omega)
end
section
variable {X : Cx} {e : Expr} {te : TE} {p pos cp kp : Pos} {j : Nat} {d : Int}
/-- max(e, default=d) -/
def tMaxOr (K : PySem.W.Frag) (d : Int) (te : TE) : TE := fun σ H Q => te σ H fun v H1 => ∃ (a : Addr) (ns : List Int), [v] = [V.ref a] ∧ SqL K H1 a (ns.map V.int) ∧ (ns = [] → Q (.int d) H1) ∧ ∀ m, m ∈ ns → (∀ y, y ∈ ns → y ≤ m) → Q (.int m) H1
theorem pe_maxOr (hc : X.calm = true) (hg : Gl X "max") (hm : X.mg "max" = none) (he : PE X e te) (hs : starEach [e] X.env = [(false, eval e X.env)] := by rfl) :
    PE X (.Call (.Name "max" p) [e] [⟨some "default", .Constant (.int d) j cp, kp⟩] pos) (tMaxOr X.K d te) := by
  intro pins s σ H Q I h
  refine wpAny_Call_Name_kw (ld_blt I hg hm PyProof.Rows.boot_max ?_)
  have he' : backTo pos (starEach [e] X.env) = (false, eval e X.env) :: backTo pos (starEach [] X.env) := by rw [hs]; rfl
  have hp : (backTo pos (starEach [e] X.env)).any (·.1) = false := by rw [he']; rfl
  refine callWith_kw ?_ he' hp
  have ha : PA X [e] (tCons te tNil) := pa_cons he pa_nil hs
  refine thn (ha pos pins s σ H (fun vs H1 => ∃ (a : Addr) (ns : List Int), vs = [V.ref a] ∧ SqL X.K H1 a (ns.map V.int) ∧ (ns = [] → Q (.int d) H1) ∧ ∀ m, m ∈ ns → (∀ y, y ∈ ns → y ≤ m) → Q (.int m) H1) I h) ?_
  · rintro us s1 ⟨vs, H1, I1, r, a, ns, rfl, q1, q2, q3⟩
    rw [Vals.ref1 r]
    refine thn ((pk_cons (X := X) (nm := some "default") (kpos := kp) (pe_int (i := d) (j := j) (pos := cp)) pk_nil) pos pins s1 σ H1 (fun ws H2 => ws = [V.int d] ∧ H2 = H1) I1 ⟨rfl, rfl⟩) ?_
    rintro ws s2 ⟨zs, H2, I2, rz, rfl, rfl⟩
    obtain ⟨w1, rfl, t, rfl⟩ : ∃ w1, ws = [w1] ∧ RelV (V.int d) w1 := by
      cases rz with
      | cons h1 h2 =>
        cases h2
        exact ⟨_, rfl, h1⟩
    obtain ⟨its, rv, hl, _⟩ := I2.list q1
    exact max_or (I2.ok.hd hc) hl.isList rv.ints (fun e0 g t' kept => ⟨.int d, H2, I2.kept kept, ⟨_, rfl⟩, q2 e0⟩) fun g t' M u kept m1 m2 => ⟨.int M, H2, I2.kept kept, ⟨_, rfl⟩, q3 M m1 m2⟩
end
section
variable {X : Cx} {func : Expr} {tf : TE} {e : Expr} {es : List Expr} {t : TA} {pos : Pos}
/-- f(e, ..), f what an expression gives: a def of the module -/
def tCallV (X : Cx) (tf : TE) (t : TA) : TE := fun σ H Q => tf σ H fun v H1 => ∃ f, v = .ref f ∧ PySem.W.keepIn X.K (.ref f) = true ∧
  t σ H1 fun vs H2 => ∃ k fd ps sp, FnOk X.prog X.w X.K X.mg X.base CX0 k f fd ps sp ∧ Room k X.A ∧ Binds X.K fd ps [] ∧ sp vs H2 Q E0
theorem pe_callV (hf : PE X func tf) (ha : PA X (e :: es) t) (hx : Passes CX0 X E0)
    (hev : eval (.Call func (e :: es) [] pos) X.env = (do callWith pos (← eval func X.env) [] (backTo pos (starEach (e :: es) X.env)) (backToKw pos (keywordEach [] X.env))) := by rfl)
    (he : starEach (e :: es) X.env = (false, eval e X.env) :: starEach es X.env := by rfl) (hpl : (backTo pos (starEach es X.env)).any (·.1) = false := by rfl) :
    PE X (.Call func (e :: es) [] pos) (tCallV X tf t) := by
  intro pins s σ H Q I h
  refine PyProof.Rows.Call_ (thn (hf pins s σ H _ I h) ?_) hev
  rintro u s1 ⟨v, H1, I1, r, f, rfl, kp, q⟩
  obtain rfl : u = Value.ref f := r
  refine PySem.W.callWith_K (h₀ := X.base) I.ok.mod.kin kp (thn (ha pos pins s1 σ H1 _ I1 q) ?_) he hpl
  rintro us s2 ⟨vs, H2, I2, r2, k, fd, ps, sp, F, hr, hb, q2⟩
  exact ⟨I2.kIn, run_fn F hr hb .nil hx I2 r2 (by rw [List.append_nil]; exact q2)⟩
end
end Rs
end
section
/-! The places of the text. -/
set_option linter.all false
namespace Rs
open PySem L2
def top (i : Nat) : Stmt := PySem.Challenge.pw_rowshares_s01_answers.main.body.getD i (.Pass ⟨0, 0, 0, 0⟩)
abbrev d_given_out : Stmt := top 1
abbrev d_longest : Stmt := top 2
abbrev d_how_little : Stmt := top 3
abbrev d_planned : Stmt := top 4
abbrev d_picker_of : Stmt := top 5
abbrev d_rows_of : Stmt := top 6
abbrev d_most_minutes : Stmt := top 7
abbrev d_rows_without : Stmt := top 8
abbrev d_rows_set : Stmt := top 9
abbrev d_rows_exchanged : Stmt := top 10
abbrev d_how_much_longer : Stmt := top 11
abbrev m_Farm_init : Stmt := inClass (top 24) 0
abbrev m_Farm_begin : Stmt := inClass (top 24) 1
abbrev m_Farm_has_row : Stmt := inClass (top 24) 2
abbrev m_Farm_has_picker : Stmt := inClass (top 24) 3
abbrev m_Farm_change : Stmt := inClass (top 24) 4
abbrev m_Farm_take_back : Stmt := inClass (top 24) 5
abbrev d_are_minutes : Stmt := top 25
abbrev d_are_pickers : Stmt := top 26
abbrev d_answer_begin : Stmt := top 27
abbrev d_answer_row : Stmt := top 28
abbrev d_answer_out : Stmt := top 29
abbrev d_answer_minutes : Stmt := top 30
abbrev d_answer_pickers : Stmt := top 31
abbrev d_answer_back : Stmt := top 32
abbrev d_answer_least : Stmt := top 33
abbrev d_answer_plan : Stmt := top 34
abbrev d_answer_who : Stmt := top 35
abbrev d_answer_told : Stmt := top 36
abbrev d_answer_fewest : Stmt := top 37
abbrev d_answer_if_pickers : Stmt := top 38
abbrev d_answer_more : Stmt := top 39
abbrev d_answer_first : Stmt := top 40
abbrev d_answer_without : Stmt := top 41
abbrev d_answer_exchange : Stmt := top 42
abbrev d_answer_longer : Stmt := top 43
abbrev d_answer_idle : Stmt := top 44
abbrev d_answer_has : Stmt := top 45
abbrev d_answer_sums : Stmt := top 46
abbrev d_answer_state : Stmt := top 47
abbrev d_answer : Stmt := top 49
abbrev d_answers : Stmt := top 53
end Rs
end
section
/-! shares.py, def by def. -/
set_option Elab.async false
set_option linter.all false
set_option maxRecDepth 100000
set_option maxHeartbeats 2000000
namespace Rs
open PySem PySem.Spec PyProof.Rows L2
/-- a list of numbers as values -/
def vints (l : List Nat) : List V := (l.map Int.ofNat).map V.int
theorem vints_len (l : List Nat) : (vints l).length = l.length := by simp [vints]
theorem vints_app (l r : List Nat) : vints (l ++ r) = vints l ++ vints r := by simp [vints]
theorem vints_get {l : List Nat} {i : Nat} {v : V} (h : (vints l)[i]? = some v) : ∃ n, l[i]? = some n ∧ v = .int (n : Int) := by
  unfold vints at h
  rw [List.getElem?_map, List.getElem?_map] at h
  cases e : l[i]? with
  | none => rw [e] at h; cases h
  | some n => rw [e] at h; exact ⟨n, rfl, (Option.some.inj h).symm⟩
theorem vints_at {l : List Nat} {i n : Nat} (h : l[i]? = some n) : (vints l)[i]? = some (.int (n : Int)) := by
  unfold vints
  rw [List.getElem?_map, List.getElem?_map, h]
  rfl
theorem take_more {α : Type} {l : List α} {i : Nat} {x : α} (h : l[i]? = some x) : l.take (i + 1) = l.take i ++ [x] := by
  rw [List.take_succ, h]
  rfl
theorem last_ix {α : Type} (xs : List α) (v : α) : ixN (xs ++ [v]).length (-1) = some xs.length := by
  unfold ixN
  rw [List.length_append, List.length_singleton, if_neg (by decide), if_pos (by omega)]
  congr 1
  omega
theorem last_set {α : Type} (xs : List α) (v u : α) : (xs ++ [v]).set xs.length u = xs ++ [u] := by simp
section
variable {X : Cx}
/-- xs[i] of a list, by values -/
theorem get_list : PGet X (rIxL X.K) := by
  intro pins s σ H x y v u Q I rx ry h
  obtain ⟨p, xs, i, z, rfl, rfl, hq, he, q⟩ := h
  cases rx
  obtain ⟨t, rfl⟩ := ry
  obtain ⟨its, r, pl, hz⟩ := I.list hq
  obtain ⟨j, h1, h2, h3, h4, h5⟩ := atI_get he
  obtain ⟨w, ew, rw'⟩ := r.get h2
  have hl := r.length
  have hn := line63
  have fin : EP X pins σ Q w s := ⟨z, H, I, rw', q⟩
  by_cases h0 : 0 ≤ i
  · have hj : i.toNat = j := by
      rw [seqIndex_of h0 h5] at h1
      exact Option.some.inj h1
    exact wpAny_getItem_list pl.isList h0 (by omega) (by rw [hj]; simpa using ew) fin
  · have hj : (i + (its.toArray.size : Int)).toNat = j := by
      rw [seqIndex_neg (by omega) h4] at h1
      rw [List.size_toArray, ← hl]
      exact Option.some.inj h1
    exact wpAny_getItem_list_neg pl.isList (by omega) (by rw [List.size_toArray] <;> omega) (by omega) (by rw [hj]; simpa using ew) fin
end
theorem Same.upd {H : Hp} {p : Addr} {o : HO} (h : H p = none) : Same H (upd H p o) := fun b u e => by
  rw [upd_ne (ne_of_none e h)]
  exact e
/-- what the module binds and Python brings -/
structure Glo (mg : Str → Option Value) : Prop where
  len : mg "len" = none
  sum : mg "sum" = none
  max : mg "max" = none
section
variable {P : Program} {w : World} {K : PySem.W.Frag} {mg : Str → Option Value} {base : Heap}
/-! ### given_out -/
def spGiven (K : PySem.W.Frag) : Sp := fun vs H Q _ => ∃ (a : Addr) (l : List Nat) (m : Nat), vs = [.ref a, .int m] ∧ SqL K H a (vints l) ∧ l.length ≤ 100 ∧
  ∀ (H' : Hp) (p : Addr), Same H H' → H p = none → H' p = some (.lst (vints (Kh368.shares m l))) → Q (.ref p) H'
theorem sc_given : FnScope ["rows", "limit", "shares", "taken", "minutes"] ["rows", "limit"] (defScope d_given_out) := ⟨rfl, rfl, rfl, by decide +kernel, rfl, by decide +kernel, by decide +kernel⟩
/-- the shares so far and the minutes of the newest -/
def GivenAt (m : Nat) (l : List Nat) (a p : Addr) (H0 : Hp) (i : Nat) (σ : L2.St) (H : Hp) : Prop := ∃ v : Option V,
  σ = [some (.ref a), some (.int m), some (.ref p), some (.int ((run m (l.take i)).2 : Nat)), v] ∧ Same H0 H ∧ H p = some (.lst (vints (run m (l.take i)).1.reverse))
theorem run_len (m : Nat) (l : List Nat) : (run m l).1.length ≤ l.length := by
  have h : ∀ (l : List Nat), (∀ x ∈ l, 1 ≤ x) → l.length ≤ l.sum := by
    intro l
    induction l with
    | nil => intro _; exact Nat.le_refl _
    | cons a r ih =>
      intro h
      have h1 := h a List.mem_cons_self
      have h2 := ih fun x hx => h x (List.mem_cons_of_mem _ hx)
      rw [List.length_cons, List.sum_cons]
      omega
  have g : ∀ l : List Nat, ∀ x ∈ (run m l).1, 1 ≤ x := by
    intro l
    induction l using snoc_ind with
    | h0 => intro x hx; cases hx
    | h1 l y ih =>
      rw [run_snoc]
      cases q : run m l with
      | mk ss t =>
        rw [q] at ih
        cases ss with
        | nil =>
          intro x hx
          have := List.mem_singleton.mp (show x ∈ [1] from hx)
          omega
        | cons k r =>
          intro x hx
          by_cases d : t + y ≤ m
          · rw [stp_in d] at hx
            rcases List.mem_cons.mp hx with e | hx
            · omega
            · exact ih x (List.mem_cons_of_mem _ hx)
          · rw [stp_out d] at hx
            rcases List.mem_cons.mp hx with e | hx
            · omega
            · exact ih x hx
  have := h _ (g l)
  rw [run_sum] at this
  exact this
theorem ok_given {f : Addr} {fd : FuncData} (F : Fun K "given_out" "given_out" d_given_out f fd) (G : Glo mg) : FnOk P w K mg base CX0 1 f fd ["rows", "limit"] (spGiven K) := by
  refine F.ok sc_given (fun vs H Q E h => ?_) (fun cdv A outer s H vs Q E hr h => ?_)
  · obtain ⟨a, l, m, rfl, _⟩ := h
    rfl
  · obtain ⟨a, l, m, rfl, hS, hlen, k⟩ := h
    have nd := sc_given.nd
    refine ⟨_, pss_cons (ps_set (i := 2) nd rfl (Or.inl rfl) (pe_lst pa_nil)) (pss_cons (ps_set (i := 3) nd rfl (Or.inl rfl) pe_int)
      (pss_cons (ps_for PassesOwn.never rfl (pi_list (pv 0)) (pg_name (i := 4) nd rfl (Or.inl rfl))
        (pss_cons (ps_if (PW.pt (pw_or (pt_cmpR op_eq (pe_callB call_len_seq rfl G.len PySem.boot_len (pa_cons (pv 2) pa_nil)) pe_int (nomark _)) (pw_or1 (pt_cmpR op_gt (pe_op op_add (pv 3) (pv 4)) (pv 1) (nomark _)))))
            (pss_cons (ps_expr (pe_bm PySem.F.plainAttrs_list PySem.F.slot_list_append PySem.F.type_list_append mt_append (pv 2) (pa_cons pe_int pa_nil))) (pss_one (ps_set (i := 3) nd rfl (Or.inl rfl) pe_int))) pss_nil)
          (pss_cons (ps_augS (pv 2) (pe_un un_neg pe_int) get_list pe_int ip_add set_list) (pss_one (ps_aug (i := 3) nd rfl (Or.inl rfl) (pv 4) ip_add)))))
      (pss_one (ps_ret (pv 2))))), ?_⟩
    refine ⟨Nat.zero_le _, fun p hp => ?_⟩
    refine ⟨_, rfl, a, rfl, ⟨_, (Same.upd hp).seq hS⟩, for_list (K := K) (a := a) (xs := vints l) (GivenAt m l a p H)
      ⟨none, rfl, Same.upd hp, upd_same⟩ (fun i σ H' _ ⟨_, _, s1, _⟩ => s1.seq hS) ?_ ?_⟩
    · rintro i y σ H1 hi ⟨v, rfl, s1, hl1⟩
      obtain ⟨n, hn, rfl⟩ := vints_get hi
      have small : (run m (l.take i)).1.length ≤ 100 := by
        have := run_len m (l.take i)
        have h2 : (l.take i).length ≤ l.length := by rw [List.length_take]; omega
        omega
      have next := take_more hn
      cases q : run m (l.take i) with
      | mk ss t =>
        rw [q] at hl1 small
        have e1 : run m (l.take (i + 1)) = stp m (ss, t) n := by rw [next, run_snoc, q]
        have big : (100 : Nat) < sizeLine := by decide
        -- a new share is begun
        have opens : stp m (ss, t) n = (1 :: ss, n) → ∀ z : Int, z = 0 + (n : Int) → GivenAt m l a p H (i + 1) [some (.ref a), some (.int m), some (.ref p), some (.int z), some (.int n)]
            (upd (upd H1 p (.lst (vints ss.reverse ++ [V.int 0]))) p (.lst ((vints ss.reverse ++ [V.int 0]).set (vints ss.reverse).length (V.int (0 + 1))))) := by
          intro e2 z hz
          refine ⟨some (.int n), ?_, fun b o e => ?_, ?_⟩
          · rw [e1, e2, hz]
            simp
          · have hb : b ≠ p := ne_of_none e hp
            rw [upd_ne hb, upd_ne hb]
            exact s1 b o e
          · rw [upd_same, e1, e2, last_set]
            show _ = some (HO.lst (vints (1 :: ss).reverse))
            rw [List.reverse_cons, vints_app]
            rfl
        refine ⟨_, rfl, p, _, rfl, .inl (SqL.of hl1), rfl, _, rfl, ite2 (fun c => ?_) (fun c => ?_)⟩
        · have hs : ss = [] := by
            have c' := V.int.inj (of_decide_eq_true c)
            rw [vints_len] at c'
            have : ss.reverse.length = 0 := by
              have c2 : ((ss.reverse.length : Nat) : Int) = 0 := c'
              omega
            simpa using this
          refine ⟨_, rfl, .inl ⟨rfl, _, SqL.of hl1⟩, p, _, _, rfl, rfl, hl1, (by rw [vints_len, List.length_reverse]; exact Nat.lt_of_le_of_lt small big), ?_⟩
          refine ⟨_, rfl, _, rfl, p, _, _, _, rfl, rfl, SqL.of upd_same, atI_last _ _, _, _, rfl, rfl, p, _, _, _, rfl, rfl, upd_same, last_ix _ _, _, rfl, _, rfl, _, _, rfl, rfl, ?_⟩
          exact opens (by rw [hs, stp_nil]) _ rfl
        · have hs : ss ≠ [] := by
            intro e
            subst e
            exact c (decide_eq_true rfl)
          refine ⟨_, rfl, _, rfl, _, _, rfl, rfl, _, rfl, _, _, rfl, rfl, _, rfl, ite2 (fun c2 => ?_) (fun c2 => ?_)⟩
          · have c3 : ¬ t + n ≤ m := by
              have c4 : (m : Int) < (t : Int) + (n : Int) := of_decide_eq_true c2
              omega
            refine ⟨_, rfl, .inl ⟨rfl, _, SqL.of hl1⟩, p, _, _, rfl, rfl, hl1, (by rw [vints_len, List.length_reverse]; exact Nat.lt_of_le_of_lt small big), ?_⟩
            refine ⟨_, rfl, _, rfl, p, _, _, _, rfl, rfl, SqL.of upd_same, atI_last _ _, _, _, rfl, rfl, p, _, _, _, rfl, rfl, upd_same, last_ix _ _, _, rfl, _, rfl, _, _, rfl, rfl, ?_⟩
            refine opens ?_ _ rfl
            cases ss with
            | nil => exact absurd rfl hs
            | cons k r => exact stp_out c3
          · have c3 : t + n ≤ m := by
              have c4 : ¬ (m : Int) < (t : Int) + (n : Int) := fun z => c2 (decide_eq_true z)
              omega
            cases ss with
            | nil => exact absurd rfl hs
            | cons kk r =>
              have e3 : vints (kk :: r).reverse = vints r.reverse ++ [V.int (kk : Int)] := by
                rw [List.reverse_cons, vints_app]
                rfl
              have hl2 : H1 p = some (.lst (vints r.reverse ++ [V.int (kk : Int)])) := by rw [← e3]; exact hl1
              refine ⟨_, rfl, _, rfl, p, _, _, _, rfl, rfl, SqL.of hl2, atI_last _ _, _, _, rfl, rfl, p, _, _, _, rfl, rfl, hl2, last_ix _ _, _, rfl, _, rfl, _, _, rfl, rfl, ?_⟩
              have e4 : run m (l.take (i + 1)) = ((kk + 1) :: r, t + n) := e1.trans (stp_in c3)
              refine ⟨some (.int n), ?_, fun b o e => ?_, ?_⟩
              · rw [e4]
                rfl
              · have hb : b ≠ p := ne_of_none e hp
                rw [upd_ne hb]
                exact s1 b o e
              · rw [upd_same, e4, last_set]
                show _ = some (HO.lst (vints ((kk + 1) :: r).reverse))
                rw [List.reverse_cons, vints_app]
                rfl
    · rintro σ H1 ⟨v, rfl, s1, hl1⟩
      rw [vints_len, List.take_length] at hl1
      exact ⟨_, rfl, k _ p s1 hp hl1⟩
/-! ### a def that is called by its name -/
structure Dn (P : Program) (w : World) (K : PySem.W.Frag) (mg : Str → Option Value) (base : Heap) (k : Nat) (x : Str) (ps : List Str) (sp : Sp) : Prop where
  at_ : ∃ (f : Addr) (fd : FuncData), FnOk P w K mg base CX0 k f fd ps sp ∧ mg x = some (.ref f) ∧ PySem.W.keepIn K (.ref f) = true ∧ Binds K fd ps []
theorem Dn.mono {j k : Nat} {x : Str} {ps : List Str} {sp : Sp} (D : Dn P w K mg base j x ps sp) (h : j ≤ k) : Dn P w K mg base k x ps sp := by
  obtain ⟨f, fd, F, a, b, c⟩ := D.at_
  exact ⟨f, fd, F.mono h, a, b, c⟩
theorem pe_dn {X : Cx} {k : Nat} {x : Str} {ps : List Str} {sp : Sp} {e : Expr} {es : List Expr} {t : TA} {p pos : Pos} (D : Dn X.prog X.w X.K X.mg X.base k x ps sp) (hr : Room k X.A) (hg : Gl X x) (ha : PA X (e :: es) t)
    (hdb : (x == ("__debug__" : Str)) = false := by decide) (he : starEach (e :: es) X.env = (false, eval e X.env) :: starEach es X.env := by rfl) (hpl : (backTo pos (starEach es X.env)).any (·.1) = false := by rfl) :
    PE X (.Call (.Name x p) (e :: es) [] pos) (tCall sp [] E0 t) := by
  obtain ⟨f, fd, F, a, b, c⟩ := D.at_
  exact pe_call F hr hg a b c .nil pass0 ha hdb he hpl
theorem Dn.of {x : Str} {st : Stmt} {f : Addr} {fd : FuncData} {k : Nat} {ps : List Str} {sp : Sp} (F : Fun K x x st f fd) (ok : FnOk P w K mg base CX0 k f fd ps sp) (m : mg x = some (.ref f)) (b : Binds K fd ps []) : Dn P w K mg base k x ps sp := ⟨f, fd, ok, m, F.kp, b⟩
/-! ### longest -/
def spLongest (K : PySem.W.Frag) : Sp := fun vs H Q _ => ∃ (a : Addr) (l : List Nat), vs = [.ref a] ∧ SqL K H a (vints l) ∧ Q (.int (Kh368.greatest l : Nat)) H
theorem sc_longest : FnScope ["rows"] ["rows"] (defScope d_longest) := ⟨rfl, rfl, rfl, by decide +kernel, rfl, by decide +kernel, by decide +kernel⟩
theorem great_is {l : List Nat} {M : Int} (h1 : M ∈ l.map Int.ofNat) (h2 : ∀ y, y ∈ l.map Int.ofNat → y ≤ M) : M = (Kh368.greatest l : Nat) := by
  obtain ⟨n, hn, rfl⟩ := List.mem_map.mp h1
  have a := great_mem hn
  have ne : l ≠ [] := fun e => by rw [e] at hn; cases hn
  have b : Int.ofNat (Kh368.greatest l) ≤ Int.ofNat n := h2 _ (List.mem_map.mpr ⟨_, great_in ne, rfl⟩)
  have c : Kh368.greatest l ≤ n := Int.ofNat_le.mp b
  have d : n = Kh368.greatest l := Nat.le_antisymm a c
  rw [d]
  rfl
theorem ok_longest {f : Addr} {fd : FuncData} (F : Fun K "longest" "longest" d_longest f fd) (G : Glo mg) : FnOk P w K mg base CX0 1 f fd ["rows"] (spLongest K) := by
  refine F.ok sc_longest (fun vs H Q E h => ?_) (fun cdv A outer s H vs Q E hr h => ?_)
  · obtain ⟨a, l, rfl, _⟩ := h
    rfl
  · obtain ⟨a, l, rfl, hS, k⟩ := h
    refine ⟨_, pss_one (ps_ret (pe_maxOr rfl rfl G.max (pv 0))), ?_⟩
    refine ⟨_, rfl, a, l.map Int.ofNat, rfl, hS, fun e => ?_, fun M h1 h2 => ?_⟩
    · have e0 : l = [] := by simpa using e
      subst e0
      exact k
    · rw [great_is h1 h2]
      exact k
/-! ### how_little -/
def spLittle (K : PySem.W.Frag) : Sp := fun vs H Q _ => ∃ (a : Addr) (l : List Nat) (k : Nat), vs = [.ref a, .int k] ∧ SqL K H a (vints l) ∧ l.length ≤ 100 ∧ 1 ≤ k ∧ k ≤ 100 ∧
  ∀ (H' : Hp), Same H H' → Q (.int (Kh368.leastBy k l : Nat)) H'
theorem sc_little : FnScope ["rows", "pickers", "even_part", "limit"] ["rows", "pickers"] (defScope d_how_little) := ⟨rfl, rfl, rfl, by decide +kernel, rfl, by decide +kernel, by decide +kernel⟩
theorem sum_ofNat : ∀ l : List Nat, (l.map Int.ofNat).sum = ((l.sum : Nat) : Int)
  | [] => rfl
  | a :: r => by
    rw [List.map_cons, List.sum_cons, List.sum_cons, sum_ofNat r]
    exact (Int.natCast_add a r.sum).symm
theorem ok_little {f : Addr} {fd : FuncData} (F : Fun K "how_little" "how_little" d_how_little f fd) (G : Glo mg) (DG : Dn P w K mg base 1 "given_out" ["rows", "limit"] (spGiven K)) (DL : Dn P w K mg base 1 "longest" ["rows"] (spLongest K)) :
    FnOk P w K mg base CX0 2 f fd ["rows", "pickers"] (spLittle K) := by
  refine F.ok sc_little (fun vs H Q E h => ?_) (fun cdv A outer s H vs Q E hr h => ?_)
  · obtain ⟨a, l, k, rfl, _⟩ := h
    rfl
  · obtain ⟨a, l, k, rfl, hS, hlen, hk, hk2, kk⟩ := h
    have nd := sc_little.nd
    refine ⟨_, pss_cons (ps_set (i := 2) nd rfl (Or.inl rfl) (pe_op op_fdiv (pe_op op_sub (pe_op op_add (pe_callB (cr_sum rfl) rfl G.sum PyProof.Rows.boot_sum (pa_cons (pv 0) pa_nil)) (pv 1)) pe_int) (pv 1)))
      (pss_cons (ps_set (i := 3) nd rfl (Or.inl rfl) (pe_callB (call_max2 rfl) rfl G.max PyProof.Rows.boot_max (pa_cons (pe_dn DL hr rfl (pa_cons (pv 0) pa_nil)) (pa_cons (pv 2) pa_nil))))
      (pss_cons (ps_while PassesOwn.never (pt_cmpR op_gt (pe_callB call_len_seq rfl G.len PySem.boot_len (pa_cons (pe_dn DG hr rfl (pa_cons (pv 0) (pa_cons (pv 3) pa_nil))) pa_nil)) (pv 1) (nomark _))
        (pss_one (ps_aug (i := 3) nd rfl (Or.inl rfl) pe_int ip_add)))
      (pss_one (ps_ret (pv 3))))), ?_⟩
    refine ⟨_, rfl, a, l.map Int.ofNat, rfl, hS, _, rfl, _, _, rfl, rfl, _, _, rfl, rfl, _, rfl, _, _, rfl, rfl, ⟨by omega, by omega⟩, ?_⟩
    refine ⟨_, rfl, a, l, rfl, hS, _, rfl, _, _, rfl, ?_⟩
    have L := least_is l hk
    -- the number to begin with
    obtain ⟨z, hz, hz1, hz2⟩ : ∃ z : Nat, (if ((l.map Int.ofNat).sum + (k : Int) - 1) / (k : Int) > (Kh368.greatest l : Nat) then ((l.map Int.ofNat).sum + (k : Int) - 1) / (k : Int) else (Kh368.greatest l : Nat)) = (z : Int) ∧ Kh368.greatest l ≤ z ∧ z ≤ Kh368.leastBy k l := by
      rw [sum_ofNat]
      have e1 : ((l.sum : Nat) : Int) + (k : Int) - 1 = ((l.sum + k - 1 : Nat) : Int) := by omega
      rw [e1]
      have e2 : ((l.sum + k - 1 : Nat) : Int) / (k : Int) = (((l.sum + k - 1) / k : Nat) : Int) := (Int.natCast_ediv _ _).symm
      rw [e2]
      have e3 : (l.sum + k - 1) / k ≤ Kh368.leastBy k l := by
        have := sum_le_least l hk
        apply Nat.le_of_lt_succ
        rw [Nat.div_lt_iff_lt_mul (by omega), Nat.succ_mul, Nat.mul_comm]
        omega
      have := L.great
      by_cases c : ((((l.sum + k - 1) / k : Nat) : Int) > (Kh368.greatest l : Nat))
      · rw [if_pos c]
        exact ⟨_, rfl, by omega, e3⟩
      · rw [if_neg c]
        exact ⟨_, rfl, Nat.le_refl _, this⟩
    show tWhile _ _ _ _ _
    refine ⟨fun m σ H' => ∃ (x : Option V) (z : Nat), σ = [some (.ref a), some (.int k), x, some (.int (z : Int))] ∧ Same H H' ∧ Kh368.greatest l ≤ z ∧ z ≤ Kh368.leastBy k l ∧ m = Kh368.leastBy k l - z, ⟨_, some (V.int (((l.map Int.ofNat).sum + (k : Int) - 1) / (k : Int))), z, ?_, fun _ _ e => e, hz1, hz2, rfl⟩, ?_⟩
    · rw [← hz]
      rfl
    · rintro m σ H1 ⟨x, z, rfl, s1, g1, g2, rfl⟩
      refine ⟨_, rfl, _, rfl, a, l, z, rfl, s1.seq hS, hlen, fun H2 p s2 hp hl => ?_⟩
      refine ⟨p, _, rfl, .inl (SqL.of hl), _, rfl, _, _, rfl, rfl, _, rfl, ite2 (fun c => ?_) (fun c => ?_)⟩
      · have c1 : k < (Kh368.shares z l).length := by
          have c2 := of_decide_eq_true c
          rw [vints_len] at c2
          omega
        refine ⟨fun σ H' => ∃ (x : Option V) (z' : Nat), σ = [some (.ref a), some (.int k), x, some (.int (z' : Int))] ∧ Same H H' ∧ z' = z + 1, ?_, _, rfl, _, _, rfl, rfl, _, z + 1, rfl, s1.trans s2, rfl⟩
        rintro σ' H' ⟨x', z', rfl, s3, rfl⟩
        have lt : z < Kh368.leastBy k l := by
          rcases Nat.lt_or_ge z (Kh368.leastBy k l) with h | h
          · exact h
          · have e : z = Kh368.leastBy k l := Nat.le_antisymm g2 h
            have := L.few
            rw [← e] at this
            omega
        exact ⟨_, by omega, x', z + 1, rfl, s3, by omega, lt, rfl⟩
      · have c1 : (Kh368.shares z l).length ≤ k := by
          have c2 : ¬ _ := fun q => c (decide_eq_true q)
          rw [vints_len] at c2
          omega
        have e : z = Kh368.leastBy k l := Least.eq hk g1 c1 g2
        rw [← e] at kk
        exact ⟨_, rfl, kk H2 (s1.trans s2)⟩
/-! ### planned -/
def planOf (k : Nat) (l : List Nat) : List Nat := Kh368.shares (Kh368.leastBy k l) l ++ List.replicate (k - (Kh368.shares (Kh368.leastBy k l) l).length) 0
theorem plan_of (a : Kh368.Abs) : Kh368.plan a = planOf a.pickers a.rows := rfl
def spPlanned (K : PySem.W.Frag) : Sp := fun vs H Q _ => ∃ (a : Addr) (l : List Nat) (k : Nat), vs = [.ref a, .int k] ∧ SqL K H a (vints l) ∧ l.length ≤ 100 ∧ 1 ≤ k ∧ k ≤ 100 ∧
  ∀ (H' : Hp) (p : Addr), Same H H' → H p = none → H' p = some (.lst (vints (planOf k l))) → Q (.ref p) H'
theorem sc_planned : FnScope ["rows", "pickers", "shares"] ["rows", "pickers"] (defScope d_planned) := ⟨rfl, rfl, rfl, by decide +kernel, rfl, by decide +kernel, by decide +kernel⟩
theorem flat_rep (n : Nat) : (List.replicate n [V.int 0]).flatten = vints (List.replicate n 0) := by
  induction n with
  | zero => rfl
  | succ n ih =>
    rw [List.replicate_succ, List.flatten_cons, ih, List.replicate_succ]
    rfl
theorem ok_planned {f : Addr} {fd : FuncData} (F : Fun K "planned" "planned" d_planned f fd) (G : Glo mg) (DG : Dn P w K mg base 1 "given_out" ["rows", "limit"] (spGiven K)) (DH : Dn P w K mg base 2 "how_little" ["rows", "pickers"] (spLittle K)) :
    FnOk P w K mg base CX0 3 f fd ["rows", "pickers"] (spPlanned K) := by
  refine F.ok sc_planned (fun vs H Q E h => ?_) (fun cdv A outer s H vs Q E hr h => ?_)
  · obtain ⟨a, l, k, rfl, _⟩ := h
    rfl
  · obtain ⟨a, l, k, rfl, hS, hlen, hk, hk2, kk⟩ := h
    have nd := sc_planned.nd
    refine ⟨_, pss_cons (ps_set (i := 2) nd rfl (Or.inl rfl) (pe_dn (DG.mono (show 1 ≤ 2 by decide)) hr rfl (pa_cons (pv 0) (pa_cons (pe_dn DH hr rfl (pa_cons (pv 0) (pa_cons (pv 1) pa_nil))) pa_nil))))
      (pss_one (ps_ret (pe_op op_cat (pv 2) (pe_op op_rep (pe_lst (pa_cons pe_int pa_nil)) (pe_op op_sub (pv 1) (pe_callB call_len_seq rfl G.len PySem.boot_len (pa_cons (pv 2) pa_nil))))))), ?_⟩
    refine ⟨_, rfl, _, rfl, _, rfl, a, l, k, rfl, hS, hlen, hk, hk2, fun H1 s1 => ?_⟩
    refine ⟨a, l, _, rfl, s1.seq hS, hlen, fun H2 p s2 hp hl => ?_⟩
    have few := (least_is l hk).few
    refine ⟨_, rfl, (by show 1 ≤ sizeLine; decide), fun q hq => ?_⟩
    have s3 : Same H2 (upd H2 q (.lst [V.int 0])) := Same.upd hq
    refine ⟨_, rfl, _, rfl, p, _, rfl, .inl (SqL.of (s3 _ _ hl)), _, _, rfl, rfl, q, _, _, rfl, rfl, upd_same, ?_⟩
    have e1 : ((k : Int) - ((vints (Kh368.shares (Kh368.leastBy k l) l)).length : Int)).toNat = k - (Kh368.shares (Kh368.leastBy k l) l).length := by
      rw [vints_len]
      omega
    have e0 := vints_len (Kh368.shares (Kh368.leastBy k l) l)
    refine ⟨by omega, by omega, ?_, fun r hr' => ?_⟩
    · rw [e1]
      show 1 * _ ≤ sizeLine
      have : (100 : Nat) ≤ sizeLine := by decide
      omega
    · have s4 := Same.upd (o := .lst (List.replicate ((k : Int) - ((vints (Kh368.shares (Kh368.leastBy k l) l)).length : Int)).toNat [V.int 0]).flatten) hr'
      refine ⟨p, r, _, _, rfl, rfl, s4 _ _ (s3 _ _ hl), upd_same, ?_, fun u hu => ?_⟩
      · rw [e1, flat_rep, vints_len, vints_len, List.length_replicate]
        have : (100 : Nat) ≤ sizeLine := by decide
        omega
      · have s5 : Same H _ := s1.trans (s2.trans (s3.trans s4))
        refine kk _ u (s5.trans (Same.upd hu)) (s5.free hu) ?_
        rw [upd_same, e1, flat_rep, ← vints_app]
        rfl
/-! ### picker_of -/
def spPicker (K : PySem.W.Frag) : Sp := fun vs H Q _ => ∃ (a : Addr) (l : List Nat) (i : Nat), vs = [.ref a, .int i] ∧ SqL K H a (vints l) ∧ i < l.sum ∧ l.length ≤ 100 ∧
  ∀ p : Nat, (l.take p).sum ≤ i → i < (l.take (p + 1)).sum → Q (.int p) H
theorem sc_picker : FnScope ["shares", "i", "picker", "end"] ["shares", "i"] (defScope d_picker_of) := ⟨rfl, rfl, rfl, by decide +kernel, rfl, by decide +kernel, by decide +kernel⟩
theorem take_sum_succ {l : List Nat} {i n : Nat} (h : l[i]? = some n) : (l.take (i + 1)).sum = (l.take i).sum + n := by
  rw [take_more h, sum_snoc]
theorem ok_picker {f : Addr} {fd : FuncData} (F : Fun K "picker_of" "picker_of" d_picker_of f fd) : FnOk P w K mg base CX0 1 f fd ["shares", "i"] (spPicker K) := by
  refine F.ok sc_picker (fun vs H Q E h => ?_) (fun cdv A outer s H vs Q E hr h => ?_)
  · obtain ⟨a, l, i, rfl, _⟩ := h
    rfl
  · obtain ⟨a, l, i, rfl, hS, hi, hlen, kk⟩ := h
    have nd := sc_picker.nd
    refine ⟨_, pss_cons (ps_set (i := 2) nd rfl (Or.inl rfl) pe_int) (pss_cons (ps_set (i := 3) nd rfl (Or.inl rfl) (pe_ix ix_list (pv 0) pe_int (fun _ _ => rfl)))
      (pss_cons (ps_while PassesOwn.never (pt_cmpR op_ge (pv 1) (pv 3) (nomark _)) (pss_cons (ps_aug (i := 2) nd rfl (Or.inl rfl) pe_int ip_add) (pss_one (ps_aug (i := 3) nd rfl (Or.inl rfl) (pe_ix ix_list (pv 0) (pv 2) (fun _ _ => rfl)) ip_add))))
      (pss_one (ps_ret (pv 2))))), ?_⟩
    obtain ⟨n0, h0⟩ : ∃ n0, l[0]? = some n0 := by
      cases l with
      | nil => simp at hi
      | cons x r => exact ⟨x, rfl⟩
    refine ⟨_, rfl, a, _, _, _, rfl, rfl, hS, at_of (j := 0) rfl (vints_at h0), ?_⟩
    show tWhile _ _ _ _ _
    refine ⟨fun m σ H' => ∃ p : Nat, σ = [some (.ref a), some (.int i), some (.int (p : Int)), some (.int (((l.take (p + 1)).sum : Nat) : Int))] ∧ H' = H ∧ (l.take p).sum ≤ i ∧ p < l.length ∧ m = l.length - p, ⟨_, 0, ?_, rfl, Nat.zero_le _, ?_, rfl⟩, ?_⟩
    · have e := take_sum_succ h0
      simp only [Nat.zero_add, List.take_zero, List.sum_nil] at e
      rw [Nat.zero_add, e]
      rfl
    · exact (List.getElem?_eq_some_iff.mp h0).1
    · rintro m σ H1 ⟨p, rfl, rfl, g1, g2, rfl⟩
      refine ⟨_, rfl, _, rfl, _, _, rfl, rfl, _, rfl, ite2 (fun c => ?_) (fun c => ?_)⟩
      · have c1 : (l.take (p + 1)).sum ≤ i := Int.ofNat_le.mp (of_decide_eq_true c)
        have c2 : p + 1 < l.length := by
          rcases Nat.lt_or_ge (p + 1) l.length with h | h
          · exact h
          · rw [List.take_of_length_le h] at c1
            omega
        obtain ⟨n, hn⟩ : ∃ n, l[p + 1]? = some n := ⟨_, List.getElem?_eq_getElem c2⟩
        refine ⟨fun σ H' => σ = [some (.ref a), some (.int i), some (.int ((p + 1 : Nat) : Int)), some (.int (((l.take (p + 1 + 1)).sum : Nat) : Int))] ∧ H' = H1, ?_, _, rfl, _, _, rfl, rfl, _, rfl, _, rfl, _, rfl, a, _, _, _, rfl, rfl, hS, at_of (j := p + 1) rfl (vints_at hn), _, _, rfl, rfl, ?_, rfl⟩
        · rintro σ' H' ⟨rfl, rfl⟩
          exact ⟨_, by omega, p + 1, rfl, rfl, c1, c2, rfl⟩
        · rw [take_sum_succ hn]
          rfl
      · have c1 : i < (l.take (p + 1)).sum := by
          have c2 : ¬ _ := fun q => c (decide_eq_true q)
          have c3 : ¬ (((l.take (p + 1)).sum : Nat) : Int) ≤ (i : Int) := c2
          omega
        exact ⟨_, rfl, kk p g1 c1⟩
/-! ### most_minutes -/
def spMost (K : PySem.W.Frag) : Sp := fun vs H Q _ => ∃ (a b : Addr) (l p : List Nat), vs = [.ref a, .ref b] ∧ SqL K H a (vints l) ∧ SqL K H b (vints p) ∧ ∀ H' : Hp, Same H H' → Q (.int (Kh368.mostOf l p : Nat)) H'
theorem sc_most : FnScope ["rows", "shares", "most", "start", "count", "end"] ["rows", "shares"] (defScope d_most_minutes) := ⟨rfl, rfl, rfl, by decide +kernel, rfl, by decide +kernel, by decide +kernel⟩
theorem cut_vints (l : List Nat) (s c : Nat) : cutV (vints l) (some (s : Int)) (some ((s : Int) + (c : Int))) = vints ((l.drop s).take c) := by
  unfold cutV
  have e : (s : Int) + (c : Int) = ((s + c : Nat) : Int) := by omega
  rw [e, HT.sIx_nat, HT.sIx_nat, vints_len]
  unfold vints
  rw [← List.map_drop, ← List.map_drop, ← List.map_take, ← List.map_take]
  congr 2
  rcases Nat.le_total s l.length with h | h
  · rw [Nat.min_eq_left h]
    rcases Nat.le_total (s + c) l.length with h2 | h2
    · rw [Nat.min_eq_left h2]
      congr 1
      omega
    · rw [Nat.min_eq_right h2, List.take_of_length_le (by rw [List.length_drop]; omega), List.take_of_length_le (by rw [List.length_drop]; omega)]
  · rw [List.drop_of_length_le h, Nat.min_eq_right h, List.drop_of_length_le (Nat.le_refl _)]
    simp
theorem ok_most {f : Addr} {fd : FuncData} (F : Fun K "most_minutes" "most_minutes" d_most_minutes f fd) (G : Glo mg) : FnOk P w K mg base CX0 1 f fd ["rows", "shares"] (spMost K) := by
  refine F.ok sc_most (fun vs H Q E h => ?_) (fun cdv A outer s H vs Q E hr h => ?_)
  · obtain ⟨a, b, l, p, rfl, _⟩ := h
    rfl
  · obtain ⟨a, b, l, p, rfl, hA, hB, kk⟩ := h
    have nd := sc_most.nd
    refine ⟨_, pss_cons (ps_set (i := 2) nd rfl (Or.inl rfl) pe_int) (pss_cons (ps_set (i := 3) nd rfl (Or.inl rfl) pe_int)
      (pss_cons (ps_for PassesOwn.never rfl (pi_list (pv 1)) (pg_name (i := 4) nd rfl (Or.inl rfl))
        (pss_cons (ps_set (i := 5) nd rfl (Or.inl rfl) (pe_op op_add (pv 3) (pv 4)))
        (pss_cons (ps_set (i := 2) nd rfl (Or.inl rfl) (pe_callB (call_max2 rfl) rfl G.max PyProof.Rows.boot_max (pa_cons (pv 2) (pa_cons (pe_callB (cr_sum rfl) rfl G.sum PyProof.Rows.boot_sum (pa_cons (pe_slice sl_list (pv 0) (po_some (pv 3)) (po_some (pv 5))) pa_nil)) pa_nil))))
        (pss_one (ps_set (i := 3) nd rfl (Or.inl rfl) (pv 5))))))
      (pss_one (ps_ret (pv 2))))), ?_⟩
    refine ⟨_, rfl, b, rfl, ⟨_, hB⟩, for_list (K := K) (a := b) (xs := vints p) (fun i σ H' => ∃ v4 v5 : Option V, σ = [some (.ref a), some (.ref b), some (.int (Kh368.mostOf l (p.take i) : Nat)), some (.int ((p.take i).sum : Nat)), v4, v5] ∧ Same H H')
      ⟨none, none, rfl, fun _ _ e => e⟩ (fun i σ H' _ ⟨_, _, _, s1⟩ => s1.seq hB) ?_ ?_⟩
    · rintro i y σ H1 hi ⟨v4, v5, rfl, s1⟩
      obtain ⟨n, hn, rfl⟩ := vints_get hi
      refine ⟨_, rfl, _, rfl, _, _, rfl, rfl, _, rfl, _, rfl, _, rfl, _, rfl, _, rfl, _, rfl, a, _, rfl, s1.seq hA, fun q hq => ?_⟩
      have s2 := Same.upd (o := .lst (cutV (vints l) (some ((p.take i).sum : Nat)) (some (((p.take i).sum : Nat) + (n : Int))))) hq
      refine ⟨q, ((l.drop (p.take i).sum).take n).map Int.ofNat, rfl, SqL.of ?_, _, _, rfl, _, rfl, some (.int n), some (.int (((p.take i).sum : Nat) + (n : Int))), ?_, s1.trans s2⟩
      · rw [upd_same, cut_vints]
        rfl
      · have e1 : ((p.take (i + 1)).sum : Nat) = (p.take i).sum + n := take_sum_succ hn
        have e2 : Kh368.mostOf l (p.take (i + 1)) = max (Kh368.mostOf l (p.take i)) ((l.drop (p.take i).sum).take n).sum := by rw [take_more hn, most_snoc]
        rw [e1, e2, sum_ofNat]
        have e3 : (if (((l.drop (p.take i).sum).take n).sum : Int) > (Kh368.mostOf l (p.take i) : Nat) then (((l.drop (p.take i).sum).take n).sum : Int) else ((Kh368.mostOf l (p.take i) : Nat) : Int)) = ((max (Kh368.mostOf l (p.take i)) ((l.drop (p.take i).sum).take n).sum : Nat) : Int) := by
          split <;> omega
        rw [e3]
        rfl
    · rintro σ H1 ⟨v4, v5, rfl, s1⟩
      rw [vints_len, List.take_length]
      exact ⟨_, rfl, kk _ s1⟩
end
end Rs
end
section
/-! shares.py, stage 2: rows_of, rows_without, rows_set, rows_exchanged, how_much_longer. -/
set_option Elab.async false
set_option linter.all false
set_option maxRecDepth 100000
set_option maxHeartbeats 2000000
namespace Rs
open PySem PySem.Spec PyProof.Rows L2
theorem big100 {n : Nat} (h : n ≤ 100) : n ≤ sizeLine := Nat.le_trans h (by decide)
theorem cut_to (l : List Nat) (i : Nat) : cutV (vints l) none (some (i : Int)) = vints (l.take i) := by
  unfold cutV
  rw [HT.sIx_none, HT.sIx_nat, vints_len]
  unfold vints
  rw [List.drop_zero, ← List.map_take, ← List.map_take]
  congr 2
  rcases Nat.le_total i l.length with h | h
  · rw [Nat.min_eq_left h]
    rfl
  · rw [Nat.min_eq_right h, List.take_of_length_le h, List.take_of_length_le (by omega)]
theorem cut_from (l : List Nat) (i : Nat) : cutV (vints l) (some (i : Int)) none = vints (l.drop i) := by
  unfold cutV
  rw [HT.sIx_none, HT.sIx_nat, vints_len]
  unfold vints
  rw [← List.map_drop, ← List.map_drop, ← List.map_take, ← List.map_take]
  congr 2
  rcases Nat.le_total i l.length with h | h
  · rw [Nat.min_eq_left h, List.take_of_length_le (by rw [List.length_drop]; exact Nat.le_refl _)]
  · rw [Nat.min_eq_right h, List.drop_of_length_le h, List.drop_of_length_le (Nat.le_refl _)]
    simp
theorem getD_of {l : List Nat} {i n : Nat} (h : l[i]? = some n) : l.getD i 0 = n := by
  rw [List.getD_eq_getElem?_getD, h]
  rfl
theorem get_of {l : List Nat} {i : Nat} (h : i < l.length) : ∃ n, l[i]? = some n := ⟨_, List.getElem?_eq_getElem h⟩
theorem swap_is {l : List Nat} {i x y : Nat} (hx : l[i]? = some x) (hy : l[i + 1]? = some y) : l.take i ++ [y, x] ++ l.drop (i + 2) = (l.set i y).set (i + 1) x := by
  obtain ⟨h1, e1⟩ := List.getElem?_eq_some_iff.mp hx
  obtain ⟨h2, e2⟩ := List.getElem?_eq_some_iff.mp hy
  apply List.ext_getElem?
  intro j
  rcases Nat.lt_or_ge j i with c | c
  · rw [List.append_assoc, List.getElem?_append_left (by rw [List.length_take]; omega), List.getElem?_take_of_lt c, List.getElem?_set_ne (by omega), List.getElem?_set_ne (by omega)]
  · have lt : (l.take i).length = i := by rw [List.length_take]; omega
    rw [List.append_assoc, List.getElem?_append_right (by omega), lt]
    rcases Nat.lt_or_ge j (i + 2) with d | d
    · rcases (show j = i ∨ j = i + 1 by omega) with e | e
      · subst e
        rw [List.getElem?_set_ne (by omega), List.getElem?_set_self h1, Nat.sub_self]
        rfl
      · subst e
        rw [List.getElem?_set_self (by rw [List.length_set]; exact h2), Nat.add_sub_cancel_left]
        rfl
    · rw [List.getElem?_append_right (by simp; omega), List.getElem?_set_ne (by omega), List.getElem?_set_ne (by omega), List.getElem?_drop]
      congr 1
      simp
      omega
section
variable {P : Program} {w : World} {K : PySem.W.Frag} {mg : Str → Option Value} {base : Heap}
/-! ### rows_without -/
def spWithout (K : PySem.W.Frag) : Sp := fun vs H Q _ => ∃ (a : Addr) (l : List Nat) (i : Nat), vs = [.ref a, .int (i : Int)] ∧ SqL K H a (vints l) ∧ l.length ≤ 50 ∧
  ∀ (H' : Hp) (p : Addr), Same H H' → H p = none → H' p = some (.lst (vints (l.eraseIdx i))) → Q (.ref p) H'
theorem sc_without : FnScope ["rows", "i"] ["rows", "i"] (defScope d_rows_without) := ⟨rfl, rfl, rfl, by decide +kernel, rfl, by decide +kernel, by decide +kernel⟩
theorem ok_without {f : Addr} {fd : FuncData} (F : Fun K "rows_without" "rows_without" d_rows_without f fd) : FnOk P w K mg base CX0 1 f fd ["rows", "i"] (spWithout K) := by
  refine F.ok sc_without (fun vs H Q E h => ?_) (fun cdv A outer s H vs Q E hr h => ?_)
  · obtain ⟨a, l, i, rfl, _⟩ := h
    rfl
  · obtain ⟨a, l, i, rfl, hS, hlen, kk⟩ := h
    refine ⟨_, pss_one (ps_ret (pe_op op_cat (pe_slice sl_list (pv 0) po_none (po_some (pv 1))) (pe_slice sl_list (pv 0) (po_some (pe_op op_add (pv 1) pe_int)) po_none))), ?_⟩
    refine ⟨_, rfl, _, rfl, _, rfl, a, _, rfl, hS, fun q hq => ?_⟩
    have s1 := Same.upd (o := .lst (cutV (vints l) none (some (i : Int)))) hq
    refine ⟨_, rfl, _, rfl, _, _, rfl, rfl, _, rfl, a, _, rfl, s1.seq hS, fun v hv => ?_⟩
    have s2 := s1.trans (Same.upd (o := .lst (cutV (vints l) (some ((i : Int) + 1)) none)) hv)
    have e1 : cutV (vints l) none (some (i : Int)) = vints (l.take i) := cut_to _ _
    have e2 : cutV (vints l) (some ((i : Int) + 1)) none = vints (l.drop (i + 1)) := cut_from l (i + 1)
    refine ⟨q, v, _, _, rfl, rfl, Same.upd hv _ _ upd_same, upd_same, ?_, fun x hx => ?_⟩
    · rw [e1, e2, vints_len, vints_len, List.length_take, List.length_drop]
      exact big100 (by omega)
    · have s3 := s2.trans (Same.upd (o := .lst (cutV (vints l) none (some (i : Int)) ++ cutV (vints l) (some ((i : Int) + 1)) none)) hx)
      refine kk _ x s3 (s2.free hx) ?_
      rw [upd_same, e1, e2, ← vints_app, List.eraseIdx_eq_take_drop_succ]
/-! ### rows_set -/
def spSet (K : PySem.W.Frag) : Sp := fun vs H Q _ => ∃ (a : Addr) (l : List Nat) (i n : Nat), vs = [.ref a, .int (i : Int), .int (n : Int)] ∧ SqL K H a (vints l) ∧ l.length ≤ 50 ∧ i < l.length ∧
  ∀ (H' : Hp) (p : Addr), Same H H' → H p = none → H' p = some (.lst (vints (l.set i n))) → Q (.ref p) H'
theorem sc_set : FnScope ["rows", "i", "minutes"] ["rows", "i", "minutes"] (defScope d_rows_set) := ⟨rfl, rfl, rfl, by decide +kernel, rfl, by decide +kernel, by decide +kernel⟩
theorem ok_set {f : Addr} {fd : FuncData} (F : Fun K "rows_set" "rows_set" d_rows_set f fd) : FnOk P w K mg base CX0 1 f fd ["rows", "i", "minutes"] (spSet K) := by
  refine F.ok sc_set (fun vs H Q E h => ?_) (fun cdv A outer s H vs Q E hr h => ?_)
  · obtain ⟨a, l, i, n, rfl, _⟩ := h
    rfl
  · obtain ⟨a, l, i, n, rfl, hS, hlen, hi, kk⟩ := h
    refine ⟨_, pss_one (ps_ret (pe_op op_cat (pe_op op_cat (pe_slice sl_list (pv 0) po_none (po_some (pv 1))) (pe_lst (pa_cons (pv 2) pa_nil))) (pe_slice sl_list (pv 0) (po_some (pe_op op_add (pv 1) pe_int)) po_none))), ?_⟩
    refine ⟨_, rfl, _, rfl, _, rfl, a, _, rfl, hS, fun q hq => ?_⟩
    have s1 := Same.upd (o := .lst (cutV (vints l) none (some (i : Int)))) hq
    refine ⟨_, rfl, (by show 1 ≤ sizeLine; decide), fun v hv => ?_⟩
    have s2 := s1.trans (Same.upd (o := .lst [V.int (n : Int)]) hv)
    have e1 : cutV (vints l) none (some (i : Int)) = vints (l.take i) := cut_to _ _
    have e2 : cutV (vints l) (some ((i : Int) + 1)) none = vints (l.drop (i + 1)) := cut_from l (i + 1)
    refine ⟨q, v, _, _, rfl, rfl, Same.upd hv _ _ upd_same, upd_same, (by rw [e1, vints_len, List.length_take, List.length_singleton]; exact big100 (by omega)), fun x hx => ?_⟩
    have s3 := s2.trans (Same.upd (o := .lst (cutV (vints l) none (some (i : Int)) ++ [V.int (n : Int)])) hx)
    refine ⟨_, rfl, _, rfl, _, _, rfl, rfl, _, rfl, a, _, rfl, s3.seq hS, fun y hy => ?_⟩
    have s4 := s3.trans (Same.upd (o := .lst (cutV (vints l) (some ((i : Int) + 1)) none)) hy)
    refine ⟨x, y, _, _, rfl, rfl, Same.upd hy _ _ upd_same, upd_same, ?_, fun z hz => ?_⟩
    · rw [e1, e2, List.length_append, vints_len, vints_len, List.length_take, List.length_drop, List.length_singleton]
      exact big100 (by omega)
    · have s5 := s4.trans (Same.upd (o := .lst ((cutV (vints l) none (some (i : Int)) ++ [V.int (n : Int)]) ++ cutV (vints l) (some ((i : Int) + 1)) none)) hz)
      refine kk _ z s5 (s4.free hz) ?_
      rw [upd_same, e1, e2]
      have e3 : [V.int (n : Int)] = vints [n] := rfl
      rw [e3, ← vints_app, ← vints_app, List.set_eq_take_append_cons_drop, if_pos hi, List.append_assoc]
      rfl
/-! ### rows_exchanged -/
def spSwap (K : PySem.W.Frag) : Sp := fun vs H Q _ => ∃ (a : Addr) (l : List Nat) (i : Nat), vs = [.ref a, .int (i : Int)] ∧ SqL K H a (vints l) ∧ l.length ≤ 50 ∧ i + 1 < l.length ∧
  ∀ (H' : Hp) (p : Addr), Same H H' → H p = none → H' p = some (.lst (vints ((l.set i (l.getD (i + 1) 0)).set (i + 1) (l.getD i 0)))) → Q (.ref p) H'
theorem sc_swap : FnScope ["rows", "i"] ["rows", "i"] (defScope d_rows_exchanged) := ⟨rfl, rfl, rfl, by decide +kernel, rfl, by decide +kernel, by decide +kernel⟩
theorem ok_swap {f : Addr} {fd : FuncData} (F : Fun K "rows_exchanged" "rows_exchanged" d_rows_exchanged f fd) : FnOk P w K mg base CX0 1 f fd ["rows", "i"] (spSwap K) := by
  refine F.ok sc_swap (fun vs H Q E h => ?_) (fun cdv A outer s H vs Q E hr h => ?_)
  · obtain ⟨a, l, i, rfl, _⟩ := h
    rfl
  · obtain ⟨a, l, i, rfl, hS, hlen, hi, kk⟩ := h
    obtain ⟨n0, h0⟩ := get_of (show i < l.length by omega)
    obtain ⟨n1, h1⟩ := get_of hi
    refine ⟨_, pss_one (ps_ret (pe_op op_cat (pe_op op_cat (pe_slice sl_list (pv 0) po_none (po_some (pv 1))) (pe_lst (pa_cons (pe_ix ix_list (pv 0) (pe_op op_add (pv 1) pe_int) (fun _ _ => rfl)) (pa_cons (pe_ix ix_list (pv 0) (pv 1) (fun _ _ => rfl)) pa_nil)))) (pe_slice sl_list (pv 0) (po_some (pe_op op_add (pv 1) pe_int)) po_none))), ?_⟩
    refine ⟨_, rfl, _, rfl, _, rfl, a, _, rfl, hS, fun q hq => ?_⟩
    have s1 := Same.upd (o := .lst (cutV (vints l) none (some (i : Int)))) hq
    refine ⟨_, rfl, _, rfl, _, _, rfl, rfl, a, _, _, _, rfl, rfl, s1.seq hS, at_of (j := i + 1) rfl (vints_at h1), _, rfl, _, rfl, a, _, _, _, rfl, rfl, s1.seq hS, at_of (j := i) rfl (vints_at h0), (by show 2 ≤ sizeLine; decide), fun v hv => ?_⟩
    have s2 := s1.trans (Same.upd (o := .lst [V.int (n1 : Int), V.int (n0 : Int)]) hv)
    have e1 : cutV (vints l) none (some (i : Int)) = vints (l.take i) := cut_to _ _
    have e2 : cutV (vints l) (some ((i : Int) + 2)) none = vints (l.drop (i + 2)) := cut_from l (i + 2)
    refine ⟨q, v, _, _, rfl, rfl, Same.upd hv _ _ upd_same, upd_same, (by rw [e1, vints_len, List.length_take]; show _ + 2 ≤ _; exact big100 (by omega)), fun x hx => ?_⟩
    have s3 := s2.trans (Same.upd (o := .lst (cutV (vints l) none (some (i : Int)) ++ [V.int (n1 : Int), V.int (n0 : Int)])) hx)
    refine ⟨_, rfl, _, rfl, _, _, rfl, rfl, _, rfl, a, _, rfl, s3.seq hS, fun y hy => ?_⟩
    have s4 := s3.trans (Same.upd (o := .lst (cutV (vints l) (some ((i : Int) + 2)) none)) hy)
    refine ⟨x, y, _, _, rfl, rfl, Same.upd hy _ _ upd_same, upd_same, ?_, fun z hz => ?_⟩
    · rw [e1, e2, List.length_append, vints_len, vints_len, List.length_take, List.length_drop]
      show _ + 2 + _ ≤ _
      exact big100 (by omega)
    · have s5 := s4.trans (Same.upd (o := .lst ((cutV (vints l) none (some (i : Int)) ++ [V.int (n1 : Int), V.int (n0 : Int)]) ++ cutV (vints l) (some ((i : Int) + 2)) none)) hz)
      refine kk _ z s5 (s4.free hz) ?_
      rw [upd_same, e1, e2]
      have e3 : [V.int (n1 : Int), V.int (n0 : Int)] = vints [n1, n0] := rfl
      rw [e3, ← vints_app, ← vints_app, getD_of h0, getD_of h1, swap_is h0 h1]
/-! ### rows_of -/
def spOf (K : PySem.W.Frag) : Sp := fun vs H Q _ => ∃ (a b : Addr) (l sh : List Nat) (p : Nat), vs = [.ref a, .ref b, .int (p : Int)] ∧ SqL K H a (vints l) ∧ SqL K H b (vints sh) ∧ p < sh.length ∧
  ∀ (H' : Hp) (q : Addr), Same H H' → H q = none → H' q = some (.lst (vints ((l.drop (sh.take p).sum).take (sh.getD p 0)))) → Q (.ref q) H'
theorem sc_of : FnScope ["rows", "shares", "picker", "start"] ["rows", "shares", "picker"] (defScope d_rows_of) := ⟨rfl, rfl, rfl, by decide +kernel, rfl, by decide +kernel, by decide +kernel⟩
theorem ok_of {f : Addr} {fd : FuncData} (F : Fun K "rows_of" "rows_of" d_rows_of f fd) (G : Glo mg) : FnOk P w K mg base CX0 1 f fd ["rows", "shares", "picker"] (spOf K) := by
  refine F.ok sc_of (fun vs H Q E h => ?_) (fun cdv A outer s H vs Q E hr h => ?_)
  · obtain ⟨a, b, l, sh, p, rfl, _⟩ := h
    rfl
  · obtain ⟨a, b, l, sh, p, rfl, hA, hB, hp, kk⟩ := h
    obtain ⟨n, hn⟩ := get_of hp
    have nd := sc_of.nd
    refine ⟨_, pss_cons (ps_set (i := 3) nd rfl (Or.inl rfl) (pe_callB (cr_sum rfl) rfl G.sum PyProof.Rows.boot_sum (pa_cons (pe_slice sl_list (pv 1) po_none (po_some (pv 2))) pa_nil)))
      (pss_one (ps_ret (pe_slice sl_list (pv 0) (po_some (pv 3)) (po_some (pe_op op_add (pv 3) (pe_ix ix_list (pv 1) (pv 2) (fun _ _ => rfl))))))), ?_⟩
    refine ⟨_, rfl, _, rfl, _, rfl, b, _, rfl, hB, fun q hq => ?_⟩
    have s1 := Same.upd (o := .lst (cutV (vints sh) none (some (p : Int)))) hq
    refine ⟨q, (sh.take p).map Int.ofNat, rfl, SqL.of (by rw [upd_same, cut_to]; rfl), ?_⟩
    rw [sum_ofNat]
    refine ⟨_, rfl, _, rfl, _, rfl, _, rfl, _, rfl, _, rfl, b, _, _, _, rfl, rfl, s1.seq hB, at_of (j := p) rfl (vints_at hn), _, _, rfl, rfl, _, rfl, a, _, rfl, s1.seq hA, fun x hx => ?_⟩
    refine kk _ x (s1.trans (Same.upd hx)) (s1.free hx) ?_
    rw [upd_same, cut_vints, getD_of hn]
/-! ### how_much_longer -/
theorem great_set_le {l : List Nat} {i v m : Nat} (h1 : Kh368.greatest l ≤ m) (h2 : v ≤ m) : Kh368.greatest (l.set i v) ≤ m := great_le fun x hx => by
  rcases List.mem_or_eq_of_mem_set hx with h | h
  · exact Nat.le_trans (great_mem h) h1
  · omega
theorem set_back {l : List Nat} {i n : Nat} (h : l[i]? = some n) : l.set i n = l := by
  obtain ⟨hi, e⟩ := List.getElem?_eq_some_iff.mp h
  rw [← e]
  exact List.set_getElem_self hi
/-- a minute more is too much -/
theorem too_long {k : Nat} {l : List Nat} {i n v : Nat} (hk : 1 ≤ k) (h : l[i]? = some n) (hv : n ≤ v) (c : Kh368.leastBy k l < v ∨ k < (Kh368.shares (Kh368.leastBy k l) (l.set i v)).length) : Kh368.leastBy k l < Kh368.leastBy k (l.set i v) := by
  have R := least_is (l.set i v) hk
  rcases c with c | c
  · have := great_set (l := l) (v := v) (List.getElem?_eq_some_iff.mp h).1
    exact Nat.lt_of_lt_of_le c (Nat.le_trans this R.great)
  · have mono : Kh368.leastBy k l ≤ Kh368.leastBy k (l.set i v) := by
      have := least_mono hk (below_set l i hv)
      rwa [set_back h] at this
    rcases Nat.lt_or_ge (Kh368.leastBy k l) (Kh368.leastBy k (l.set i v)) with d | d
    · exact d
    · have e : Kh368.leastBy k l = Kh368.leastBy k (l.set i v) := Nat.le_antisymm mono d
      rw [e] at c
      have := R.few
      omega
def spMuch (K : PySem.W.Frag) : Sp := fun vs H Q _ => ∃ (a : Addr) (l : List Nat) (k i : Nat), vs = [.ref a, .int (k : Int), .int (i : Int)] ∧ SqL K H a (vints l) ∧ l.length ≤ 50 ∧ i < l.length ∧ 1 ≤ k ∧ k ≤ 100 ∧
  ∀ H' : Hp, Same H H' → Q (.int (Kh368.longer ⟨k, l, []⟩ i : Nat)) H'
theorem sc_much : FnScope ["rows", "pickers", "i", "limit", "minutes"] ["rows", "pickers", "i"] (defScope d_how_much_longer) := ⟨rfl, rfl, rfl, by decide +kernel, rfl, by decide +kernel, by decide +kernel⟩
theorem ok_much {f : Addr} {fd : FuncData} (F : Fun K "how_much_longer" "how_much_longer" d_how_much_longer f fd) (G : Glo mg) (DG : Dn P w K mg base 1 "given_out" ["rows", "limit"] (spGiven K)) (DH : Dn P w K mg base 2 "how_little" ["rows", "pickers"] (spLittle K))
    (DS : Dn P w K mg base 1 "rows_set" ["rows", "i", "minutes"] (spSet K)) : FnOk P w K mg base CX0 3 f fd ["rows", "pickers", "i"] (spMuch K) := by
  refine F.ok sc_much (fun vs H Q E h => ?_) (fun cdv A outer s H vs Q E hr h => ?_)
  · obtain ⟨a, l, k, i, rfl, _⟩ := h
    rfl
  · obtain ⟨a, l, k, i, rfl, hS, hlen, hi, hk, hk2, kk⟩ := h
    obtain ⟨n, hn⟩ := get_of hi
    have nd := sc_much.nd
    have hr1 : Room 1 _ := hr.mono (by decide)
    refine ⟨_, pss_cons (ps_set (i := 3) nd rfl (Or.inl rfl) (pe_dn DH hr rfl (pa_cons (pv 0) (pa_cons (pv 1) pa_nil))))
      (pss_cons (ps_set (i := 4) nd rfl (Or.inl rfl) (pe_ix ix_list (pv 0) (pv 2) (fun _ _ => rfl)))
      (pss_cons (ps_while PassesOwn.never (PW.pt (pw_and (pt_cmpR op_lt (pv 4) (pv 3) (nomark _)) (pw_and1 (pt_cmpR op_le (pe_callB call_len_seq rfl G.len PySem.boot_len (pa_cons (pe_dn DG hr1 rfl (pa_cons (pe_dn DS hr1 rfl (pa_cons (pv 0) (pa_cons (pv 2) (pa_cons (pe_op op_add (pv 4) pe_int) pa_nil)))) (pa_cons (pv 3) pa_nil))) pa_nil)) (pv 1) (nomark _)))))
        (pss_one (ps_aug (i := 4) nd rfl (Or.inl rfl) pe_int ip_add)))
      (pss_one (ps_ret (pe_op op_sub (pv 4) (pe_ix ix_list (pv 0) (pv 2) (fun _ _ => rfl))))))), ?_⟩
    refine ⟨_, rfl, _, rfl, a, l, k, rfl, hS, Nat.le_trans hlen (by decide), hk, hk2, fun H1 s1 => ?_⟩
    refine ⟨_, rfl, _, rfl, a, _, _, _, rfl, rfl, s1.seq hS, at_of (j := i) rfl (vints_at hn), ?_⟩
    have L := least_is l hk
    show tWhile _ _ _ _ _
    refine ⟨fun m σ H' => ∃ z : Nat, σ = [some (.ref a), some (.int (k : Int)), some (.int (i : Int)), some (.int (Kh368.leastBy k l : Nat)), some (.int ((n + z : Nat) : Int))] ∧ Same H H' ∧ Kh368.leastBy k (l.set i (n + z)) ≤ Kh368.leastBy k l ∧ m = Kh368.leastBy k l - (n + z), ⟨_, 0, rfl, s1, by rw [Nat.add_zero, set_back hn]; exact Nat.le_refl _, rfl⟩, ?_⟩
    rintro m σ H2 ⟨z, rfl, s2, g1, rfl⟩
    have out : Kh368.leastBy k l < Kh368.leastBy k (l.set i (n + (z + 1))) → ∀ H' : Hp, Same H H' → Q (.int (((n + z : Nat) : Int) - (n : Int))) H' := fun g2 H' s' => by
      have gd := getD_of hn
      have e := longer_is (a := ⟨k, l, []⟩) (i := i) (X := z) hk hi (by rw [gd]; exact g1) (by rw [gd]; exact g2)
      have e2 : ((n + z : Nat) : Int) - (n : Int) = ((Kh368.longer ⟨k, l, []⟩ i : Nat) : Int) := by rw [e]; omega
      rw [e2]
      exact kk H' s'
    refine ⟨_, rfl, _, rfl, _, _, rfl, rfl, _, rfl, ite2 (fun c => ?_) (fun c => ?_)⟩
    · have c1 : n + z < Kh368.leastBy k l := Int.ofNat_lt.mp (of_decide_eq_true c)
      refine ⟨_, rfl, _, rfl, _, rfl, _, _, rfl, rfl, a, l, i, n + (z + 1), rfl, s2.seq hS, hlen, hi, fun H3 p s3 hp hl => ?_⟩
      refine ⟨_, rfl, p, l.set i (n + (z + 1)), Kh368.leastBy k l, rfl, SqL.of hl, (by rw [List.length_set]; exact Nat.le_trans hlen (by decide)), fun H4 q s4 hq hl4 => ?_⟩
      refine ⟨q, _, rfl, .inl (SqL.of hl4), _, rfl, _, _, rfl, rfl, _, rfl, ite2 (fun c => ?_) (fun c => ?_)⟩
      · have c2 : (Kh368.shares (Kh368.leastBy k l) (l.set i (n + (z + 1)))).length ≤ k := by
          have c3 := of_decide_eq_true c
          rw [vints_len] at c3
          omega
        have g2 : Kh368.leastBy k (l.set i (n + (z + 1))) ≤ Kh368.leastBy k l := (least_is _ hk).first _ (great_set_le L.great (by omega)) c2
        refine ⟨fun σ H' => σ = [some (.ref a), some (.int (k : Int)), some (.int (i : Int)), some (.int (Kh368.leastBy k l : Nat)), some (.int ((n + (z + 1) : Nat) : Int))] ∧ Same H H', ?_, _, rfl, _, _, rfl, rfl, rfl, s2.trans (s3.trans s4)⟩
        rintro σ' H' ⟨rfl, s5⟩
        exact ⟨_, by omega, z + 1, rfl, s5, g2, rfl⟩
      · have c2 : k < (Kh368.shares (Kh368.leastBy k l) (l.set i (n + (z + 1)))).length := by
          have c3 : ¬ _ := fun q => c (decide_eq_true q)
          rw [vints_len] at c3
          omega
        have s5 := s2.trans (s3.trans s4)
        exact ⟨_, rfl, _, rfl, _, rfl, a, _, _, _, rfl, rfl, s5.seq hS, at_of (j := i) rfl (vints_at hn), _, _, rfl, rfl, out (too_long hk hn (by omega) (.inr c2)) _ s5⟩
    · have c1 : ¬ n + z < Kh368.leastBy k l := fun q => c (decide_eq_true (Int.ofNat_lt.mpr q))
      exact ⟨_, rfl, _, rfl, _, rfl, a, _, _, _, rfl, rfl, s2.seq hS, at_of (j := i) rfl (vints_at hn), _, _, rfl, rfl, out (too_long hk hn (by omega) (.inl (by omega))) _ s2⟩
end
end Rs
end
section
/-! farm.py: the class, its methods. -/
set_option Elab.async false
set_option linter.all false
set_option maxRecDepth 100000
set_option maxHeartbeats 2000000
namespace Rs
open PySem PySem.Spec PyProof.Rows L2
/-! ### the data -/
def ff (b k r u : V) : List (Str × V) := [("begun", b), ("pickers", k), ("rows", r), ("past", u)]
theorem ff_begun (b k r u : V) : (ff b k r u).lookup ("begun" : Str) = some b := rfl
theorem ff_pickers (b k r u : V) : (ff b k r u).lookup ("pickers" : Str) = some k := rfl
theorem ff_rows (b k r u : V) : (ff b k r u).lookup ("rows" : Str) = some r := rfl
theorem ff_past (b k r u : V) : (ff b k r u).lookup ("past" : Str) = some u := rfl
theorem put_begun (b k r u x : V) : putF "begun" x (ff b k r u) = ff x k r u := rfl
theorem put_pickers (b k r u x : V) : putF "pickers" x (ff b k r u) = ff b x r u := rfl
theorem put_rows (b k r u x : V) : putF "rows" x (ff b k r u) = ff b k x u := rfl
theorem put_past (b k r u x : V) : putF "past" x (ff b k r u) = ff b k r x := rfl
/-- what can be taken back, the newest first -/
inductive Past (H : Hp) : List Addr → List (Nat × List Nat) → Prop
  | nil : Past H [] []
  | cons {t r : Addr} {k : Nat} {l : List Nat} {ts : List Addr} {us : List (Nat × List Nat)} : H t = some (.tup [.ref r, .int (k : Int)]) → H r = some (.lst (vints l)) → Past H ts us → Past H (t :: ts) ((k, l) :: us)
/-- a farm stands at p -/
structure Begun (C : Addr) (H : Hp) (p dx r u : Addr) (ts : List Addr) (a : Kh368.Abs) : Prop where
  ins : H p = some (.ins C dx (ff (.bl true) (.int (a.pickers : Int)) (.ref r) (.ref u)))
  rows : H r = some (.lst (vints a.rows))
  past : H u = some (.lst (ts.reverse.map V.ref))
  undo : Past H ts a.undo
def FarmAt (C : Addr) (H : Hp) (p : Addr) : Option Kh368.Abs → Prop
  | none => ∃ dx k r u, H p = some (.ins C dx (ff (.bl false) k r u))
  | some a => ∃ dx r u ts, Begun C H p dx r u ts a
theorem FarmAt.ins {C : Addr} {H : Hp} {p : Addr} : ∀ {s : Option Kh368.Abs}, FarmAt C H p s → ∃ dx k r u, H p = some (.ins C dx (ff (.bl s.isSome) k r u))
  | none, ⟨dx, k, r, u, h⟩ => ⟨dx, k, r, u, h⟩
  | some _, ⟨dx, r, u, _, B⟩ => ⟨dx, _, _, _, B.ins⟩
/-- all but what stands at p is kept -/
def KeepBut (p : Addr) (H H' : Hp) : Prop := ∀ b o, H b = some o → b ≠ p → H' b = some o
theorem KeepBut.refl (p : Addr) (H : Hp) : KeepBut p H H := fun _ _ e _ => e
theorem KeepBut.trans {p : Addr} {H H1 H2 : Hp} (a : KeepBut p H H1) (b : KeepBut p H1 H2) : KeepBut p H H2 := fun c o e n => b c o (a c o e n) n
theorem kb {p : Addr} {H H' : Hp} (s : Same H H') : KeepBut p H H' := fun b o e _ => s b o e
theorem ku {p : Addr} {H : Hp} {o : HO} : KeepBut p H (upd H p o) := fun b u e n => by rw [upd_ne n]; exact e
theorem kn {p q : Addr} {H : Hp} {o : HO} (h : H q = none) : KeepBut p H (upd H q o) := kb (Same.upd h)
theorem Past.keep {p : Addr} {H H' : Hp} {ts : List Addr} {us : List (Nat × List Nat)} (k : KeepBut p H H') (hp : ∀ o, H p = some o → (∃ C dx fs, o = .ins C dx fs)) (P : Past H ts us) : Past H' ts us := by
  induction P with
  | nil => exact .nil
  | cons h1 h2 _ ih =>
    refine .cons (k _ _ h1 fun e => ?_) (k _ _ h2 fun e => ?_) ih
    · rw [e] at h1
      obtain ⟨_, _, _, z⟩ := hp _ h1
      cases z
    · rw [e] at h2
      obtain ⟨_, _, _, z⟩ := hp _ h2
      cases z
theorem Past.len {H : Hp} {ts : List Addr} {us : List (Nat × List Nat)} (P : Past H ts us) : ts.length = us.length := by
  induction P with
  | nil => rfl
  | cons _ _ _ ih => rw [List.length_cons, List.length_cons, ih]
theorem Past.take {H : Hp} {ts : List Addr} {us : List (Nat × List Nat)} (P : Past H ts us) : ∀ n, Past H (ts.take n) (us.take n) := by
  induction P with
  | nil => intro n; rw [List.take_nil, List.take_nil]; exact .nil
  | cons h1 h2 _ ih =>
    intro n
    cases n with
    | zero => exact .nil
    | succ n => exact .cons h1 h2 (ih n)
theorem Begun.only {C : Addr} {H : Hp} {p dx r u : Addr} {ts : List Addr} {a : Kh368.Abs} (B : Begun C H p dx r u ts a) : ∀ o, H p = some o → (∃ C dx fs, o = .ins C dx fs) := fun o e => by
  rw [B.ins] at e
  cases e
  exact ⟨_, _, _, rfl⟩
theorem Begun.r_ne {C : Addr} {H : Hp} {p dx r u : Addr} {ts : List Addr} {a : Kh368.Abs} (B : Begun C H p dx r u ts a) : r ≠ p := ne_of B.rows B.ins (by intro z; cases z)
theorem Begun.u_ne {C : Addr} {H : Hp} {p dx r u : Addr} {ts : List Addr} {a : Kh368.Abs} (B : Begun C H p dx r u ts a) : u ≠ p := ne_of B.past B.ins (by intro z; cases z)
/-- the same farm, where all is kept -/
theorem Begun.same {C : Addr} {H H' : Hp} {p dx r u : Addr} {ts : List Addr} {a : Kh368.Abs} (B : Begun C H p dx r u ts a) (s : Same H H') : Begun C H' p dx r u ts a :=
  ⟨s _ _ B.ins, s _ _ B.rows, s _ _ B.past, B.undo.keep (kb (p := p) s) B.only⟩
theorem FarmAt.same {C : Addr} {H H' : Hp} {p : Addr} : ∀ {s : Option Kh368.Abs}, FarmAt C H p s → Same H H' → FarmAt C H' p s
  | none, ⟨dx, k, r, u, h⟩, s => ⟨dx, k, r, u, s _ _ h⟩
  | some _, ⟨dx, r, u, ts, B⟩, s => ⟨dx, r, u, ts, B.same s⟩
/-! ### what the module binds -/
def Cst (mg : Str → Option Value) (x : Str) (z : Int) : Prop := ∃ t, mg x = some (.int z t)
theorem pe_cst {X : Cx} {x : Str} {z : Int} {pos : Pos} (h : Cst X.mg x z) (hg : Gl X x) (hd : (x == ("__debug__" : Str)) = false := by decide) : PE X (.Name x pos) (tC (.int z)) := by
  obtain ⟨t, e⟩ := h
  exact pe_glob hg e ⟨t, rfl⟩ hd
structure Txt (K : PySem.W.Frag) (mg : Str → Option Value) (C : Addr) : Prop where
  cl : Cls K C
  nB : NoAttr K C "begun"
  nP : NoAttr K C "pickers"
  nR : NoAttr K C "rows"
  nU : NoAttr K C "past"
  mgC : mg "Farm" = some (.ref C)
  none_such : Cst mg "NONE_SUCH" (-2)
  already_so : Cst mg "ALREADY_SO" (-17)
  out_of_bounds : Cst mg "OUT_OF_BOUNDS" (-22)
  full : Cst mg "FULL" (-28)
  too_long : Cst mg "TOO_LONG" (-33)
  not_begun : Cst mg "NOT_BEGUN" (-61)
  most_rows : Cst mg "MOST_ROWS" 14
  most_minutes : Cst mg "MOST_MINUTES" 100
  most_pickers : Cst mg "MOST_PICKERS" 6
  changes_kept : Cst mg "CHANGES_KEPT" 10
  begin_ : Cst mg "BEGIN" 0
  glo : Glo mg
section
variable {P : Program} {w : World} {K : PySem.W.Frag} {mg : Str → Option Value} {base : Heap} {C : Addr}
/-! ### __init__ -/
def spInit (C : Addr) : Sp := fun vs H Q _ => ∃ (p dx : Addr), vs = [.ref p] ∧ H p = some (.ins C dx []) ∧ ∀ H' : Hp, FarmAt C H' p none → KeepBut p H H' → Q .non H'
theorem sc_init : FnScope ["self"] ["self"] (defScope m_Farm_init) := ⟨rfl, rfl, rfl, by decide +kernel, rfl, by decide +kernel, by decide +kernel⟩
theorem ok_init {f : Addr} {fd : FuncData} (F : Fun K "__init__" "Farm.__init__" m_Farm_init f fd) (T : Txt K mg C) : FnOk P w K mg base CX0 1 f fd ["self"] (spInit C) := by
  refine F.ok sc_init (fun vs H Q E h => ?_) (fun cdv A outer s H vs Q E hr h => ?_)
  · obtain ⟨p, dx, rfl, _⟩ := h
    rfl
  · obtain ⟨p, dx, rfl, hp, k⟩ := h
    refine ⟨_, pss_cons (ps_fld (pv 0) pe_bl rfl) (pss_cons (ps_fld (pv 0) pe_int rfl) (pss_cons (ps_fld (pv 0) (pe_lst pa_nil) rfl) (pss_one (ps_fld (pv 0) (pe_lst pa_nil) rfl)))), ?_⟩
    refine ⟨_, rfl, p, C, dx, _, rfl, hp, T.cl, T.nB, (by show 0 < 1000; decide), _, rfl, p, C, dx, _, rfl, upd_same, T.cl, T.nP, (by show 1 < 1000; decide), Nat.zero_le _, fun r hr' => ?_⟩
    have k1 : KeepBut p H (upd (upd H p (.ins C dx (putF "begun" (.bl false) []))) p (.ins C dx (putF "pickers" (.int 0) (putF "begun" (.bl false) [])))) := (ku).trans ku
    have s1 := Same.upd (o := .lst []) hr'
    refine ⟨_, rfl, p, C, dx, _, rfl, s1 _ _ upd_same, T.cl, T.nR, (by show 2 < 1000; decide), Nat.zero_le _, fun u hu => ?_⟩
    have s2 := Same.upd (o := .lst []) hu
    refine ⟨_, rfl, p, C, dx, _, rfl, s2 _ _ upd_same, T.cl, T.nU, (by show 3 < 1000; decide), ?_⟩
    refine k _ ⟨dx, .int 0, .ref r, .ref u, ?_⟩ ?_
    · rw [upd_same]
      rfl
    · exact (((k1.trans (kb s1)).trans ku).trans (kb s2)).trans ku
/-! ### begin -/
def spBegin (C : Addr) : Sp := fun vs H Q _ => ∃ (p : Addr) (s : Option Kh368.Abs) (k : Nat), vs = [.ref p, .int (k : Int)] ∧ FarmAt C H p s ∧ ∀ H' : Hp, FarmAt C H' p (some (Kh368.begun k)) → KeepBut p H H' → Q .non H'
theorem sc_begin : FnScope ["self", "pickers"] ["self", "pickers"] (defScope m_Farm_begin) := ⟨rfl, rfl, rfl, by decide +kernel, rfl, by decide +kernel, by decide +kernel⟩
theorem ok_begin {f : Addr} {fd : FuncData} (F : Fun K "begin" "Farm.begin" m_Farm_begin f fd) (T : Txt K mg C) : FnOk P w K mg base CX0 1 f fd ["self", "pickers"] (spBegin C) := by
  refine F.ok sc_begin (fun vs H Q E h => ?_) (fun cdv A outer s H vs Q E hr h => ?_)
  · obtain ⟨p, s, k, rfl, _⟩ := h
    rfl
  · obtain ⟨p, st, k, rfl, hf, kk⟩ := h
    obtain ⟨dx, k0, r0, u0, hp⟩ := hf.ins
    refine ⟨_, pss_cons (ps_fld (pv 0) pe_bl rfl) (pss_cons (ps_fld (pv 0) (pv 1) rfl) (pss_cons (ps_fld (pv 0) (pe_lst pa_nil) rfl) (pss_one (ps_fld (pv 0) (pe_lst pa_nil) rfl)))), ?_⟩
    refine ⟨_, rfl, p, C, dx, _, rfl, hp, T.cl, T.nB, (by show 4 < 1000; decide), _, rfl, _, rfl, p, C, dx, _, rfl, upd_same, T.cl, T.nP, (by show 4 < 1000; decide), Nat.zero_le _, fun r hr' => ?_⟩
    have s1 := Same.upd (o := .lst []) hr'
    refine ⟨_, rfl, p, C, dx, _, rfl, s1 _ _ upd_same, T.cl, T.nR, (by show 4 < 1000; decide), Nat.zero_le _, fun u hu => ?_⟩
    have s2 := Same.upd (o := .lst []) hu
    refine ⟨_, rfl, p, C, dx, _, rfl, s2 _ _ upd_same, T.cl, T.nU, (by show 4 < 1000; decide), ?_⟩
    have nr : r ≠ p := fun e => by rw [e, upd_same] at hr'; cases hr'
    have nu : u ≠ p := fun e => by rw [e, upd_same] at hu; cases hu
    have nur : r ≠ u := fun e => by rw [← e, upd_ne nr, upd_same] at hu; cases hu
    refine kk _ ⟨dx, r, u, [], ?_, ?_, ?_, .nil⟩ ?_
    · rw [upd_same]
      rfl
    · rw [upd_ne nr, upd_ne nur, upd_ne nr, upd_same]
      rfl
    · rw [upd_ne nu, upd_same]
      rfl
    · exact (((((ku).trans ku).trans (kb s1)).trans ku).trans (kb s2)).trans ku
/-! ### has_row -/
def spHas (C : Addr) : Sp := fun vs H Q _ => ∃ (p : Addr) (a : Kh368.Abs) (i : Nat), vs = [.ref p, .int (i : Int)] ∧ FarmAt C H p (some a) ∧ Q (.bl (decide (i < a.rows.length))) H
theorem sc_has : FnScope ["self", "i"] ["self", "i"] (defScope m_Farm_has_row) := ⟨rfl, rfl, rfl, by decide +kernel, rfl, by decide +kernel, by decide +kernel⟩
theorem ok_has {f : Addr} {fd : FuncData} (F : Fun K "has_row" "Farm.has_row" m_Farm_has_row f fd) (T : Txt K mg C) : FnOk P w K mg base CX0 1 f fd ["self", "i"] (spHas C) := by
  refine F.ok sc_has (fun vs H Q E h => ?_) (fun cdv A outer s H vs Q E hr h => ?_)
  · obtain ⟨p, a, i, rfl, _⟩ := h
    rfl
  · obtain ⟨p, a, i, rfl, ⟨dx, r, u, ts, B⟩, kk⟩ := h
    refine ⟨_, pss_one (ps_ret (pe_cmpR op_lt (pv 1) (pe_callB call_len_seq rfl T.glo.len PySem.boot_len (pa_cons (pe_fld (pv 0) rfl) pa_nil)) (nomark _))), ?_⟩
    refine ⟨_, rfl, _, rfl, p, C, dx, _, _, rfl, B.ins, T.cl, T.nR, ff_rows _ _ _ _, r, _, rfl, .inl (SqL.of B.rows), _, _, rfl, rfl, ?_⟩
    rw [vints_len]
    have e : decide ((i : Int) < (a.rows.length : Int)) = decide (i < a.rows.length) := by
      rw [Bool.eq_iff_iff]
      simp
    show Q (.bl (decide ((i : Int) < (a.rows.length : Int)))) H
    rw [e]
    exact kk
/-! ### has_picker -/
def spHasP (C : Addr) : Sp := fun vs H Q _ => ∃ (p : Addr) (a : Kh368.Abs) (i : Nat), vs = [.ref p, .int (i : Int)] ∧ FarmAt C H p (some a) ∧ Q (.bl (decide (i < a.pickers))) H
theorem sc_hasP : FnScope ["self", "p"] ["self", "p"] (defScope m_Farm_has_picker) := ⟨rfl, rfl, rfl, by decide +kernel, rfl, by decide +kernel, by decide +kernel⟩
theorem ok_hasP {f : Addr} {fd : FuncData} (F : Fun K "has_picker" "Farm.has_picker" m_Farm_has_picker f fd) (T : Txt K mg C) : FnOk P w K mg base CX0 1 f fd ["self", "p"] (spHasP C) := by
  refine F.ok sc_hasP (fun vs H Q E h => ?_) (fun cdv A outer s H vs Q E hr h => ?_)
  · obtain ⟨p, a, i, rfl, _⟩ := h
    rfl
  · obtain ⟨p, a, i, rfl, ⟨dx, r, u, ts, B⟩, kk⟩ := h
    refine ⟨_, pss_one (ps_ret (pe_cmpR op_lt (pv 1) (pe_fld (pv 0) rfl) (nomark _))), ?_⟩
    refine ⟨_, rfl, _, rfl, p, C, dx, _, _, rfl, B.ins, T.cl, T.nP, ff_pickers _ _ _ _, _, _, rfl, rfl, ?_⟩
    have e : decide ((i : Int) < (a.pickers : Int)) = decide (i < a.pickers) := by
      rw [Bool.eq_iff_iff]
      simp
    show Q (.bl (decide ((i : Int) < (a.pickers : Int)))) H
    rw [e]
    exact kk
/-! ### change -/
theorem cut_last (l : List Addr) : cutV (l.reverse.map V.ref) (some (-10)) none = ((l.take 10).reverse).map V.ref := by
  unfold cutV
  rw [HT.sIx_none]
  have e : HT.sIx (l.reverse.map V.ref).length 0 (some (-10)) = l.length - 10 := by
    show (if (-10 : Int) < 0 then ((-10 : Int) + ((l.reverse.map V.ref).length : Int)).toNat else min (-10 : Int).toNat (l.reverse.map V.ref).length) = _
    rw [if_pos (by decide), List.length_map, List.length_reverse]
    omega
  rw [e, List.length_map, List.length_reverse, ← List.map_drop, ← List.map_take]
  congr 1
  rw [List.take_of_length_le (by rw [List.length_drop, List.length_reverse]; exact Nat.le_refl _), List.drop_reverse]
  congr 1
  rcases Nat.le_total 10 l.length with h | h
  · congr 1
    omega
  · rw [List.take_of_length_le (show l.length ≤ 10 from h), List.take_of_length_le (by omega)]
def spChange (C : Addr) : Sp := fun vs H Q _ => ∃ (p r : Addr) (a : Kh368.Abs) (l : List Nat) (k : Nat), vs = [.ref p, .ref r, .int (k : Int)] ∧ FarmAt C H p (some a) ∧ H r = some (.lst (vints l)) ∧ a.undo.length ≤ 10 ∧
  ∀ H' : Hp, FarmAt C H' p (some (Kh368.keep a { a with pickers := k, rows := l })) → KeepBut p H H' → Q .non H'
theorem sc_change : FnScope ["self", "rows", "pickers"] ["self", "rows", "pickers"] (defScope m_Farm_change) := ⟨rfl, rfl, rfl, by decide +kernel, rfl, by decide +kernel, by decide +kernel⟩
theorem ok_change {f : Addr} {fd : FuncData} (F : Fun K "change" "Farm.change" m_Farm_change f fd) (T : Txt K mg C) : FnOk P w K mg base CX0 1 f fd ["self", "rows", "pickers"] (spChange C) := by
  refine F.ok sc_change (fun vs H Q E h => ?_) (fun cdv A outer s H vs Q E hr h => ?_)
  · obtain ⟨p, r, a, l, k, rfl, _⟩ := h
    rfl
  · obtain ⟨p, r', a, l, k, rfl, ⟨dx, r, u, ts, B⟩, hr', ten, kk⟩ := h
    refine ⟨_, pss_cons (ps_fld (pv 0) (pe_slice sl_list (pe_op op_cat (pe_fld (pv 0) rfl) (pe_lst (pa_cons (pe_tup (pa_cons (pe_fld (pv 0) rfl) (pa_cons (pe_fld (pv 0) rfl) pa_nil))) pa_nil))) (po_some (pe_un un_neg (pe_cst T.changes_kept rfl))) po_none) rfl)
      (pss_cons (ps_fld (pv 0) (pv 1) rfl) (pss_one (ps_fld (pv 0) (pv 2) rfl))), ?_⟩
    have few : ts.length ≤ 10 := by rw [B.undo.len]; exact ten
    have big : (100 : Nat) ≤ sizeLine := by decide
    refine ⟨_, rfl, p, C, dx, _, _, rfl, B.ins, T.cl, T.nU, ff_past _ _ _ _, _, rfl, p, C, dx, _, _, rfl, B.ins, T.cl, T.nR, ff_rows _ _ _ _, _, rfl, p, C, dx, _, _, rfl, B.ins, T.cl, T.nP, ff_pickers _ _ _ _, (by show 2 ≤ sizeLine; decide), fun t ht => ?_⟩
    have s1 := Same.upd (o := .tup [.ref r, .int (a.pickers : Int)]) ht
    refine ⟨(by show 1 ≤ sizeLine; decide), fun q hq => ?_⟩
    have s2 := s1.trans (Same.upd (o := .lst [.ref t]) hq)
    have nqt : q ≠ t := fun e => by rw [e, upd_same] at hq; cases hq
    refine ⟨u, q, _, _, rfl, rfl, s2 _ _ B.past, upd_same, (by rw [List.length_map, List.length_reverse, List.length_singleton]; omega), fun v hv => ?_⟩
    have s3 := s2.trans (Same.upd (o := .lst (ts.reverse.map V.ref ++ [.ref t])) hv)
    refine ⟨_, rfl, _, rfl, v, _, rfl, SqL.of upd_same, fun z hz => ?_⟩
    have s4 := s3.trans (Same.upd (o := .lst (cutV (ts.reverse.map V.ref ++ [.ref t]) (some (-10)) none)) hz)
    have ht4 : (upd (upd (upd (upd H t (.tup [.ref r, .int (a.pickers : Int)])) q (.lst [.ref t])) v (.lst (ts.reverse.map V.ref ++ [.ref t]))) z (.lst (cutV (ts.reverse.map V.ref ++ [.ref t]) (some (-10)) none))) t = some (.tup [.ref r, .int (a.pickers : Int)]) := by
      have h1 : (upd (upd H t (.tup [.ref r, .int (a.pickers : Int)])) q (.lst [.ref t])) t = some (.tup [.ref r, .int (a.pickers : Int)]) := by rw [upd_ne (Ne.symm nqt), upd_same]
      have h2 := Same.upd (o := .lst (ts.reverse.map V.ref ++ [.ref t])) hv _ _ h1
      exact Same.upd hz _ _ h2
    refine ⟨_, rfl, p, C, dx, _, rfl, s4 _ _ B.ins, T.cl, T.nU, (by show 4 < 1000; decide), ?_⟩
    refine ⟨_, rfl, _, rfl, p, C, dx, _, rfl, upd_same, T.cl, T.nR, (by show 4 < 1000; decide), ?_⟩
    refine ⟨_, rfl, _, rfl, p, C, dx, _, rfl, upd_same, T.cl, T.nP, (by show 4 < 1000; decide), ?_⟩
    have nz : z ≠ p := fun e => by rw [e, s3 _ _ B.ins] at hz; cases hz
    have nr : r' ≠ p := ne_of hr' B.ins (by intro z; cases z)
    have old : KeepBut p H _ := kb (p := p) s4
    have B4 := B.same s4
    refine kk _ ⟨dx, r', z, (t :: ts).take 10, ?_, ?_, ?_, ?_⟩ ?_
    · rw [upd_same]
      rfl
    · rw [upd_ne nr, upd_ne nr, upd_ne nr]
      exact s4 _ _ hr'
    · rw [upd_ne nz, upd_ne nz, upd_ne nz, upd_same]
      have e := cut_last (t :: ts)
      rw [List.reverse_cons, List.map_append] at e
      exact congrArg (fun x => some (HO.lst x)) e
    · have P4 : Past _ (t :: ts) ((a.pickers, a.rows) :: a.undo) := .cons ht4 B4.rows B4.undo
      exact (P4.take 10).keep (p := p) ((ku.trans ku).trans ku) B4.only
    · exact ((old.trans ku).trans ku).trans ku
/-! ### take_back -/
theorem cut_but (xs : List V) (v : V) : cutV (xs ++ [v]) none (some (-1)) = xs := by
  unfold cutV
  rw [HT.sIx_none]
  have e : HT.sIx (xs ++ [v]).length (xs ++ [v]).length (some (-1)) = xs.length := by
    show (if (-1 : Int) < 0 then ((-1 : Int) + ((xs ++ [v]).length : Int)).toNat else min (-1 : Int).toNat (xs ++ [v]).length) = _
    rw [if_pos (by decide), List.length_append, List.length_singleton]
    omega
  rw [e]
  simp
def spBack (C : Addr) : Sp := fun vs H Q _ => ∃ (p : Addr) (a : Kh368.Abs) (k : Nat) (l : List Nat) (us : List (Nat × List Nat)), vs = [.ref p] ∧ FarmAt C H p (some a) ∧ a.undo = (k, l) :: us ∧
  ∀ H' : Hp, FarmAt C H' p (some ⟨k, l, us⟩) → KeepBut p H H' → Q .non H'
theorem sc_back : FnScope ["self", "before"] ["self"] (defScope m_Farm_take_back) := ⟨rfl, rfl, rfl, by decide +kernel, rfl, by decide +kernel, by decide +kernel⟩
theorem ok_back {f : Addr} {fd : FuncData} (F : Fun K "take_back" "Farm.take_back" m_Farm_take_back f fd) (T : Txt K mg C) : FnOk P w K mg base CX0 1 f fd ["self"] (spBack C) := by
  refine F.ok sc_back (fun vs H Q E h => ?_) (fun cdv A outer s H vs Q E hr h => ?_)
  · obtain ⟨p, a, k, l, us, rfl, _⟩ := h
    rfl
  · obtain ⟨p, a, k, l, us, rfl, ⟨dx, r, u, ts, B⟩, hu, kk⟩ := h
    have nd := sc_back.nd
    refine ⟨_, pss_cons (ps_set (i := 1) nd rfl (Or.inl rfl) (pe_ix ix_list (pe_fld (pv 0) rfl) (pe_un un_neg pe_int) (fun _ _ => rfl))) (pss_cons (ps_fld (pv 0) (pe_slice sl_list (pe_fld (pv 0) rfl) po_none (po_some (pe_un un_neg pe_int))) rfl)
      (pss_cons (ps_fld (pv 0) (pe_ix ix_tup (pv 1) pe_int (fun _ _ => rfl)) rfl) (pss_one (ps_fld (pv 0) (pe_ix ix_tup (pv 1) pe_int (fun _ _ => rfl)) rfl)))), ?_⟩
    have U := B.undo
    rw [hu] at U
    cases U with
    | @cons t r0 _ _ ts _ h1 h2 U =>
      have hp : H u = some (.lst (ts.reverse.map V.ref ++ [V.ref t])) := by
        have := B.past
        rw [List.reverse_cons, List.map_append] at this
        exact this
      refine ⟨_, rfl, p, C, dx, _, _, rfl, B.ins, T.cl, T.nU, ff_past _ _ _ _, _, rfl, u, _, _, _, rfl, rfl, SqL.of hp, atI_last _ _, ?_⟩
      refine ⟨_, rfl, p, C, dx, _, _, rfl, B.ins, T.cl, T.nU, ff_past _ _ _ _, _, rfl, _, rfl, u, _, rfl, SqL.of hp, fun z hz => ?_⟩
      have s1 := Same.upd (o := .lst (cutV (ts.reverse.map V.ref ++ [V.ref t]) none (some (-1)))) hz
      have nt : t ≠ p := ne_of h1 B.ins (by intro z; cases z)
      have nr : r0 ≠ p := ne_of h2 B.ins (by intro z; cases z)
      have nz : z ≠ p := fun e => by rw [e, B.ins] at hz; cases hz
      refine ⟨_, rfl, p, C, dx, _, rfl, s1 _ _ B.ins, T.cl, T.nU, (by show 4 < 1000; decide), ?_⟩
      refine ⟨_, rfl, t, _, _, _, rfl, rfl, SqT.of (by rw [upd_ne nt]; exact s1 _ _ h1), at_of (j := 0) rfl rfl, _, rfl, p, C, dx, _, rfl, upd_same, T.cl, T.nR, (by show 4 < 1000; decide), ?_⟩
      refine ⟨_, rfl, t, _, _, _, rfl, rfl, SqT.of (by rw [upd_ne nt, upd_ne nt]; exact s1 _ _ h1), at_of (j := 1) rfl rfl, _, rfl, p, C, dx, _, rfl, upd_same, T.cl, T.nP, (by show 4 < 1000; decide), ?_⟩
      have old : KeepBut p H _ := kb (p := p) s1
      refine kk _ ⟨dx, r0, z, ts, ?_, ?_, ?_, ?_⟩ ?_
      · rw [upd_same]
        rfl
      · rw [upd_ne nr, upd_ne nr, upd_ne nr]
        exact s1 _ _ h2
      · rw [upd_ne nz, upd_ne nz, upd_ne nz, upd_same, cut_but]
      · exact U.keep (p := p) (((old.trans ku).trans ku).trans ku) B.only
      · exact ((old.trans ku).trans ku).trans ku
end
end Rs
end
section
/-! farm.py: what each call answers. -/
set_option Elab.async false
set_option linter.all false
set_option maxRecDepth 100000
set_option maxHeartbeats 2000000
namespace Rs
open PySem PySem.Spec PyProof.Rows L2
/-- the call by its number and its numbers -/
def callOf (c : Nat) (ns : List Nat) : Kh368.Call := match c with
  | 0 => .begin_ (ns.getD 0 0)
  | 1 => .row (ns.getD 0 0)
  | 2 => .out (ns.getD 0 0)
  | 3 => .minutes (ns.getD 0 0) (ns.getD 1 0)
  | 4 => .pickers (ns.getD 0 0)
  | 5 => .back
  | 6 => .least
  | 7 => .plan
  | 8 => .who (ns.getD 0 0)
  | 9 => .told ns
  | 10 => .fewest (ns.getD 0 0)
  | 11 => .ifPickers (ns.getD 0 0)
  | 12 => .more (ns.getD 0 0)
  | 13 => .first (ns.getD 0 0)
  | 14 => .without (ns.getD 0 0)
  | 15 => .exchange (ns.getD 0 0)
  | 16 => .longer (ns.getD 0 0)
  | 17 => .idle
  | 18 => .has (ns.getD 0 0)
  | 19 => .sums
  | _ => .state
def counts : List Nat := [1, 1, 1, 2, 1, 0, 0, 0, 1, 0, 1, 1, 1, 1, 1, 1, 1, 0, 1, 0, 0]
/-- so many numbers are handed over -/
def Fit (c : Nat) (ns : List Nat) : Prop := if c = 9 then ns.length ≤ 16 else ns.length = counts.getD c 0
def outV (r : Kh368.Ans) : List V := V.int r.ret :: vints r.out
def spDo (K : PySem.W.Frag) (C : Addr) (c : Nat) : Sp := fun vs H Q _ => ∃ (p nl : Addr) (s : Option Kh368.Abs) (ns : List Nat), vs = [.ref p, .ref nl] ∧ FarmAt C H p s ∧ (∀ a, s = some a → Good a) ∧ (c = 0 ∨ s ≠ none) ∧ SqL K H nl (vints ns) ∧ Fit c ns ∧
  ∀ (H' : Hp) (q : Addr), H' q = some (.lst (outV (Kh368.doing s (callOf c ns)).2)) → FarmAt C H' p (Kh368.doing s (callOf c ns)).1 → KeepBut p H H' → Q (.ref q) H'
theorem done {C p : Addr} {H H1 : Hp} {Q : VK} {s s' : Option Kh368.Abs} {c : Kh368.Call} {r : Kh368.Ans} {q : Addr} {o : List V}
    (k : ∀ (H' : Hp) (q : Addr), H' q = some (.lst (outV (Kh368.doing s c).2)) → FarmAt C H' p (Kh368.doing s c).1 → KeepBut p H H' → Q (.ref q) H')
    (e : Kh368.doing s c = (s', r)) (hf : FarmAt C H1 p s') (hk : KeepBut p H H1) (hq : H1 q = none) (ho : o = outV r) : Q (.ref q) (upd H1 q (.lst o)) := by
  rw [e] at k
  exact k _ q (by rw [upd_same, ho]) (hf.same (Same.upd hq)) (hk.trans (kn hq))
section
variable {P : Program} {w : World} {K : PySem.W.Frag} {mg : Str → Option Value} {base : Heap} {C : Addr}
theorem spDo_len {c : Nat} {vs : List V} {H : Hp} {Q : VK} {E : XK} (h : spDo K C c vs H Q E) : vs.length = 2 := by
  obtain ⟨p, nl, s, ns, rfl, _⟩ := h
  rfl
/-- a method that is called by its name -/
structure Mt (P : Program) (w : World) (K : PySem.W.Frag) (mg : Str → Option Value) (base : Heap) (C : Addr) (k : Nat) (m : Str) (ps : List Str) (sp : Sp) : Prop where
  at_ : ∃ (f : Addr) (fd : FuncData), FnOk P w K mg base CX0 k f fd ps sp ∧ Meth K C m f ∧ Binds K fd ps []
theorem Mt.mono {j k : Nat} {x : Str} {ps : List Str} {sp : Sp} (D : Mt P w K mg base C j x ps sp) (h : j ≤ k) : Mt P w K mg base C k x ps sp := by
  obtain ⟨f, fd, F, a, b⟩ := D.at_
  exact ⟨f, fd, F.mono h, a, b⟩
theorem pe_mt {X : Cx} {k : Nat} {m : Str} {ps : List Str} {sp : Sp} {o e : Expr} {es : List Expr} {ta : TE} {t : TA} {apos pos : Pos} {pl : Sem Bool} (ho : PE X o ta) (c : Cls X.K C) (D : Mt X.prog X.w X.K X.mg X.base C k m ps sp) (hr : Room k X.A) (ha : PA X (e :: es) t)
    (hst : starEach (e :: es) X.env = (false, eval e X.env) :: starEach es X.env := by rfl) (hpl : (backTo pos (starEach es X.env)).any (·.1) = false := by rfl)
    (ht : eval (.Call (.Attribute o m apos) (e :: es) [] pos) X.env = (do
      let ov ← eval o X.env
      standAt apos.atName
      let (f, first) ← holding [ov] (getMethod ov m pl)
      callWith pos f first (backTo pos (starEach (e :: es) X.env)) (backToKw pos (keywordEach [] X.env))) := by rfl) :
    PE X (.Call (.Attribute o m apos) (e :: es) [] pos) (tMeth C m sp [] E0 ta t) := by
  obtain ⟨f, fd, F, a, b⟩ := D.at_
  exact pe_meth ho c a F hr b .nil pass0 ha hst hpl ht
theorem pe_mt0 {X : Cx} {k : Nat} {m : Str} {ps : List Str} {sp : Sp} {o : Expr} {ta : TE} {apos pos : Pos} {pl : Sem Bool} (ho : PE X o ta) (c : Cls X.K C) (D : Mt X.prog X.w X.K X.mg X.base C k m ps sp) (hr : Room k X.A)
    (ht : eval (.Call (.Attribute o m apos) [] [] pos) X.env = (do
      let ov ← eval o X.env
      standAt apos.atName
      let (f, first) ← holding [ov] (getMethod ov m pl)
      callWith pos f first (backTo pos (starEach [] X.env)) (backToKw pos (keywordEach [] X.env))) := by rfl) :
    PE X (.Call (.Attribute o m apos) [] [] pos) (tMeth C m sp [] E0 ta tNil) := by
  obtain ⟨f, fd, F, a, b⟩ := D.at_
  exact pe_meth0 ho c a F hr b .nil pass0 ht
/-! ### are_minutes, are_pickers -/
def spOkM : Sp := fun vs H Q _ => ∃ n : Nat, vs = [.int (n : Int)] ∧ Q (.bl (Kh368.okMinutes n)) H
def spOkP : Sp := fun vs H Q _ => ∃ n : Nat, vs = [.int (n : Int)] ∧ Q (.bl (Kh368.okPickers n)) H
theorem sc_areM : FnScope ["n"] ["n"] (defScope d_are_minutes) := ⟨rfl, rfl, rfl, by decide +kernel, rfl, by decide +kernel, by decide +kernel⟩
theorem sc_areP : FnScope ["k"] ["k"] (defScope d_are_pickers) := ⟨rfl, rfl, rfl, by decide +kernel, rfl, by decide +kernel, by decide +kernel⟩
theorem ok_areM {f : Addr} {fd : FuncData} (F : Fun K "are_minutes" "are_minutes" d_are_minutes f fd) (T : Txt K mg C) : FnOk P w K mg base CX0 1 f fd ["n"] spOkM := by
  refine F.ok sc_areM (fun vs H Q E h => ?_) (fun cdv A outer s H vs Q E hr h => ?_)
  · obtain ⟨n, rfl, _⟩ := h
    rfl
  · obtain ⟨n, rfl, k⟩ := h
    refine ⟨_, pss_one (ps_ret (pe_chain op_le op_le pe_int (pv 0) (pe_cst T.most_minutes rfl))), ?_⟩
    refine ⟨_, rfl, _, _, rfl, rfl, _, rfl, ite2 (fun c => ?_) (fun c => ?_)⟩
    · have c1 : (1 : Int) ≤ (n : Int) := of_decide_eq_true c
      refine ⟨_, _, rfl, rfl, ?_⟩
      have e : decide ((n : Int) ≤ 100) = Kh368.okMinutes n := by
        rw [Bool.eq_iff_iff, okMinutes_iff, decide_eq_true_iff]
        omega
      show Q (.bl (decide ((n : Int) ≤ 100))) H
      rw [e]
      exact k
    · have c1 : ¬ (1 : Int) ≤ (n : Int) := fun z => c (decide_eq_true z)
      have e : Kh368.okMinutes n = false := by
        rw [Bool.eq_false_iff]
        intro z
        have := okMinutes_iff.mp z
        omega
      rw [e] at k
      exact k
theorem ok_areP {f : Addr} {fd : FuncData} (F : Fun K "are_pickers" "are_pickers" d_are_pickers f fd) (T : Txt K mg C) : FnOk P w K mg base CX0 1 f fd ["k"] spOkP := by
  refine F.ok sc_areP (fun vs H Q E h => ?_) (fun cdv A outer s H vs Q E hr h => ?_)
  · obtain ⟨n, rfl, _⟩ := h
    rfl
  · obtain ⟨n, rfl, k⟩ := h
    refine ⟨_, pss_one (ps_ret (pe_chain op_le op_le pe_int (pv 0) (pe_cst T.most_pickers rfl))), ?_⟩
    refine ⟨_, rfl, _, _, rfl, rfl, _, rfl, ite2 (fun c => ?_) (fun c => ?_)⟩
    · have c1 : (1 : Int) ≤ (n : Int) := of_decide_eq_true c
      refine ⟨_, _, rfl, rfl, ?_⟩
      have e : decide ((n : Int) ≤ 6) = Kh368.okPickers n := by
        rw [Bool.eq_iff_iff, okPickers_iff, decide_eq_true_iff]
        omega
      show Q (.bl (decide ((n : Int) ≤ 6))) H
      rw [e]
      exact k
    · have c1 : ¬ (1 : Int) ≤ (n : Int) := fun z => c (decide_eq_true z)
      have e : Kh368.okPickers n = false := by
        rw [Bool.eq_false_iff]
        intro z
        have := okPickers_iff.mp z
        omega
      rw [e] at k
      exact k
/-! ### the answers: what they lean on -/
structure Lib (P : Program) (w : World) (K : PySem.W.Frag) (mg : Str → Option Value) (base : Heap) (C : Addr) : Prop where
  txt : Txt K mg C
  given : Dn P w K mg base 1 "given_out" ["rows", "limit"] (spGiven K)
  longest : Dn P w K mg base 1 "longest" ["rows"] (spLongest K)
  little : Dn P w K mg base 2 "how_little" ["rows", "pickers"] (spLittle K)
  planned : Dn P w K mg base 3 "planned" ["rows", "pickers"] (spPlanned K)
  picker : Dn P w K mg base 1 "picker_of" ["shares", "i"] (spPicker K)
  most : Dn P w K mg base 1 "most_minutes" ["rows", "shares"] (spMost K)
  areM : Dn P w K mg base 1 "are_minutes" ["n"] spOkM
  areP : Dn P w K mg base 1 "are_pickers" ["k"] spOkP
  mBegin : Mt P w K mg base C 1 "begin" ["self", "pickers"] (spBegin C)
  mHas : Mt P w K mg base C 1 "has_row" ["self", "i"] (spHas C)
  mChange : Mt P w K mg base C 1 "change" ["self", "rows", "pickers"] (spChange C)
  mBack : Mt P w K mg base C 1 "take_back" ["self"] (spBack C)
  mHasP : Mt P w K mg base C 1 "has_picker" ["self", "p"] (spHasP C)
  rOf : Dn P w K mg base 1 "rows_of" ["rows", "shares", "picker"] (spOf K)
  rWithout : Dn P w K mg base 1 "rows_without" ["rows", "i"] (spWithout K)
  rSet : Dn P w K mg base 1 "rows_set" ["rows", "i", "minutes"] (spSet K)
  rSwap : Dn P w K mg base 1 "rows_exchanged" ["rows", "i"] (spSwap K)
  much : Dn P w K mg base 3 "how_much_longer" ["rows", "pickers", "i"] (spMuch K)
theorem one_of {ns : List Nat} (h : ns.length = 1) : ∃ n, ns = [n] := by
  match ns, h with
  | [n], _ => exact ⟨n, rfl⟩
/-! ### begin -/
theorem sc_aBegin : FnScope ["farm", "numbers", "pickers"] ["farm", "numbers"] (defScope d_answer_begin) := ⟨rfl, rfl, rfl, by decide +kernel, rfl, by decide +kernel, by decide +kernel⟩
theorem ok_aBegin {f : Addr} {fd : FuncData} (F : Fun K "answer_begin" "answer_begin" d_answer_begin f fd) (L : Lib P w K mg base C) : FnOk P w K mg base CX0 4 f fd ["farm", "numbers"] (spDo K C 0) := by
  refine F.ok sc_aBegin (fun vs H Q E h => spDo_len h) (fun cdv A outer s H vs Q E hr h => ?_)
  obtain ⟨p, nl, st, ns, rfl, hf, hg, _, hS, fit, k⟩ := h
  obtain ⟨n, rfl⟩ := one_of (show ns.length = 1 from fit)
  have T := L.txt
  have nd := sc_aBegin.nd
  have hr1 : Room 1 _ := hr.mono (by decide)
  refine ⟨_, pss_cons (ps_set (i := 2) nd rfl (Or.inl rfl) (pe_ix ix_list (pv 1) pe_int (fun _ _ => rfl)))
    (pss_cons (ps_if (pt_not (pt_val (pe_dn L.areP hr1 rfl (pa_cons (pv 2) pa_nil)))) (pss_one (ps_ret (pe_lst (pa_cons (pe_cst T.out_of_bounds rfl) pa_nil)))) pss_nil)
    (pss_cons (ps_expr (pe_mt (pv 0) T.cl L.mBegin hr1 (pa_cons (pv 2) pa_nil))) (pss_one (ps_ret (pe_lst (pa_cons pe_int pa_nil)))))), ?_⟩
  refine ⟨_, rfl, nl, _, _, _, rfl, rfl, hS, at_of (j := 0) rfl (vints_at rfl), _, rfl, n, rfl, _, rfl, ite2 (fun c => ?_) (fun c => ?_)⟩
  · have c1 : Kh368.okPickers n = false := by simpa using c
    refine ⟨(by show 1 ≤ sizeLine; decide), fun q hq => ?_⟩
    refine done k (s' := st) (r := Kh368.say (-22)) ?_ hf (KeepBut.refl _ _) hq rfl
    show Kh368.doing st (.begin_ n) = _
    simp [Kh368.doing, c1]
  · have c1 : Kh368.okPickers n = true := by simpa using c
    obtain ⟨dx, k0, r0, u0, hp⟩ := hf.ins
    refine ⟨_, rfl, p, dx, _, rfl, hp, rfl, _, rfl, p, st, n, rfl, hf, fun H1 hf1 kb1 => ?_⟩
    refine ⟨(by show 1 ≤ sizeLine; decide), fun q hq => ?_⟩
    refine done k (s' := some (Kh368.begun n)) (r := Kh368.say 0) ?_ hf1 kb1 hq rfl
    show Kh368.doing st (.begin_ n) = _
    simp [Kh368.doing, c1]
theorem some_of {c : Nat} {s : Option Kh368.Abs} (hc : c ≠ 0) (h : c = 0 ∨ s ≠ none) : ∃ a, s = some a := by
  cases s with
  | none => exact absurd rfl (h.resolve_left hc)
  | some a => exact ⟨a, rfl⟩
theorem eq_vint {a b : Nat} : decide (V.int (a : Int) = V.int (b : Int)) = decide (a = b) := by
  rw [Bool.eq_iff_iff, decide_eq_true_iff, decide_eq_true_iff]
  constructor
  · intro h
    have := V.int.inj h
    omega
  · intro h
    rw [h]
/-! ### row -/
theorem sc_aRow : FnScope ["farm", "numbers", "minutes"] ["farm", "numbers"] (defScope d_answer_row) := ⟨rfl, rfl, rfl, by decide +kernel, rfl, by decide +kernel, by decide +kernel⟩
theorem ok_aRow {f : Addr} {fd : FuncData} (F : Fun K "answer_row" "answer_row" d_answer_row f fd) (L : Lib P w K mg base C) : FnOk P w K mg base CX0 4 f fd ["farm", "numbers"] (spDo K C 1) := by
  refine F.ok sc_aRow (fun vs H Q E h => spDo_len h) (fun cdv A outer s H vs Q E hr h => ?_)
  obtain ⟨p, nl, st, ns, rfl, hf, hg, hn, hS, fit, k⟩ := h
  obtain ⟨n, rfl⟩ := one_of (show ns.length = 1 from fit)
  obtain ⟨a, rfl⟩ := some_of (by decide) hn
  have g := hg a rfl
  obtain ⟨dx, r, u, ts, B⟩ := id hf
  have T := L.txt
  have nd := sc_aRow.nd
  have hr1 : Room 1 _ := hr.mono (by decide)
  refine ⟨_, pss_cons (ps_set (i := 2) nd rfl (Or.inl rfl) (pe_ix ix_list (pv 1) pe_int (fun _ _ => rfl)))
    (pss_cons (ps_if (pt_not (pt_val (pe_dn L.areM hr1 rfl (pa_cons (pv 2) pa_nil)))) (pss_one (ps_ret (pe_lst (pa_cons (pe_cst T.out_of_bounds rfl) pa_nil)))) pss_nil)
    (pss_cons (ps_if (pt_cmpR op_eq (pe_callB call_len_seq rfl T.glo.len PySem.boot_len (pa_cons (pe_fld (pv 0) rfl) pa_nil)) (pe_cst T.most_rows rfl) (nomark _)) (pss_one (ps_ret (pe_lst (pa_cons (pe_cst T.full rfl) pa_nil)))) pss_nil)
    (pss_cons (ps_expr (pe_mt (pv 0) T.cl L.mChange hr1 (pa_cons (pe_op op_cat (pe_fld (pv 0) rfl) (pe_lst (pa_cons (pv 2) pa_nil))) (pa_cons (pe_fld (pv 0) rfl) pa_nil))))
    (pss_one (ps_ret (pe_lst (pa_cons (pe_op op_sub (pe_callB call_len_seq rfl T.glo.len PySem.boot_len (pa_cons (pe_fld (pv 0) rfl) pa_nil)) pe_int) pa_nil))))))), ?_⟩
  refine ⟨_, rfl, nl, _, _, _, rfl, rfl, hS, at_of (j := 0) rfl (vints_at rfl), _, rfl, n, rfl, _, rfl, ite2 (fun c => ?_) (fun c => ?_)⟩
  · have c1 : Kh368.okMinutes n = false := by simpa using c
    refine ⟨(by show 1 ≤ sizeLine; decide), fun q hq => ?_⟩
    refine done k (s' := some a) (r := Kh368.say (-22)) ?_ hf (KeepBut.refl _ _) hq rfl
    show Kh368.doing (some a) (.row n) = _
    simp [Kh368.doing, c1]
  · have c1 : Kh368.okMinutes n = true := by simpa using c
    refine ⟨_, rfl, p, C, dx, _, _, rfl, B.ins, T.cl, T.nR, ff_rows _ _ _ _, r, _, rfl, .inl (SqL.of B.rows), rfl, _, rfl, ite2 (fun c => ?_) (fun c => ?_)⟩
    · have c2 : a.rows.length = 14 := by
        have c3 := V.int.inj (of_decide_eq_true c)
        rw [vints_len] at c3
        have c4 : ((a.rows.length : Nat) : Int) = 14 := c3
        omega
      refine ⟨(by show 1 ≤ sizeLine; decide), fun q hq => ?_⟩
      refine done k (s' := some a) (r := Kh368.say (-28)) ?_ hf (KeepBut.refl _ _) hq rfl
      show Kh368.doing (some a) (.row n) = _
      simp [Kh368.doing, c1, Kh368.ROWS, c2]
    · have c2 : a.rows.length < 14 := by
        have c3 : ¬ a.rows.length = 14 := fun e => c (decide_eq_true (by rw [vints_len, e]; rfl))
        have := g.now.len
        omega
      refine ⟨_, rfl, p, dx, _, rfl, B.ins, rfl, _, rfl, p, C, dx, _, _, rfl, B.ins, T.cl, T.nR, ff_rows _ _ _ _, _, rfl, (by show 1 ≤ sizeLine; decide), fun q hq => ?_⟩
      have s1 := Same.upd (o := .lst [V.int (n : Int)]) hq
      refine ⟨r, q, _, _, rfl, rfl, s1 _ _ B.rows, upd_same, (by rw [vints_len, List.length_singleton]; exact big100 (by omega)), fun v hv => ?_⟩
      have s2 := s1.trans (Same.upd (o := .lst (vints a.rows ++ [V.int (n : Int)])) hv)
      refine ⟨_, rfl, p, C, dx, _, _, rfl, s2 _ _ B.ins, T.cl, T.nP, ff_pickers _ _ _ _, p, v, a, a.rows ++ [n], a.pickers, rfl, hf.same s2, (by rw [upd_same, vints_app]; rfl), g.ten, fun H1 hf1 kb1 => ?_⟩
      obtain ⟨dx1, r1, u1, ts1, B1⟩ := id hf1
      refine ⟨_, rfl, p, C, dx1, _, _, rfl, B1.ins, T.cl, T.nR, ff_rows _ _ _ _, r1, _, rfl, .inl (SqL.of B1.rows), _, _, rfl, rfl, (by show 1 ≤ sizeLine; decide), fun x hx => ?_⟩
      refine done k (s' := some (Kh368.keep a { a with rows := a.rows ++ [n] })) (r := Kh368.say a.rows.length) ?_ hf1 ((kb s2).trans kb1) hx ?_
      · show Kh368.doing (some a) (.row n) = _
        have e14 : ¬ Kh368.ROWS ≤ a.rows.length := by unfold Kh368.ROWS; omega
        simp [Kh368.doing, c1, e14]
      · rw [vints_len]
        show [V.int (((a.rows ++ [n]).length : Int) - 1)] = [V.int (a.rows.length : Int)]
        rw [List.length_append, List.length_singleton]
        have e : (((a.rows.length + 1 : Nat) : Int) - 1) = (a.rows.length : Int) := by omega
        rw [e]
/-! ### out -/
theorem sc_aOut : FnScope ["farm", "numbers", "i"] ["farm", "numbers"] (defScope d_answer_out) := ⟨rfl, rfl, rfl, by decide +kernel, rfl, by decide +kernel, by decide +kernel⟩
theorem ok_aOut {f : Addr} {fd : FuncData} (F : Fun K "answer_out" "answer_out" d_answer_out f fd) (L : Lib P w K mg base C) : FnOk P w K mg base CX0 4 f fd ["farm", "numbers"] (spDo K C 2) := by
  refine F.ok sc_aOut (fun vs H Q E h => spDo_len h) (fun cdv A outer s H vs Q E hr h => ?_)
  obtain ⟨p, nl, st, ns, rfl, hf, hg, hn, hS, fit, k⟩ := h
  obtain ⟨i, rfl⟩ := one_of (show ns.length = 1 from fit)
  obtain ⟨a, rfl⟩ := some_of (by decide) hn
  have g := hg a rfl
  obtain ⟨dx, r, u, ts, B⟩ := id hf
  have T := L.txt
  have nd := sc_aOut.nd
  have hr1 : Room 1 _ := hr.mono (by decide)
  refine ⟨_, pss_cons (ps_set (i := 2) nd rfl (Or.inl rfl) (pe_ix ix_list (pv 1) pe_int (fun _ _ => rfl)))
    (pss_cons (ps_if (pt_not (pt_val (pe_mt (pv 0) T.cl L.mHas hr1 (pa_cons (pv 2) pa_nil)))) (pss_one (ps_ret (pe_lst (pa_cons (pe_cst T.none_such rfl) pa_nil)))) pss_nil)
    (pss_cons (ps_expr (pe_mt (pv 0) T.cl L.mChange hr1 (pa_cons (pe_dn L.rWithout hr1 rfl (pa_cons (pe_fld (pv 0) rfl) (pa_cons (pv 2) pa_nil))) (pa_cons (pe_fld (pv 0) rfl) pa_nil))))
    (pss_one (ps_ret (pe_lst (pa_cons (pe_callB call_len_seq rfl T.glo.len PySem.boot_len (pa_cons (pe_fld (pv 0) rfl) pa_nil)) pa_nil)))))), ?_⟩
  refine ⟨_, rfl, nl, _, _, _, rfl, rfl, hS, at_of (j := 0) rfl (vints_at rfl), _, rfl, p, dx, _, rfl, B.ins, rfl, _, rfl, p, a, i, rfl, hf, _, rfl, ite2 (fun c => ?_) (fun c => ?_)⟩
  · have c1 : a.rows.length ≤ i := by simpa using c
    refine ⟨(by show 1 ≤ sizeLine; decide), fun q hq => ?_⟩
    refine done k (s' := some a) (r := Kh368.say (-2)) ?_ hf (KeepBut.refl _ _) hq rfl
    show Kh368.doing (some a) (.out i) = _
    simp [Kh368.doing, c1]
  · have c1 : i < a.rows.length := by simpa using c
    refine ⟨_, rfl, p, dx, _, rfl, B.ins, rfl, _, rfl, p, C, dx, _, _, rfl, B.ins, T.cl, T.nR, ff_rows _ _ _ _, _, rfl, r, a.rows, i, rfl, SqL.of B.rows, Nat.le_trans g.now.len (by decide), fun H0 x s1 hx hl => ?_⟩
    refine ⟨_, rfl, p, C, dx, _, _, rfl, s1 _ _ B.ins, T.cl, T.nP, ff_pickers _ _ _ _, p, x, a, a.rows.eraseIdx i, a.pickers, rfl, hf.same s1, hl, g.ten, fun H1 hf1 kb1 => ?_⟩
    obtain ⟨dx1, r1, u1, ts1, B1⟩ := id hf1
    refine ⟨_, rfl, p, C, dx1, _, _, rfl, B1.ins, T.cl, T.nR, ff_rows _ _ _ _, r1, _, rfl, .inl (SqL.of B1.rows), (by show 1 ≤ sizeLine; decide), fun y hy => ?_⟩
    refine done k (s' := some (Kh368.keep a (Kh368.without a i))) (r := Kh368.say (a.rows.length - 1 : Nat)) ?_ hf1 ((kb s1).trans kb1) hy ?_
    · show Kh368.doing (some a) (.out i) = _
      simp [Kh368.doing]
      omega
    · rw [vints_len]
      show [V.int ((a.rows.eraseIdx i).length : Int)] = [V.int ((a.rows.length - 1 : Nat) : Int)]
      rw [List.length_eraseIdx, if_pos c1]
/-! ### minutes -/
theorem sc_aMinutes : FnScope ["farm", "numbers", "i", "minutes", "before"] ["farm", "numbers"] (defScope d_answer_minutes) := ⟨rfl, rfl, rfl, by decide +kernel, rfl, by decide +kernel, by decide +kernel⟩
theorem two_of {ns : List Nat} (h : ns.length = 2) : ∃ n m, ns = [n, m] := by
  match ns, h with
  | [n, m], _ => exact ⟨n, m, rfl⟩
theorem ok_aMinutes {f : Addr} {fd : FuncData} (F : Fun K "answer_minutes" "answer_minutes" d_answer_minutes f fd) (L : Lib P w K mg base C) : FnOk P w K mg base CX0 4 f fd ["farm", "numbers"] (spDo K C 3) := by
  refine F.ok sc_aMinutes (fun vs H Q E h => spDo_len h) (fun cdv A outer s H vs Q E hr h => ?_)
  obtain ⟨p, nl, st, ns, rfl, hf, hg, hn, hS, fit, k⟩ := h
  obtain ⟨i, n, rfl⟩ := two_of (show ns.length = 2 from fit)
  obtain ⟨a, rfl⟩ := some_of (by decide) hn
  have g := hg a rfl
  obtain ⟨dx, r, u, ts, B⟩ := id hf
  have T := L.txt
  have nd := sc_aMinutes.nd
  have hr1 : Room 1 _ := hr.mono (by decide)
  refine ⟨_, pss_cons (ps_set (i := 2) nd rfl (Or.inl rfl) (pe_ix ix_list (pv 1) pe_int (fun _ _ => rfl))) (pss_cons (ps_set (i := 3) nd rfl (Or.inl rfl) (pe_ix ix_list (pv 1) pe_int (fun _ _ => rfl)))
    (pss_cons (ps_if (pt_not (pt_val (pe_mt (pv 0) T.cl L.mHas hr1 (pa_cons (pv 2) pa_nil)))) (pss_one (ps_ret (pe_lst (pa_cons (pe_cst T.none_such rfl) pa_nil)))) pss_nil)
    (pss_cons (ps_if (pt_not (pt_val (pe_dn L.areM hr1 rfl (pa_cons (pv 3) pa_nil)))) (pss_one (ps_ret (pe_lst (pa_cons (pe_cst T.out_of_bounds rfl) pa_nil)))) pss_nil)
    (pss_cons (ps_set (i := 4) nd rfl (Or.inl rfl) (pe_ix ix_list (pe_fld (pv 0) rfl) (pv 2) (fun _ _ => rfl)))
    (pss_cons (ps_expr (pe_mt (pv 0) T.cl L.mChange hr1 (pa_cons (pe_dn L.rSet hr1 rfl (pa_cons (pe_fld (pv 0) rfl) (pa_cons (pv 2) (pa_cons (pv 3) pa_nil)))) (pa_cons (pe_fld (pv 0) rfl) pa_nil))))
    (pss_one (ps_ret (pe_lst (pa_cons (pv 4) pa_nil))))))))), ?_⟩
  refine ⟨_, rfl, nl, _, _, _, rfl, rfl, hS, at_of (j := 0) rfl (vints_at rfl), _, rfl, nl, _, _, _, rfl, rfl, hS, at_of (j := 1) rfl (vints_at rfl), ?_⟩
  refine ⟨_, rfl, p, dx, _, rfl, B.ins, rfl, _, rfl, p, a, i, rfl, hf, _, rfl, ite2 (fun c => ?_) (fun c => ?_)⟩
  · have c1 : a.rows.length ≤ i := by simpa using c
    refine ⟨(by show 1 ≤ sizeLine; decide), fun q hq => ?_⟩
    refine done k (s' := some a) (r := Kh368.say (-2)) ?_ hf (KeepBut.refl _ _) hq rfl
    show Kh368.doing (some a) (.minutes i n) = _
    simp [Kh368.doing, c1]
  · have c1 : i < a.rows.length := by simpa using c
    refine ⟨_, rfl, n, rfl, _, rfl, ite2 (fun c => ?_) (fun c => ?_)⟩
    · have c2 : Kh368.okMinutes n = false := by simpa using c
      refine ⟨(by show 1 ≤ sizeLine; decide), fun q hq => ?_⟩
      refine done k (s' := some a) (r := Kh368.say (-22)) ?_ hf (KeepBut.refl _ _) hq rfl
      show Kh368.doing (some a) (.minutes i n) = _
      simp [Kh368.doing, c2, Nat.not_le.mpr c1]
    · have c2 : Kh368.okMinutes n = true := by simpa using c
      obtain ⟨m, hm⟩ : ∃ m, a.rows[i]? = some m := ⟨_, List.getElem?_eq_getElem c1⟩
      refine ⟨_, rfl, p, C, dx, _, _, rfl, B.ins, T.cl, T.nR, ff_rows _ _ _ _, _, rfl, r, _, _, _, rfl, rfl, SqL.of B.rows, at_of (j := i) rfl (vints_at hm), ?_⟩
      refine ⟨_, rfl, p, dx, _, rfl, B.ins, rfl, _, rfl, p, C, dx, _, _, rfl, B.ins, T.cl, T.nR, ff_rows _ _ _ _, _, rfl, _, rfl, r, a.rows, i, n, rfl, SqL.of B.rows, Nat.le_trans g.now.len (by decide), c1, fun H0 z s1 hz hl => ?_⟩
      refine ⟨_, rfl, p, C, dx, _, _, rfl, s1 _ _ B.ins, T.cl, T.nP, ff_pickers _ _ _ _, p, z, a, a.rows.set i n, a.pickers, rfl, hf.same s1, hl, g.ten, fun H1 hf1 kb1 => ?_⟩
      refine ⟨_, rfl, (by show 1 ≤ sizeLine; decide), fun t ht => ?_⟩
      refine done k (s' := some (Kh368.keep a (Kh368.withRow a i n))) (r := Kh368.say (a.rows.getD i 0)) ?_ hf1 ((kb s1).trans kb1) ht ?_
      · show Kh368.doing (some a) (.minutes i n) = _
        simp [Kh368.doing, c2, Nat.not_le.mpr c1]
      · rw [List.getD_eq_getElem?_getD, hm]
        rfl
end
end Rs
end
section
/-! farm.py: what each call answers, the second part. -/
set_option Elab.async false
set_option linter.all false
set_option maxRecDepth 100000
set_option maxHeartbeats 2000000
namespace Rs
open PySem PySem.Spec PyProof.Rows L2
section
variable {P : Program} {w : World} {K : PySem.W.Frag} {mg : Str → Option Value} {base : Heap} {C : Addr}
/-! ### pickers -/
theorem sc_aPickers : FnScope ["farm", "numbers", "pickers", "before"] ["farm", "numbers"] (defScope d_answer_pickers) := ⟨rfl, rfl, rfl, by decide +kernel, rfl, by decide +kernel, by decide +kernel⟩
theorem ok_aPickers {f : Addr} {fd : FuncData} (F : Fun K "answer_pickers" "answer_pickers" d_answer_pickers f fd) (L : Lib P w K mg base C) : FnOk P w K mg base CX0 4 f fd ["farm", "numbers"] (spDo K C 4) := by
  refine F.ok sc_aPickers (fun vs H Q E h => spDo_len h) (fun cdv A outer s H vs Q E hr h => ?_)
  obtain ⟨p, nl, st, ns, rfl, hf, hg, hn, hS, fit, k⟩ := h
  obtain ⟨n, rfl⟩ := one_of (show ns.length = 1 from fit)
  obtain ⟨a, rfl⟩ := some_of (by decide) hn
  have g := hg a rfl
  obtain ⟨dx, r, u, ts, B⟩ := id hf
  have T := L.txt
  have nd := sc_aPickers.nd
  have hr1 : Room 1 _ := hr.mono (by decide)
  refine ⟨_, pss_cons (ps_set (i := 2) nd rfl (Or.inl rfl) (pe_ix ix_list (pv 1) pe_int (fun _ _ => rfl)))
    (pss_cons (ps_if (pt_not (pt_val (pe_dn L.areP hr1 rfl (pa_cons (pv 2) pa_nil)))) (pss_one (ps_ret (pe_lst (pa_cons (pe_cst T.out_of_bounds rfl) pa_nil)))) pss_nil)
    (pss_cons (ps_set (i := 3) nd rfl (Or.inl rfl) (pe_fld (pv 0) rfl))
    (pss_cons (ps_if (pt_cmpR op_eq (pv 2) (pv 3) (nomark _)) (pss_one (ps_ret (pe_lst (pa_cons (pe_cst T.already_so rfl) pa_nil)))) pss_nil)
    (pss_cons (ps_expr (pe_mt (pv 0) T.cl L.mChange hr1 (pa_cons (pe_fld (pv 0) rfl) (pa_cons (pv 2) pa_nil))))
    (pss_one (ps_ret (pe_lst (pa_cons (pv 3) pa_nil)))))))), ?_⟩
  refine ⟨_, rfl, nl, _, _, _, rfl, rfl, hS, at_of (j := 0) rfl (vints_at rfl), _, rfl, n, rfl, _, rfl, ite2 (fun c => ?_) (fun c => ?_)⟩
  · have c1 : Kh368.okPickers n = false := by simpa using c
    refine ⟨(by show 1 ≤ sizeLine; decide), fun q hq => ?_⟩
    refine done k (s' := some a) (r := Kh368.say (-22)) ?_ hf (KeepBut.refl _ _) hq rfl
    show Kh368.doing (some a) (.pickers n) = _
    simp [Kh368.doing, c1]
  · have c1 : Kh368.okPickers n = true := by simpa using c
    refine ⟨_, rfl, p, C, dx, _, _, rfl, B.ins, T.cl, T.nP, ff_pickers _ _ _ _, _, rfl, _, rfl, rfl, _, rfl, ite2 (fun c => ?_) (fun c => ?_)⟩
    · have c2 : n = a.pickers := by
        rw [eq_vint] at c
        exact of_decide_eq_true c
      refine ⟨(by show 1 ≤ sizeLine; decide), fun q hq => ?_⟩
      refine done k (s' := some a) (r := Kh368.say (-17)) ?_ hf (KeepBut.refl _ _) hq rfl
      show Kh368.doing (some a) (.pickers n) = _
      have c3 : Kh368.okPickers a.pickers = true := by rw [← c2]; exact c1
      simp [Kh368.doing, c2, c3]
    · have c2 : ¬ n = a.pickers := by
        rw [eq_vint] at c
        exact fun e => c (decide_eq_true e)
      refine ⟨_, rfl, p, dx, _, rfl, B.ins, rfl, _, rfl, p, C, dx, _, _, rfl, B.ins, T.cl, T.nR, ff_rows _ _ _ _, _, rfl, p, r, a, a.rows, n, rfl, hf, B.rows, g.ten, fun H1 hf1 kb1 => ?_⟩
      refine ⟨_, rfl, (by show 1 ≤ sizeLine; decide), fun q hq => ?_⟩
      refine done k (s' := some (Kh368.keep a { a with pickers := n })) (r := Kh368.say a.pickers) ?_ hf1 kb1 hq rfl
      show Kh368.doing (some a) (.pickers n) = _
      simp [Kh368.doing, c1, c2]
/-! ### back -/
theorem sc_aBack : FnScope ["farm", "numbers"] ["farm", "numbers"] (defScope d_answer_back) := ⟨rfl, rfl, rfl, by decide +kernel, rfl, by decide +kernel, by decide +kernel⟩
theorem ok_aBack {f : Addr} {fd : FuncData} (F : Fun K "answer_back" "answer_back" d_answer_back f fd) (L : Lib P w K mg base C) : FnOk P w K mg base CX0 4 f fd ["farm", "numbers"] (spDo K C 5) := by
  refine F.ok sc_aBack (fun vs H Q E h => spDo_len h) (fun cdv A outer s H vs Q E hr h => ?_)
  obtain ⟨p, nl, st, ns, rfl, hf, hg, hn, hS, fit, k⟩ := h
  obtain ⟨a, rfl⟩ := some_of (by decide) hn
  have g := hg a rfl
  obtain ⟨dx, r, u, ts, B⟩ := id hf
  have T := L.txt
  have hr1 : Room 1 _ := hr.mono (by decide)
  refine ⟨_, pss_cons (ps_if (pt_cmpR op_eq (pe_callB call_len_seq rfl T.glo.len PySem.boot_len (pa_cons (pe_fld (pv 0) rfl) pa_nil)) pe_int (nomark _)) (pss_one (ps_ret (pe_lst (pa_cons (pe_cst T.none_such rfl) pa_nil)))) pss_nil)
    (pss_cons (ps_expr (pe_mt0 (pv 0) T.cl L.mBack hr1)) (pss_one (ps_ret (pe_lst (pa_cons (pe_callB call_len_seq rfl T.glo.len PySem.boot_len (pa_cons (pe_fld (pv 0) rfl) pa_nil)) pa_nil))))), ?_⟩
  have len : (ts.reverse.map V.ref).length = a.undo.length := by rw [List.length_map, List.length_reverse, B.undo.len]
  refine ⟨_, rfl, p, C, dx, _, _, rfl, B.ins, T.cl, T.nU, ff_past _ _ _ _, u, _, rfl, .inl (SqL.of B.past), rfl, _, rfl, ite2 (fun c => ?_) (fun c => ?_)⟩
  · have c1 : a.undo = [] := by
      rw [len] at c
      have c2 := V.int.inj (of_decide_eq_true c)
      exact List.eq_nil_of_length_eq_zero (by omega)
    refine ⟨(by show 1 ≤ sizeLine; decide), fun q hq => ?_⟩
    refine done k (s' := some a) (r := Kh368.say (-2)) ?_ hf (KeepBut.refl _ _) hq rfl
    show Kh368.doing (some a) .back = _
    simp [Kh368.doing, c1]
  · cases q : a.undo with
    | nil =>
      rw [len, q] at c
      exact absurd (decide_eq_true rfl) c
    | cons x us =>
      obtain ⟨k1, l1⟩ := x
      refine ⟨_, rfl, p, dx, _, rfl, B.ins, rfl, p, a, k1, l1, us, rfl, hf, q, fun H1 hf1 kb1 => ?_⟩
      obtain ⟨dx1, r1, u1, ts1, B1⟩ := id hf1
      have len1 : (ts1.reverse.map V.ref).length = us.length := by rw [List.length_map, List.length_reverse, B1.undo.len]
      refine ⟨_, rfl, p, C, dx1, _, _, rfl, B1.ins, T.cl, T.nU, ff_past _ _ _ _, u1, _, rfl, .inl (SqL.of B1.past), (by show 1 ≤ sizeLine; decide), fun t ht => ?_⟩
      refine done k (s' := some ⟨k1, l1, us⟩) (r := Kh368.say us.length) ?_ hf1 kb1 ht ?_
      · show Kh368.doing (some a) .back = _
        simp [Kh368.doing, q]
      · rw [len1]
        rfl
/-! ### least -/
theorem sc_aLeast : FnScope ["farm", "numbers"] ["farm", "numbers"] (defScope d_answer_least) := ⟨rfl, rfl, rfl, by decide +kernel, rfl, by decide +kernel, by decide +kernel⟩
theorem ok_aLeast {f : Addr} {fd : FuncData} (F : Fun K "answer_least" "answer_least" d_answer_least f fd) (L : Lib P w K mg base C) : FnOk P w K mg base CX0 4 f fd ["farm", "numbers"] (spDo K C 6) := by
  refine F.ok sc_aLeast (fun vs H Q E h => spDo_len h) (fun cdv A outer s H vs Q E hr h => ?_)
  obtain ⟨p, nl, st, ns, rfl, hf, hg, hn, hS, fit, k⟩ := h
  obtain ⟨a, rfl⟩ := some_of (by decide) hn
  have g := (hg a rfl).now
  obtain ⟨dx, r, u, ts, B⟩ := id hf
  have T := L.txt
  refine ⟨_, pss_one (ps_ret (pe_lst (pa_cons (pe_dn (L.little.mono (show 2 ≤ 3 by decide)) hr rfl (pa_cons (pe_fld (pv 0) rfl) (pa_cons (pe_fld (pv 0) rfl) pa_nil))) pa_nil))), ?_⟩
  refine ⟨_, rfl, p, C, dx, _, _, rfl, B.ins, T.cl, T.nR, ff_rows _ _ _ _, _, rfl, p, C, dx, _, _, rfl, B.ins, T.cl, T.nP, ff_pickers _ _ _ _, r, a.rows, a.pickers, rfl, SqL.of B.rows, Nat.le_trans g.len (by decide), g.k1, Nat.le_trans g.k6 (by decide), fun H1 s1 => ?_⟩
  refine ⟨(by show 1 ≤ sizeLine; decide), fun q hq => ?_⟩
  exact done k (s' := some a) (r := Kh368.say (Kh368.least a)) rfl (hf.same s1) (kb s1) hq rfl
/-! ### plan -/
theorem sc_aPlan : FnScope ["farm", "numbers"] ["farm", "numbers"] (defScope d_answer_plan) := ⟨rfl, rfl, rfl, by decide +kernel, rfl, by decide +kernel, by decide +kernel⟩
theorem ok_aPlan {f : Addr} {fd : FuncData} (F : Fun K "answer_plan" "answer_plan" d_answer_plan f fd) (L : Lib P w K mg base C) : FnOk P w K mg base CX0 4 f fd ["farm", "numbers"] (spDo K C 7) := by
  refine F.ok sc_aPlan (fun vs H Q E h => spDo_len h) (fun cdv A outer s H vs Q E hr h => ?_)
  obtain ⟨p, nl, st, ns, rfl, hf, hg, hn, hS, fit, k⟩ := h
  obtain ⟨a, rfl⟩ := some_of (by decide) hn
  have g := (hg a rfl).now
  obtain ⟨dx, r, u, ts, B⟩ := id hf
  have T := L.txt
  refine ⟨_, pss_one (ps_ret (pe_op op_cat (pe_lst (pa_cons (pe_fld (pv 0) rfl) pa_nil)) (pe_dn L.planned hr rfl (pa_cons (pe_fld (pv 0) rfl) (pa_cons (pe_fld (pv 0) rfl) pa_nil))))), ?_⟩
  refine ⟨_, rfl, p, C, dx, _, _, rfl, B.ins, T.cl, T.nP, ff_pickers _ _ _ _, (by show 1 ≤ sizeLine; decide), fun q hq => ?_⟩
  have s1 := Same.upd (o := .lst [V.int (a.pickers : Int)]) hq
  refine ⟨_, rfl, p, C, dx, _, _, rfl, s1 _ _ B.ins, T.cl, T.nR, ff_rows _ _ _ _, _, rfl, p, C, dx, _, _, rfl, s1 _ _ B.ins, T.cl, T.nP, ff_pickers _ _ _ _, r, a.rows, a.pickers, rfl, SqL.of (s1 _ _ B.rows), Nat.le_trans g.len (by decide), g.k1, Nat.le_trans g.k6 (by decide), fun H1 v s2 hv hl => ?_⟩
  have pl : (planOf a.pickers a.rows).length = a.pickers := plan_len (a := a) g.k1
  refine ⟨q, v, _, _, rfl, rfl, s2 _ _ upd_same, hl, (by rw [vints_len, pl, List.length_singleton]; have := g.k6; exact big100 (by omega)), fun t ht => ?_⟩
  refine done k (s' := some a) (r := Kh368.list (Kh368.plan a)) rfl (hf.same (s1.trans s2)) (kb (s1.trans s2)) ht ?_
  show [V.int (a.pickers : Int)] ++ vints (planOf a.pickers a.rows) = V.int (((planOf a.pickers a.rows).length : Nat) : Int) :: vints (planOf a.pickers a.rows)
  rw [pl]
  rfl
/-! ### who -/
theorem sc_aWho : FnScope ["farm", "numbers", "i"] ["farm", "numbers"] (defScope d_answer_who) := ⟨rfl, rfl, rfl, by decide +kernel, rfl, by decide +kernel, by decide +kernel⟩
theorem ok_aWho {f : Addr} {fd : FuncData} (F : Fun K "answer_who" "answer_who" d_answer_who f fd) (L : Lib P w K mg base C) : FnOk P w K mg base CX0 4 f fd ["farm", "numbers"] (spDo K C 8) := by
  refine F.ok sc_aWho (fun vs H Q E h => spDo_len h) (fun cdv A outer s H vs Q E hr h => ?_)
  obtain ⟨p, nl, st, ns, rfl, hf, hg, hn, hS, fit, k⟩ := h
  obtain ⟨i, rfl⟩ := one_of (show ns.length = 1 from fit)
  obtain ⟨a, rfl⟩ := some_of (by decide) hn
  have g := (hg a rfl).now
  obtain ⟨dx, r, u, ts, B⟩ := id hf
  have T := L.txt
  have nd := sc_aWho.nd
  have hr1 : Room 1 _ := hr.mono (by decide)
  refine ⟨_, pss_cons (ps_set (i := 2) nd rfl (Or.inl rfl) (pe_ix ix_list (pv 1) pe_int (fun _ _ => rfl)))
    (pss_cons (ps_if (pt_not (pt_val (pe_mt (pv 0) T.cl L.mHas hr1 (pa_cons (pv 2) pa_nil)))) (pss_one (ps_ret (pe_lst (pa_cons (pe_cst T.none_such rfl) pa_nil)))) pss_nil)
    (pss_one (ps_ret (pe_lst (pa_cons (pe_dn L.picker hr1 rfl (pa_cons (pe_dn L.planned hr rfl (pa_cons (pe_fld (pv 0) rfl) (pa_cons (pe_fld (pv 0) rfl) pa_nil))) (pa_cons (pv 2) pa_nil))) pa_nil))))), ?_⟩
  refine ⟨_, rfl, nl, _, _, _, rfl, rfl, hS, at_of (j := 0) rfl (vints_at rfl), _, rfl, p, dx, _, rfl, B.ins, rfl, _, rfl, p, a, i, rfl, hf, _, rfl, ite2 (fun c => ?_) (fun c => ?_)⟩
  · have c1 : a.rows.length ≤ i := by simpa using c
    refine ⟨(by show 1 ≤ sizeLine; decide), fun q hq => ?_⟩
    refine done k (s' := some a) (r := Kh368.say (-2)) ?_ hf (KeepBut.refl _ _) hq rfl
    show Kh368.doing (some a) (.who i) = _
    simp [Kh368.doing, c1]
  · have c1 : i < a.rows.length := by simpa using c
    refine ⟨_, rfl, p, C, dx, _, _, rfl, B.ins, T.cl, T.nR, ff_rows _ _ _ _, _, rfl, p, C, dx, _, _, rfl, B.ins, T.cl, T.nP, ff_pickers _ _ _ _, r, a.rows, a.pickers, rfl, SqL.of B.rows, Nat.le_trans g.len (by decide), g.k1, Nat.le_trans g.k6 (by decide), fun H1 v s1 hv hl => ?_⟩
    have pl : (planOf a.pickers a.rows).length = a.pickers := plan_len (a := a) g.k1
    have ps : (planOf a.pickers a.rows).sum = a.rows.length := plan_sum a
    refine ⟨_, rfl, v, planOf a.pickers a.rows, i, rfl, SqL.of hl, by omega, by have := g.k6; omega, fun w' w1 w2 => ?_⟩
    refine ⟨(by show 1 ≤ sizeLine; decide), fun t ht => ?_⟩
    have e := who_is (a := a) w1 w2
    refine done k (s' := some a) (r := Kh368.say (Kh368.who a i)) ?_ (hf.same s1) (kb s1) ht ?_
    · show Kh368.doing (some a) (.who i) = _
      simp [Kh368.doing, Nat.not_le.mpr c1]
    · rw [e]
      rfl
/-! ### told -/
theorem sc_aTold : FnScope ["farm", "shares", "most"] ["farm", "shares"] (defScope d_answer_told) := ⟨rfl, rfl, rfl, by decide +kernel, rfl, by decide +kernel, by decide +kernel⟩
theorem ok_aTold {f : Addr} {fd : FuncData} (F : Fun K "answer_told" "answer_told" d_answer_told f fd) (L : Lib P w K mg base C) : FnOk P w K mg base CX0 4 f fd ["farm", "shares"] (spDo K C 9) := by
  refine F.ok sc_aTold (fun vs H Q E h => spDo_len h) (fun cdv A outer s H vs Q E hr h => ?_)
  obtain ⟨p, nl, st, ns, rfl, hf, hg, hn, hS, fit, k⟩ := h
  obtain ⟨a, rfl⟩ := some_of (by decide) hn
  have g := (hg a rfl).now
  obtain ⟨dx, r, u, ts, B⟩ := id hf
  have T := L.txt
  have nd := sc_aTold.nd
  have hr1 : Room 1 _ := hr.mono (by decide)
  have hr2 : Room 2 _ := hr.mono (by decide)
  refine ⟨_, pss_cons (ps_if (PW.pt (pw_or (pt_cmpR op_ne (pe_callB call_len_seq rfl T.glo.len PySem.boot_len (pa_cons (pv 1) pa_nil)) (pe_fld (pv 0) rfl) (nomark _))
      (pw_or1 (pt_cmpR op_ne (pe_callB (cr_sum rfl) rfl T.glo.sum PyProof.Rows.boot_sum (pa_cons (pv 1) pa_nil)) (pe_callB call_len_seq rfl T.glo.len PySem.boot_len (pa_cons (pe_fld (pv 0) rfl) pa_nil)) (nomark _)))))
      (pss_one (ps_ret (pe_lst (pa_cons (pe_cst T.out_of_bounds rfl) pa_nil)))) pss_nil)
    (pss_cons (ps_set (i := 2) nd rfl (Or.inl rfl) (pe_dn L.most hr1 rfl (pa_cons (pe_fld (pv 0) rfl) (pa_cons (pv 1) pa_nil))))
    (pss_one (ps_ret (pe_lst (pa_cons (pv 2) (pa_cons (pe_op op_sub (pv 2) (pe_dn L.little hr2 rfl (pa_cons (pe_fld (pv 0) rfl) (pa_cons (pe_fld (pv 0) rfl) pa_nil)))) pa_nil)))))), ?_⟩
  have bad : ∀ q : Addr, H q = none → Kh368.okShares a ns = false → Q (.ref q) (upd H q (.lst [V.int (-22)])) := fun q hq e => by
    refine done k (s' := some a) (r := Kh368.say (-22)) ?_ hf (KeepBut.refl _ _) hq rfl
    show Kh368.doing (some a) (.told ns) = _
    simp [Kh368.doing, e]
  refine ⟨_, rfl, nl, _, rfl, .inl hS, _, rfl, p, C, dx, _, _, rfl, B.ins, T.cl, T.nP, ff_pickers _ _ _ _, rfl, _, rfl, ite2 (fun c => ?_) (fun c => ?_)⟩
  · rw [vints_len, eq_vint] at c
    have c1 : ¬ ns.length = a.pickers := by simpa using c
    refine ⟨(by show 1 ≤ sizeLine; decide), fun q hq => bad q hq ?_⟩
    rw [Bool.eq_false_iff]
    exact fun z => c1 (okShares_iff.mp z).1
  · rw [vints_len, eq_vint] at c
    have c1 : ns.length = a.pickers := by simpa using c
    refine ⟨_, rfl, nl, ns.map Int.ofNat, rfl, hS, _, rfl, p, C, dx, _, _, rfl, B.ins, T.cl, T.nR, ff_rows _ _ _ _, r, _, rfl, .inl (SqL.of B.rows), rfl, _, rfl, ite2 (fun c => ?_) (fun c => ?_)⟩
    · rw [vints_len, sum_ofNat, eq_vint] at c
      have c2 : ¬ ns.sum = a.rows.length := by simpa using c
      refine ⟨(by show 1 ≤ sizeLine; decide), fun q hq => bad q hq ?_⟩
      rw [Bool.eq_false_iff]
      exact fun z => c2 (okShares_iff.mp z).2
    · rw [vints_len, sum_ofNat, eq_vint] at c
      have c2 : ns.sum = a.rows.length := by simpa using c
      have ok : Kh368.okShares a ns = true := okShares_iff.mpr ⟨c1, c2⟩
      refine ⟨_, rfl, p, C, dx, _, _, rfl, B.ins, T.cl, T.nR, ff_rows _ _ _ _, _, rfl, r, nl, a.rows, ns, rfl, SqL.of B.rows, hS, fun H1 s1 => ?_⟩
      refine ⟨_, rfl, _, rfl, _, rfl, p, C, dx, _, _, rfl, s1 _ _ B.ins, T.cl, T.nR, ff_rows _ _ _ _, _, rfl, p, C, dx, _, _, rfl, s1 _ _ B.ins, T.cl, T.nP, ff_pickers _ _ _ _, r, a.rows, a.pickers, rfl, SqL.of (s1 _ _ B.rows), Nat.le_trans g.len (by decide), g.k1, Nat.le_trans g.k6 (by decide), fun H2 s2 => ?_⟩
      refine ⟨_, _, rfl, rfl, (by show 2 ≤ sizeLine; decide), fun q hq => ?_⟩
      have le := least_le_most g.k1 c1 c2
      refine done k (s' := some a) (r := ⟨Kh368.mostOf a.rows ns, [Kh368.mostOf a.rows ns - Kh368.least a]⟩) ?_ (hf.same (s1.trans s2)) (kb (s1.trans s2)) hq ?_
      · show Kh368.doing (some a) (.told ns) = _
        simp [Kh368.doing, ok]
      · have e : ((Kh368.mostOf a.rows ns : Nat) : Int) - ((Kh368.leastBy a.pickers a.rows : Nat) : Int) = ((Kh368.mostOf a.rows ns - Kh368.leastBy a.pickers a.rows : Nat) : Int) := by omega
        show [V.int (Kh368.mostOf a.rows ns : Nat), V.int (((Kh368.mostOf a.rows ns : Nat) : Int) - ((Kh368.leastBy a.pickers a.rows : Nat) : Int))] = _
        rw [e]
        rfl
/-! ### fewest -/
theorem sc_aFewest : FnScope ["farm", "numbers", "limit"] ["farm", "numbers"] (defScope d_answer_fewest) := ⟨rfl, rfl, rfl, by decide +kernel, rfl, by decide +kernel, by decide +kernel⟩
theorem ok_aFewest {f : Addr} {fd : FuncData} (F : Fun K "answer_fewest" "answer_fewest" d_answer_fewest f fd) (L : Lib P w K mg base C) : FnOk P w K mg base CX0 4 f fd ["farm", "numbers"] (spDo K C 10) := by
  refine F.ok sc_aFewest (fun vs H Q E h => spDo_len h) (fun cdv A outer s H vs Q E hr h => ?_)
  obtain ⟨p, nl, st, ns, rfl, hf, hg, hn, hS, fit, k⟩ := h
  obtain ⟨m, rfl⟩ := one_of (show ns.length = 1 from fit)
  obtain ⟨a, rfl⟩ := some_of (by decide) hn
  have g := (hg a rfl).now
  obtain ⟨dx, r, u, ts, B⟩ := id hf
  have T := L.txt
  have nd := sc_aFewest.nd
  have hr1 : Room 1 _ := hr.mono (by decide)
  refine ⟨_, pss_cons (ps_set (i := 2) nd rfl (Or.inl rfl) (pe_ix ix_list (pv 1) pe_int (fun _ _ => rfl)))
    (pss_cons (ps_if (pt_cmpR op_gt (pe_dn L.longest hr1 rfl (pa_cons (pe_fld (pv 0) rfl) pa_nil)) (pv 2) (nomark _)) (pss_one (ps_ret (pe_lst (pa_cons (pe_cst T.too_long rfl) pa_nil)))) pss_nil)
    (pss_one (ps_ret (pe_lst (pa_cons (pe_callB call_len_seq rfl T.glo.len PySem.boot_len (pa_cons (pe_dn L.given hr1 rfl (pa_cons (pe_fld (pv 0) rfl) (pa_cons (pv 2) pa_nil))) pa_nil)) pa_nil))))), ?_⟩
  refine ⟨_, rfl, nl, _, _, _, rfl, rfl, hS, at_of (j := 0) rfl (vints_at rfl), _, rfl, p, C, dx, _, _, rfl, B.ins, T.cl, T.nR, ff_rows _ _ _ _, r, a.rows, rfl, SqL.of B.rows, _, rfl, _, _, rfl, rfl, _, rfl, ite2 (fun c => ?_) (fun c => ?_)⟩
  · have c1 : ¬ Kh368.greatest a.rows ≤ m := by
      have c2 : (m : Int) < (Kh368.greatest a.rows : Nat) := of_decide_eq_true c
      omega
    refine ⟨(by show 1 ≤ sizeLine; decide), fun q hq => ?_⟩
    refine done k (s' := some a) (r := Kh368.say (-33)) ?_ hf (KeepBut.refl _ _) hq rfl
    show Kh368.doing (some a) (.fewest m) = _
    simp [Kh368.doing, Kh368.fewest, c1]
  · have c1 : Kh368.greatest a.rows ≤ m := by
      have c2 : ¬ (m : Int) < (Kh368.greatest a.rows : Nat) := fun z => c (decide_eq_true z)
      omega
    refine ⟨_, rfl, p, C, dx, _, _, rfl, B.ins, T.cl, T.nR, ff_rows _ _ _ _, _, rfl, r, a.rows, m, rfl, SqL.of B.rows, Nat.le_trans g.len (by decide), fun H1 v s1 hv hl => ?_⟩
    refine ⟨v, _, rfl, .inl (SqL.of hl), (by show 1 ≤ sizeLine; decide), fun q hq => ?_⟩
    refine done k (s' := some a) (r := Kh368.say (Kh368.shares m a.rows).length) ?_ (hf.same s1) (kb s1) hq ?_
    · show Kh368.doing (some a) (.fewest m) = _
      simp [Kh368.doing, Kh368.fewest, c1]
    · rw [vints_len]
      rfl
end
end Rs
end
section
/-! farm.py: what each call of stage 2 answers. -/
set_option Elab.async false
set_option linter.all false
set_option maxRecDepth 100000
set_option maxHeartbeats 2000000
namespace Rs
open PySem PySem.Spec PyProof.Rows L2
section
variable {P : Program} {w : World} {K : PySem.W.Frag} {mg : Str → Option Value} {base : Heap} {C : Addr}
/-! ### if_pickers -/
theorem sc_aIf : FnScope ["farm", "numbers", "pickers"] ["farm", "numbers"] (defScope d_answer_if_pickers) := ⟨rfl, rfl, rfl, by decide +kernel, rfl, by decide +kernel, by decide +kernel⟩
theorem ok_aIf {f : Addr} {fd : FuncData} (F : Fun K "answer_if_pickers" "answer_if_pickers" d_answer_if_pickers f fd) (L : Lib P w K mg base C) : FnOk P w K mg base CX0 4 f fd ["farm", "numbers"] (spDo K C 11) := by
  refine F.ok sc_aIf (fun vs H Q E h => spDo_len h) (fun cdv A outer s H vs Q E hr h => ?_)
  obtain ⟨p, nl, st, ns, rfl, hf, hg, hn, hS, fit, k⟩ := h
  obtain ⟨n, rfl⟩ := one_of (show ns.length = 1 from fit)
  obtain ⟨a, rfl⟩ := some_of (by decide) hn
  have g := (hg a rfl).now
  obtain ⟨dx, r, u, ts, B⟩ := id hf
  have T := L.txt
  have nd := sc_aIf.nd
  have hr1 : Room 1 _ := hr.mono (by decide)
  have hr2 : Room 2 _ := hr.mono (by decide)
  refine ⟨_, pss_cons (ps_set (i := 2) nd rfl (Or.inl rfl) (pe_ix ix_list (pv 1) pe_int (fun _ _ => rfl)))
    (pss_cons (ps_if (pt_not (pt_val (pe_dn L.areP hr1 rfl (pa_cons (pv 2) pa_nil)))) (pss_one (ps_ret (pe_lst (pa_cons (pe_cst T.out_of_bounds rfl) pa_nil)))) pss_nil)
    (pss_one (ps_ret (pe_lst (pa_cons (pe_dn L.little hr2 rfl (pa_cons (pe_fld (pv 0) rfl) (pa_cons (pv 2) pa_nil))) pa_nil))))), ?_⟩
  refine ⟨_, rfl, nl, _, _, _, rfl, rfl, hS, at_of (j := 0) rfl (vints_at rfl), _, rfl, n, rfl, _, rfl, ite2 (fun c => ?_) (fun c => ?_)⟩
  · have c1 : Kh368.okPickers n = false := by simpa using c
    refine ⟨(by show 1 ≤ sizeLine; decide), fun q hq => ?_⟩
    refine done k (s' := some a) (r := Kh368.say (-22)) ?_ hf (KeepBut.refl _ _) hq rfl
    show Kh368.doing (some a) (.ifPickers n) = _
    simp [Kh368.doing, c1]
  · have c1 : Kh368.okPickers n = true := by simpa using c
    have c2 := okPickers_iff.mp c1
    refine ⟨_, rfl, p, C, dx, _, _, rfl, B.ins, T.cl, T.nR, ff_rows _ _ _ _, _, rfl, r, a.rows, n, rfl, SqL.of B.rows, Nat.le_trans g.len (by decide), c2.1, Nat.le_trans c2.2 (by decide), fun H1 s1 => ?_⟩
    refine ⟨(by show 1 ≤ sizeLine; decide), fun q hq => ?_⟩
    refine done k (s' := some a) (r := Kh368.say (Kh368.leastBy n a.rows)) ?_ (hf.same s1) (kb s1) hq rfl
    show Kh368.doing (some a) (.ifPickers n) = _
    simp [Kh368.doing, c1]
/-! ### more -/
theorem sc_aMore : FnScope ["farm", "numbers", "minutes"] ["farm", "numbers"] (defScope d_answer_more) := ⟨rfl, rfl, rfl, by decide +kernel, rfl, by decide +kernel, by decide +kernel⟩
theorem ok_aMore {f : Addr} {fd : FuncData} (F : Fun K "answer_more" "answer_more" d_answer_more f fd) (L : Lib P w K mg base C) : FnOk P w K mg base CX0 4 f fd ["farm", "numbers"] (spDo K C 12) := by
  refine F.ok sc_aMore (fun vs H Q E h => spDo_len h) (fun cdv A outer s H vs Q E hr h => ?_)
  obtain ⟨p, nl, st, ns, rfl, hf, hg, hn, hS, fit, k⟩ := h
  obtain ⟨n, rfl⟩ := one_of (show ns.length = 1 from fit)
  obtain ⟨a, rfl⟩ := some_of (by decide) hn
  have g := (hg a rfl).now
  obtain ⟨dx, r, u, ts, B⟩ := id hf
  have T := L.txt
  have nd := sc_aMore.nd
  have hr1 : Room 1 _ := hr.mono (by decide)
  have hr2 : Room 2 _ := hr.mono (by decide)
  refine ⟨_, pss_cons (ps_set (i := 2) nd rfl (Or.inl rfl) (pe_ix ix_list (pv 1) pe_int (fun _ _ => rfl)))
    (pss_cons (ps_if (pt_not (pt_val (pe_dn L.areM hr1 rfl (pa_cons (pv 2) pa_nil)))) (pss_one (ps_ret (pe_lst (pa_cons (pe_cst T.out_of_bounds rfl) pa_nil)))) pss_nil)
    (pss_one (ps_ret (pe_lst (pa_cons (pe_dn L.little hr2 rfl (pa_cons (pe_op op_cat (pe_fld (pv 0) rfl) (pe_lst (pa_cons (pv 2) pa_nil))) (pa_cons (pe_fld (pv 0) rfl) pa_nil))) pa_nil))))), ?_⟩
  refine ⟨_, rfl, nl, _, _, _, rfl, rfl, hS, at_of (j := 0) rfl (vints_at rfl), _, rfl, n, rfl, _, rfl, ite2 (fun c => ?_) (fun c => ?_)⟩
  · have c1 : Kh368.okMinutes n = false := by simpa using c
    refine ⟨(by show 1 ≤ sizeLine; decide), fun q hq => ?_⟩
    refine done k (s' := some a) (r := Kh368.say (-22)) ?_ hf (KeepBut.refl _ _) hq rfl
    show Kh368.doing (some a) (.more n) = _
    simp [Kh368.doing, c1]
  · have c1 : Kh368.okMinutes n = true := by simpa using c
    have lim := g.len
    refine ⟨_, rfl, p, C, dx, _, _, rfl, B.ins, T.cl, T.nR, ff_rows _ _ _ _, _, rfl, (by show 1 ≤ sizeLine; decide), fun q hq => ?_⟩
    have s1 := Same.upd (o := .lst [V.int (n : Int)]) hq
    refine ⟨r, q, _, _, rfl, rfl, s1 _ _ B.rows, upd_same, (by rw [vints_len, List.length_singleton]; exact big100 (by omega)), fun v hv => ?_⟩
    have s2 := s1.trans (Same.upd (o := .lst (vints a.rows ++ [V.int (n : Int)])) hv)
    refine ⟨_, rfl, p, C, dx, _, _, rfl, s2 _ _ B.ins, T.cl, T.nP, ff_pickers _ _ _ _, v, a.rows ++ [n], a.pickers, rfl, SqL.of (by rw [upd_same, vints_app]; rfl), (by rw [List.length_append, List.length_singleton]; omega), g.k1, Nat.le_trans g.k6 (by decide), fun H1 s3 => ?_⟩
    refine ⟨(by show 1 ≤ sizeLine; decide), fun t ht => ?_⟩
    refine done k (s' := some a) (r := Kh368.say (Kh368.leastBy a.pickers (a.rows ++ [n]))) ?_ (hf.same (s2.trans s3)) (kb (s2.trans s3)) ht rfl
    show Kh368.doing (some a) (.more n) = _
    simp [Kh368.doing, c1]
/-! ### first -/
theorem sc_aFirst : FnScope ["farm", "numbers", "minutes"] ["farm", "numbers"] (defScope d_answer_first) := ⟨rfl, rfl, rfl, by decide +kernel, rfl, by decide +kernel, by decide +kernel⟩
theorem ok_aFirst {f : Addr} {fd : FuncData} (F : Fun K "answer_first" "answer_first" d_answer_first f fd) (L : Lib P w K mg base C) : FnOk P w K mg base CX0 4 f fd ["farm", "numbers"] (spDo K C 13) := by
  refine F.ok sc_aFirst (fun vs H Q E h => spDo_len h) (fun cdv A outer s H vs Q E hr h => ?_)
  obtain ⟨p, nl, st, ns, rfl, hf, hg, hn, hS, fit, k⟩ := h
  obtain ⟨n, rfl⟩ := one_of (show ns.length = 1 from fit)
  obtain ⟨a, rfl⟩ := some_of (by decide) hn
  have g := (hg a rfl).now
  obtain ⟨dx, r, u, ts, B⟩ := id hf
  have T := L.txt
  have nd := sc_aFirst.nd
  have hr1 : Room 1 _ := hr.mono (by decide)
  have hr2 : Room 2 _ := hr.mono (by decide)
  refine ⟨_, pss_cons (ps_set (i := 2) nd rfl (Or.inl rfl) (pe_ix ix_list (pv 1) pe_int (fun _ _ => rfl)))
    (pss_cons (ps_if (pt_not (pt_val (pe_dn L.areM hr1 rfl (pa_cons (pv 2) pa_nil)))) (pss_one (ps_ret (pe_lst (pa_cons (pe_cst T.out_of_bounds rfl) pa_nil)))) pss_nil)
    (pss_one (ps_ret (pe_lst (pa_cons (pe_dn L.little hr2 rfl (pa_cons (pe_op op_cat (pe_lst (pa_cons (pv 2) pa_nil)) (pe_fld (pv 0) rfl)) (pa_cons (pe_fld (pv 0) rfl) pa_nil))) pa_nil))))), ?_⟩
  refine ⟨_, rfl, nl, _, _, _, rfl, rfl, hS, at_of (j := 0) rfl (vints_at rfl), _, rfl, n, rfl, _, rfl, ite2 (fun c => ?_) (fun c => ?_)⟩
  · have c1 : Kh368.okMinutes n = false := by simpa using c
    refine ⟨(by show 1 ≤ sizeLine; decide), fun q hq => ?_⟩
    refine done k (s' := some a) (r := Kh368.say (-22)) ?_ hf (KeepBut.refl _ _) hq rfl
    show Kh368.doing (some a) (.first n) = _
    simp [Kh368.doing, c1]
  · have c1 : Kh368.okMinutes n = true := by simpa using c
    have lim := g.len
    refine ⟨_, rfl, (by show 1 ≤ sizeLine; decide), fun q hq => ?_⟩
    have s1 := Same.upd (o := .lst [V.int (n : Int)]) hq
    refine ⟨_, rfl, p, C, dx, _, _, rfl, s1 _ _ B.ins, T.cl, T.nR, ff_rows _ _ _ _, q, r, _, _, rfl, rfl, upd_same, s1 _ _ B.rows, (by rw [vints_len, List.length_singleton]; exact big100 (by omega)), fun v hv => ?_⟩
    have s2 := s1.trans (Same.upd (o := .lst ([V.int (n : Int)] ++ vints a.rows)) hv)
    refine ⟨_, rfl, p, C, dx, _, _, rfl, s2 _ _ B.ins, T.cl, T.nP, ff_pickers _ _ _ _, v, n :: a.rows, a.pickers, rfl, SqL.of (by rw [upd_same]; rfl), (by rw [List.length_cons]; omega), g.k1, Nat.le_trans g.k6 (by decide), fun H1 s3 => ?_⟩
    refine ⟨(by show 1 ≤ sizeLine; decide), fun t ht => ?_⟩
    refine done k (s' := some a) (r := Kh368.say (Kh368.leastBy a.pickers (n :: a.rows))) ?_ (hf.same (s2.trans s3)) (kb (s2.trans s3)) ht rfl
    show Kh368.doing (some a) (.first n) = _
    simp [Kh368.doing, c1]
/-! ### without -/
theorem sc_aWithout : FnScope ["farm", "numbers", "i"] ["farm", "numbers"] (defScope d_answer_without) := ⟨rfl, rfl, rfl, by decide +kernel, rfl, by decide +kernel, by decide +kernel⟩
theorem ok_aWithout {f : Addr} {fd : FuncData} (F : Fun K "answer_without" "answer_without" d_answer_without f fd) (L : Lib P w K mg base C) : FnOk P w K mg base CX0 4 f fd ["farm", "numbers"] (spDo K C 14) := by
  refine F.ok sc_aWithout (fun vs H Q E h => spDo_len h) (fun cdv A outer s H vs Q E hr h => ?_)
  obtain ⟨p, nl, st, ns, rfl, hf, hg, hn, hS, fit, k⟩ := h
  obtain ⟨i, rfl⟩ := one_of (show ns.length = 1 from fit)
  obtain ⟨a, rfl⟩ := some_of (by decide) hn
  have g := (hg a rfl).now
  obtain ⟨dx, r, u, ts, B⟩ := id hf
  have T := L.txt
  have nd := sc_aWithout.nd
  have hr1 : Room 1 _ := hr.mono (by decide)
  have hr2 : Room 2 _ := hr.mono (by decide)
  refine ⟨_, pss_cons (ps_set (i := 2) nd rfl (Or.inl rfl) (pe_ix ix_list (pv 1) pe_int (fun _ _ => rfl)))
    (pss_cons (ps_if (pt_not (pt_val (pe_mt (pv 0) T.cl L.mHas hr1 (pa_cons (pv 2) pa_nil)))) (pss_one (ps_ret (pe_lst (pa_cons (pe_cst T.none_such rfl) pa_nil)))) pss_nil)
    (pss_one (ps_ret (pe_lst (pa_cons (pe_dn L.little hr2 rfl (pa_cons (pe_dn L.rWithout hr1 rfl (pa_cons (pe_fld (pv 0) rfl) (pa_cons (pv 2) pa_nil))) (pa_cons (pe_fld (pv 0) rfl) pa_nil))) pa_nil))))), ?_⟩
  refine ⟨_, rfl, nl, _, _, _, rfl, rfl, hS, at_of (j := 0) rfl (vints_at rfl), _, rfl, p, dx, _, rfl, B.ins, rfl, _, rfl, p, a, i, rfl, hf, _, rfl, ite2 (fun c => ?_) (fun c => ?_)⟩
  · have c1 : a.rows.length ≤ i := by simpa using c
    refine ⟨(by show 1 ≤ sizeLine; decide), fun q hq => ?_⟩
    refine done k (s' := some a) (r := Kh368.say (-2)) ?_ hf (KeepBut.refl _ _) hq rfl
    show Kh368.doing (some a) (.without i) = _
    simp [Kh368.doing, c1]
  · have c1 : i < a.rows.length := by simpa using c
    have lim := g.len
    refine ⟨_, rfl, p, C, dx, _, _, rfl, B.ins, T.cl, T.nR, ff_rows _ _ _ _, _, rfl, r, a.rows, i, rfl, SqL.of B.rows, Nat.le_trans g.len (by decide), fun H0 x s1 hx hl => ?_⟩
    refine ⟨_, rfl, p, C, dx, _, _, rfl, s1 _ _ B.ins, T.cl, T.nP, ff_pickers _ _ _ _, x, a.rows.eraseIdx i, a.pickers, rfl, SqL.of hl, (by have := List.length_eraseIdx_le a.rows i; omega), g.k1, Nat.le_trans g.k6 (by decide), fun H1 s2 => ?_⟩
    refine ⟨(by show 1 ≤ sizeLine; decide), fun t ht => ?_⟩
    refine done k (s' := some a) (r := Kh368.say (Kh368.least (Kh368.without a i))) ?_ (hf.same (s1.trans s2)) (kb (s1.trans s2)) ht rfl
    show Kh368.doing (some a) (.without i) = _
    simp [Kh368.doing, Nat.not_le.mpr c1]
/-! ### exchange -/
theorem sc_aExchange : FnScope ["farm", "numbers", "i"] ["farm", "numbers"] (defScope d_answer_exchange) := ⟨rfl, rfl, rfl, by decide +kernel, rfl, by decide +kernel, by decide +kernel⟩
theorem ok_aExchange {f : Addr} {fd : FuncData} (F : Fun K "answer_exchange" "answer_exchange" d_answer_exchange f fd) (L : Lib P w K mg base C) : FnOk P w K mg base CX0 4 f fd ["farm", "numbers"] (spDo K C 15) := by
  refine F.ok sc_aExchange (fun vs H Q E h => spDo_len h) (fun cdv A outer s H vs Q E hr h => ?_)
  obtain ⟨p, nl, st, ns, rfl, hf, hg, hn, hS, fit, k⟩ := h
  obtain ⟨i, rfl⟩ := one_of (show ns.length = 1 from fit)
  obtain ⟨a, rfl⟩ := some_of (by decide) hn
  have g := (hg a rfl).now
  obtain ⟨dx, r, u, ts, B⟩ := id hf
  have T := L.txt
  have nd := sc_aExchange.nd
  have hr1 : Room 1 _ := hr.mono (by decide)
  have hr2 : Room 2 _ := hr.mono (by decide)
  refine ⟨_, pss_cons (ps_set (i := 2) nd rfl (Or.inl rfl) (pe_ix ix_list (pv 1) pe_int (fun _ _ => rfl)))
    (pss_cons (ps_if (pt_not (pt_val (pe_mt (pv 0) T.cl L.mHas hr1 (pa_cons (pe_op op_add (pv 2) pe_int) pa_nil)))) (pss_one (ps_ret (pe_lst (pa_cons (pe_cst T.none_such rfl) pa_nil)))) pss_nil)
    (pss_one (ps_ret (pe_lst (pa_cons (pe_dn L.little hr2 rfl (pa_cons (pe_dn L.rSwap hr1 rfl (pa_cons (pe_fld (pv 0) rfl) (pa_cons (pv 2) pa_nil))) (pa_cons (pe_fld (pv 0) rfl) pa_nil))) pa_nil))))), ?_⟩
  refine ⟨_, rfl, nl, _, _, _, rfl, rfl, hS, at_of (j := 0) rfl (vints_at rfl), _, rfl, p, dx, _, rfl, B.ins, rfl, _, rfl, _, _, rfl, rfl, p, a, i + 1, rfl, hf, _, rfl, ite2 (fun c => ?_) (fun c => ?_)⟩
  · have c1 : a.rows.length ≤ i + 1 := by simpa using c
    refine ⟨(by show 1 ≤ sizeLine; decide), fun q hq => ?_⟩
    refine done k (s' := some a) (r := Kh368.say (-2)) ?_ hf (KeepBut.refl _ _) hq rfl
    show Kh368.doing (some a) (.exchange i) = _
    simp [Kh368.doing, c1]
  · have c1 : i + 1 < a.rows.length := by simpa using c
    have lim := g.len
    refine ⟨_, rfl, p, C, dx, _, _, rfl, B.ins, T.cl, T.nR, ff_rows _ _ _ _, _, rfl, r, a.rows, i, rfl, SqL.of B.rows, Nat.le_trans g.len (by decide), c1, fun H0 x s1 hx hl => ?_⟩
    refine ⟨_, rfl, p, C, dx, _, _, rfl, s1 _ _ B.ins, T.cl, T.nP, ff_pickers _ _ _ _, x, Kh368.exchanged a i, a.pickers, rfl, SqL.of hl, (by show ((a.rows.set i _).set (i + 1) _).length ≤ 100; rw [List.length_set, List.length_set]; omega), g.k1, Nat.le_trans g.k6 (by decide), fun H1 s2 => ?_⟩
    refine ⟨(by show 1 ≤ sizeLine; decide), fun t ht => ?_⟩
    refine done k (s' := some a) (r := Kh368.say (Kh368.leastBy a.pickers (Kh368.exchanged a i))) ?_ (hf.same (s1.trans s2)) (kb (s1.trans s2)) ht rfl
    show Kh368.doing (some a) (.exchange i) = _
    simp [Kh368.doing, Nat.not_le.mpr c1]
/-! ### longer -/
theorem sc_aLonger : FnScope ["farm", "numbers", "i"] ["farm", "numbers"] (defScope d_answer_longer) := ⟨rfl, rfl, rfl, by decide +kernel, rfl, by decide +kernel, by decide +kernel⟩
theorem ok_aLonger {f : Addr} {fd : FuncData} (F : Fun K "answer_longer" "answer_longer" d_answer_longer f fd) (L : Lib P w K mg base C) : FnOk P w K mg base CX0 4 f fd ["farm", "numbers"] (spDo K C 16) := by
  refine F.ok sc_aLonger (fun vs H Q E h => spDo_len h) (fun cdv A outer s H vs Q E hr h => ?_)
  obtain ⟨p, nl, st, ns, rfl, hf, hg, hn, hS, fit, k⟩ := h
  obtain ⟨i, rfl⟩ := one_of (show ns.length = 1 from fit)
  obtain ⟨a, rfl⟩ := some_of (by decide) hn
  have g := (hg a rfl).now
  obtain ⟨dx, r, u, ts, B⟩ := id hf
  have T := L.txt
  have nd := sc_aLonger.nd
  have hr1 : Room 1 _ := hr.mono (by decide)
  refine ⟨_, pss_cons (ps_set (i := 2) nd rfl (Or.inl rfl) (pe_ix ix_list (pv 1) pe_int (fun _ _ => rfl)))
    (pss_cons (ps_if (pt_not (pt_val (pe_mt (pv 0) T.cl L.mHas hr1 (pa_cons (pv 2) pa_nil)))) (pss_one (ps_ret (pe_lst (pa_cons (pe_cst T.none_such rfl) pa_nil)))) pss_nil)
    (pss_one (ps_ret (pe_lst (pa_cons (pe_dn L.much hr rfl (pa_cons (pe_fld (pv 0) rfl) (pa_cons (pe_fld (pv 0) rfl) (pa_cons (pv 2) pa_nil)))) pa_nil))))), ?_⟩
  refine ⟨_, rfl, nl, _, _, _, rfl, rfl, hS, at_of (j := 0) rfl (vints_at rfl), _, rfl, p, dx, _, rfl, B.ins, rfl, _, rfl, p, a, i, rfl, hf, _, rfl, ite2 (fun c => ?_) (fun c => ?_)⟩
  · have c1 : a.rows.length ≤ i := by simpa using c
    refine ⟨(by show 1 ≤ sizeLine; decide), fun q hq => ?_⟩
    refine done k (s' := some a) (r := Kh368.say (-2)) ?_ hf (KeepBut.refl _ _) hq rfl
    show Kh368.doing (some a) (.longer i) = _
    simp [Kh368.doing, c1]
  · have c1 : i < a.rows.length := by simpa using c
    refine ⟨_, rfl, p, C, dx, _, _, rfl, B.ins, T.cl, T.nR, ff_rows _ _ _ _, _, rfl, p, C, dx, _, _, rfl, B.ins, T.cl, T.nP, ff_pickers _ _ _ _, _, rfl, r, a.rows, a.pickers, i, rfl, SqL.of B.rows, Nat.le_trans g.len (by decide), c1, g.k1, Nat.le_trans g.k6 (by decide), fun H1 s1 => ?_⟩
    refine ⟨(by show 1 ≤ sizeLine; decide), fun t ht => ?_⟩
    refine done k (s' := some a) (r := Kh368.say (Kh368.longer a i)) ?_ (hf.same s1) (kb s1) ht rfl
    show Kh368.doing (some a) (.longer i) = _
    simp [Kh368.doing, Nat.not_le.mpr c1]
/-! ### idle -/
theorem sc_aIdle : FnScope ["farm", "numbers"] ["farm", "numbers"] (defScope d_answer_idle) := ⟨rfl, rfl, rfl, by decide +kernel, rfl, by decide +kernel, by decide +kernel⟩
theorem ok_aIdle {f : Addr} {fd : FuncData} (F : Fun K "answer_idle" "answer_idle" d_answer_idle f fd) (L : Lib P w K mg base C) : FnOk P w K mg base CX0 4 f fd ["farm", "numbers"] (spDo K C 17) := by
  refine F.ok sc_aIdle (fun vs H Q E h => spDo_len h) (fun cdv A outer s H vs Q E hr h => ?_)
  obtain ⟨p, nl, st, ns, rfl, hf, hg, hn, hS, fit, k⟩ := h
  obtain ⟨a, rfl⟩ := some_of (by decide) hn
  have g := (hg a rfl).now
  obtain ⟨dx, r, u, ts, B⟩ := id hf
  have T := L.txt
  have hr2 : Room 2 _ := hr.mono (by decide)
  refine ⟨_, pss_one (ps_ret (pe_lst (pa_cons (pe_op op_sub (pe_op op_mul (pe_fld (pv 0) rfl) (pe_dn L.little hr2 rfl (pa_cons (pe_fld (pv 0) rfl) (pa_cons (pe_fld (pv 0) rfl) pa_nil)))) (pe_callB (cr_sum rfl) rfl T.glo.sum PyProof.Rows.boot_sum (pa_cons (pe_fld (pv 0) rfl) pa_nil))) pa_nil))), ?_⟩
  refine ⟨_, rfl, p, C, dx, _, _, rfl, B.ins, T.cl, T.nP, ff_pickers _ _ _ _, _, rfl, p, C, dx, _, _, rfl, B.ins, T.cl, T.nR, ff_rows _ _ _ _, _, rfl, p, C, dx, _, _, rfl, B.ins, T.cl, T.nP, ff_pickers _ _ _ _, r, a.rows, a.pickers, rfl, SqL.of B.rows, Nat.le_trans g.len (by decide), g.k1, Nat.le_trans g.k6 (by decide), fun H1 s1 => ?_⟩
  have k6 := g.k6
  refine ⟨_, _, rfl, rfl, .inl ⟨by omega, by omega⟩, _, rfl, p, C, dx, _, _, rfl, s1 _ _ B.ins, T.cl, T.nR, ff_rows _ _ _ _, r, a.rows.map Int.ofNat, rfl, SqL.of (s1 _ _ B.rows), _, _, rfl, rfl, (by show 1 ≤ sizeLine; decide), fun q hq => ?_⟩
  refine done k (s' := some a) (r := Kh368.say (a.pickers * Kh368.least a - a.rows.sum : Nat)) rfl (hf.same s1) (kb s1) hq ?_
  have le := sum_le_least a.rows g.k1
  rw [sum_ofNat]
  have e : (a.pickers : Int) * ((Kh368.leastBy a.pickers a.rows : Nat) : Int) - ((a.rows.sum : Nat) : Int) = ((a.pickers * Kh368.leastBy a.pickers a.rows - a.rows.sum : Nat) : Int) := by
    rw [← Int.natCast_mul, ← Int.ofNat_sub le]
  show [V.int ((a.pickers : Int) * ((Kh368.leastBy a.pickers a.rows : Nat) : Int) - ((a.rows.sum : Nat) : Int))] = _
  rw [e]
  rfl
/-! ### has -/
theorem sc_aHas : FnScope ["farm", "numbers", "picker", "own"] ["farm", "numbers"] (defScope d_answer_has) := ⟨rfl, rfl, rfl, by decide +kernel, rfl, by decide +kernel, by decide +kernel⟩
theorem ok_aHas {f : Addr} {fd : FuncData} (F : Fun K "answer_has" "answer_has" d_answer_has f fd) (L : Lib P w K mg base C) : FnOk P w K mg base CX0 4 f fd ["farm", "numbers"] (spDo K C 18) := by
  refine F.ok sc_aHas (fun vs H Q E h => spDo_len h) (fun cdv A outer s H vs Q E hr h => ?_)
  obtain ⟨p, nl, st, ns, rfl, hf, hg, hn, hS, fit, k⟩ := h
  obtain ⟨i, rfl⟩ := one_of (show ns.length = 1 from fit)
  obtain ⟨a, rfl⟩ := some_of (by decide) hn
  have g := (hg a rfl).now
  obtain ⟨dx, r, u, ts, B⟩ := id hf
  have T := L.txt
  have nd := sc_aHas.nd
  have hr1 : Room 1 _ := hr.mono (by decide)
  refine ⟨_, pss_cons (ps_set (i := 2) nd rfl (Or.inl rfl) (pe_ix ix_list (pv 1) pe_int (fun _ _ => rfl)))
    (pss_cons (ps_if (pt_not (pt_val (pe_mt (pv 0) T.cl L.mHasP hr1 (pa_cons (pv 2) pa_nil)))) (pss_one (ps_ret (pe_lst (pa_cons (pe_cst T.none_such rfl) pa_nil)))) pss_nil)
    (pss_cons (ps_set (i := 3) nd rfl (Or.inl rfl) (pe_dn L.rOf hr1 rfl (pa_cons (pe_fld (pv 0) rfl) (pa_cons (pe_dn L.planned hr rfl (pa_cons (pe_fld (pv 0) rfl) (pa_cons (pe_fld (pv 0) rfl) pa_nil))) (pa_cons (pv 2) pa_nil)))))
    (pss_one (ps_ret (pe_op op_cat (pe_lst (pa_cons (pe_callB (cr_sum rfl) rfl T.glo.sum PyProof.Rows.boot_sum (pa_cons (pv 3) pa_nil)) pa_nil)) (pv 3)))))), ?_⟩
  refine ⟨_, rfl, nl, _, _, _, rfl, rfl, hS, at_of (j := 0) rfl (vints_at rfl), _, rfl, p, dx, _, rfl, B.ins, rfl, _, rfl, p, a, i, rfl, hf, _, rfl, ite2 (fun c => ?_) (fun c => ?_)⟩
  · have c1 : a.pickers ≤ i := by simpa using c
    refine ⟨(by show 1 ≤ sizeLine; decide), fun q hq => ?_⟩
    refine done k (s' := some a) (r := Kh368.say (-2)) ?_ hf (KeepBut.refl _ _) hq rfl
    show Kh368.doing (some a) (.has i) = _
    simp [Kh368.doing, c1]
  · have c1 : i < a.pickers := by simpa using c
    have pl : (planOf a.pickers a.rows).length = a.pickers := plan_len (a := a) g.k1
    refine ⟨_, rfl, p, C, dx, _, _, rfl, B.ins, T.cl, T.nR, ff_rows _ _ _ _, _, rfl, p, C, dx, _, _, rfl, B.ins, T.cl, T.nR, ff_rows _ _ _ _, _, rfl, p, C, dx, _, _, rfl, B.ins, T.cl, T.nP, ff_pickers _ _ _ _, r, a.rows, a.pickers, rfl, SqL.of B.rows, Nat.le_trans g.len (by decide), g.k1, Nat.le_trans g.k6 (by decide), fun H1 v s1 hv hl => ?_⟩
    refine ⟨_, rfl, r, v, a.rows, planOf a.pickers a.rows, i, rfl, SqL.of (s1 _ _ B.rows), SqL.of hl, by omega, fun H2 x s2 hx hl2 => ?_⟩
    have cg : (Kh368.cut a.rows (Kh368.plan a)).getD i [] = (a.rows.drop ((planOf a.pickers a.rows).take i).sum).take ((planOf a.pickers a.rows).getD i 0) := cut_get a.rows (planOf a.pickers a.rows) i (by omega)
    rw [← cg] at hl2
    have few : ((Kh368.cut a.rows (Kh368.plan a)).getD i []).length ≤ 14 := by
      rw [cg, List.length_take, List.length_drop]
      have := g.len
      omega
    refine ⟨_, rfl, x, ((Kh368.cut a.rows (Kh368.plan a)).getD i []).map Int.ofNat, rfl, SqL.of hl2, (by show 1 ≤ sizeLine; decide), fun t ht => ?_⟩
    have s3 := s1.trans s2
    have s4 := Same.upd (o := .lst [V.int (((Kh368.cut a.rows (Kh368.plan a)).getD i []).map Int.ofNat).sum]) ht
    refine ⟨_, rfl, t, x, _, _, rfl, rfl, upd_same, s4 _ _ hl2, (by rw [vints_len, List.length_singleton]; exact big100 (by omega)), fun y hy => ?_⟩
    refine done k (s' := some a) (r := ⟨((Kh368.cut a.rows (Kh368.plan a)).getD i []).sum, (Kh368.cut a.rows (Kh368.plan a)).getD i []⟩) ?_ (hf.same (s3.trans s4)) (kb (s3.trans s4)) hy ?_
    · show Kh368.doing (some a) (.has i) = _
      simp [Kh368.doing, Nat.not_le.mpr c1]
    · rw [sum_ofNat]
      rfl
/-! ### sums -/
theorem sc_aSums : FnScope ["farm", "numbers"] ["farm", "numbers"] (defScope d_answer_sums) := ⟨rfl, rfl, rfl, by decide +kernel, rfl, by decide +kernel, by decide +kernel⟩
theorem ok_aSums {f : Addr} {fd : FuncData} (F : Fun K "answer_sums" "answer_sums" d_answer_sums f fd) (L : Lib P w K mg base C) : FnOk P w K mg base CX0 4 f fd ["farm", "numbers"] (spDo K C 19) := by
  refine F.ok sc_aSums (fun vs H Q E h => spDo_len h) (fun cdv A outer s H vs Q E hr h => ?_)
  obtain ⟨p, nl, st, ns, rfl, hf, hg, hn, hS, fit, k⟩ := h
  obtain ⟨a, rfl⟩ := some_of (by decide) hn
  obtain ⟨dx, r, u, ts, B⟩ := id hf
  have T := L.txt
  have hr1 : Room 1 _ := hr.mono (by decide)
  refine ⟨_, pss_one (ps_ret (pe_lst (pa_cons (pe_callB (cr_sum rfl) rfl T.glo.sum PyProof.Rows.boot_sum (pa_cons (pe_fld (pv 0) rfl) pa_nil)) (pa_cons (pe_dn L.longest hr1 rfl (pa_cons (pe_fld (pv 0) rfl) pa_nil)) pa_nil)))), ?_⟩
  refine ⟨_, rfl, p, C, dx, _, _, rfl, B.ins, T.cl, T.nR, ff_rows _ _ _ _, r, a.rows.map Int.ofNat, rfl, SqL.of B.rows, _, rfl, p, C, dx, _, _, rfl, B.ins, T.cl, T.nR, ff_rows _ _ _ _, r, a.rows, rfl, SqL.of B.rows, (by show 2 ≤ sizeLine; decide), fun q hq => ?_⟩
  refine done k (s' := some a) (r := ⟨a.rows.sum, [Kh368.greatest a.rows]⟩) rfl hf (KeepBut.refl _ _) hq ?_
  rw [sum_ofNat]
  rfl
/-! ### state -/
theorem sc_aState : FnScope ["farm", "numbers"] ["farm", "numbers"] (defScope d_answer_state) := ⟨rfl, rfl, rfl, by decide +kernel, rfl, by decide +kernel, by decide +kernel⟩
theorem ok_aState {f : Addr} {fd : FuncData} (F : Fun K "answer_state" "answer_state" d_answer_state f fd) (L : Lib P w K mg base C) : FnOk P w K mg base CX0 4 f fd ["farm", "numbers"] (spDo K C 20) := by
  refine F.ok sc_aState (fun vs H Q E h => spDo_len h) (fun cdv A outer s H vs Q E hr h => ?_)
  obtain ⟨p, nl, st, ns, rfl, hf, hg, hn, hS, fit, k⟩ := h
  obtain ⟨a, rfl⟩ := some_of (by decide) hn
  obtain ⟨dx, r, u, ts, B⟩ := id hf
  have T := L.txt
  refine ⟨_, pss_one (ps_ret (pe_lst (pa_cons (pe_fld (pv 0) rfl) (pa_cons (pe_callB call_len_seq rfl T.glo.len PySem.boot_len (pa_cons (pe_fld (pv 0) rfl) pa_nil)) (pa_cons (pe_callB call_len_seq rfl T.glo.len PySem.boot_len (pa_cons (pe_fld (pv 0) rfl) pa_nil)) pa_nil))))), ?_⟩
  have len : (ts.reverse.map V.ref).length = a.undo.length := by rw [List.length_map, List.length_reverse, B.undo.len]
  refine ⟨_, rfl, p, C, dx, _, _, rfl, B.ins, T.cl, T.nP, ff_pickers _ _ _ _, _, rfl, p, C, dx, _, _, rfl, B.ins, T.cl, T.nR, ff_rows _ _ _ _, r, _, rfl, .inl (SqL.of B.rows), _, rfl, p, C, dx, _, _, rfl, B.ins, T.cl, T.nU, ff_past _ _ _ _, u, _, rfl, .inl (SqL.of B.past), (by show 3 ≤ sizeLine; decide), fun q hq => ?_⟩
  refine done k (s' := some a) (r := ⟨a.pickers, [a.rows.length, a.undo.length]⟩) rfl hf (KeepBut.refl _ _) hq ?_
  rw [len, vints_len]
  rfl
end
end Rs
end
section
/-! answer, answers: the dispatch and the loop over the calls. -/
set_option Elab.async false
set_option linter.all false
set_option maxRecDepth 100000
set_option maxHeartbeats 2000000
namespace Rs
open PySem PySem.Spec PyProof.Rows L2
/-! ### calls as pairs: the number, the numbers -/
abbrev Cl := Nat × List Nat
def flat1 (x : Cl) : List Nat := if x.1 = 9 then 9 :: x.2.length :: x.2 else x.1 :: x.2
def flatAll (cs : List Cl) : List Nat := cs.flatMap flat1
def next (s : Option Kh368.Abs) (x : Cl) : Option Kh368.Abs := (Kh368.doing s (callOf x.1 x.2)).1
def after (s : Option Kh368.Abs) (cs : List Cl) : Option Kh368.Abs := cs.foldl next s
def said (s : Option Kh368.Abs) (x : Cl) : List V := V.int ((outV (Kh368.doing s (callOf x.1 x.2)).2).length : Nat) :: outV (Kh368.doing s (callOf x.1 x.2)).2
def saidAll : Option Kh368.Abs → List Cl → List V
  | _, [] => []
  | s, x :: r => said s x ++ saidAll (next s x) r
theorem flat_snoc (cs : List Cl) (x : Cl) : flatAll (cs ++ [x]) = flatAll cs ++ flat1 x := by
  unfold flatAll
  rw [List.flatMap_append]
  simp
theorem after_snoc (s : Option Kh368.Abs) (cs : List Cl) (x : Cl) : after s (cs ++ [x]) = next (after s cs) x := by
  unfold after
  rw [List.foldl_append]
  rfl
theorem said_app : ∀ (cs ds : List Cl) (s : Option Kh368.Abs), saidAll s (cs ++ ds) = saidAll s cs ++ saidAll (after s cs) ds
  | [], ds, s => rfl
  | x :: r, ds, s => by
    show said s x ++ saidAll (next s x) (r ++ ds) = (said s x ++ saidAll (next s x) r) ++ _
    rw [said_app r ds, List.append_assoc]
    rfl
theorem said_snoc (cs : List Cl) (x : Cl) (s : Option Kh368.Abs) : saidAll s (cs ++ [x]) = saidAll s cs ++ said (after s cs) x := by
  rw [said_app]
  show _ ++ (said (after s cs) x ++ []) = _
  rw [List.append_nil]
theorem good_after (cs : List Cl) : ∀ (s : Option Kh368.Abs), (∀ a, s = some a → Good a) → ∀ a, after s cs = some a → Good a := by
  induction cs with
  | nil => intro s h; exact h
  | cons x r ih => intro s h; exact ih _ (good_doing _ h)
def OkCl (x : Cl) : Prop := x.1 ≤ 20 ∧ Fit x.1 x.2
theorem not_begin {c : Nat} (hc : c ≠ 0) (ns : List Nat) : Kh368.doing none (callOf c ns) = (none, Kh368.say (-61)) := by
  match c, hc with
  | 1, _ => rfl
  | 2, _ => rfl
  | 3, _ => rfl
  | 4, _ => rfl
  | 5, _ => rfl
  | 6, _ => rfl
  | 7, _ => rfl
  | 8, _ => rfl
  | 9, _ => rfl
  | 10, _ => rfl
  | 11, _ => rfl
  | 12, _ => rfl
  | 13, _ => rfl
  | 14, _ => rfl
  | 15, _ => rfl
  | 16, _ => rfl
  | 17, _ => rfl
  | 18, _ => rfl
  | 19, _ => rfl
  | n + 20, _ => rfl
section
variable {P : Program} {w : World} {K : PySem.W.Frag} {mg : Str → Option Value} {base : Heap} {C : Addr}
/-! ### answer -/
structure Tab (P : Program) (w : World) (K : PySem.W.Frag) (mg : Str → Option Value) (base : Heap) (C : Addr) (n k : Nat) : Prop where
  at_ : ∃ (t : Addr) (fs : List Addr), mg "ANSWERERS" = some (.ref t) ∧ (∀ H : Hp, SqT K H t (fs.map V.ref)) ∧
    ∀ c, c < n → ∃ (f : Addr) (fd : FuncData) (ps : List Str), fs[c]? = some f ∧ FnOk P w K mg base CX0 k f fd ps (spDo K C c) ∧ PySem.W.keepIn K (.ref f) = true ∧ Binds K fd ps []
def spAnswer (K : PySem.W.Frag) (C : Addr) (n : Nat) : Sp := fun vs H Q _ => ∃ (p nl : Addr) (c : Nat) (s : Option Kh368.Abs) (ns : List Nat), vs = [.ref p, .int (c : Int), .ref nl] ∧ c < n ∧ FarmAt C H p s ∧ (∀ a, s = some a → Good a) ∧ SqL K H nl (vints ns) ∧ Fit c ns ∧
  ∀ (H' : Hp) (q : Addr), H' q = some (.lst (outV (Kh368.doing s (callOf c ns)).2)) → FarmAt C H' p (Kh368.doing s (callOf c ns)).1 → KeepBut p H H' → Q (.ref q) H'
theorem sc_answer : FnScope ["farm", "call", "numbers"] ["farm", "call", "numbers"] (defScope d_answer) := ⟨rfl, rfl, rfl, by decide +kernel, rfl, by decide +kernel, by decide +kernel⟩
theorem ok_answer {f : Addr} {fd : FuncData} {n k : Nat} (F : Fun K "answer" "answer" d_answer f fd) (T : Txt K mg C) (TB : Tab P w K mg base C n k) : FnOk P w K mg base CX0 (k + 1) f fd ["farm", "call", "numbers"] (spAnswer K C n) := by
  refine F.ok sc_answer (fun vs H Q E h => ?_) (fun cdv A outer s H vs Q E hr h => ?_)
  · obtain ⟨p, nl, c, s, ns, rfl, _⟩ := h
    rfl
  · obtain ⟨p, nl, c, st, ns, rfl, hc, hf, hg, hS, fit, kk⟩ := h
    obtain ⟨t, fs, ht, hT, all⟩ := TB.at_
    refine ⟨_, pss_cons (ps_if (PW.pt (pw_and (pt_cmpR op_ne (pv 1) (pe_cst T.begin_ rfl) (nomark _)) (pw_and1 (pt_not (pt_val (pe_fld (pv 0) rfl)))))) (pss_one (ps_ret (pe_lst (pa_cons (pe_cst T.not_begun rfl) pa_nil)))) pss_nil)
      (pss_one (ps_ret (pe_callV (pe_ix ix_tup (pe_glob (v := .ref t) rfl ht rfl) (pv 1) (fun _ _ => rfl)) (pa_cons (pv 0) (pa_cons (pv 2) pa_nil)) pass0))), ?_⟩
    obtain ⟨dx, k0, r0, u0, hp⟩ := hf.ins
    obtain ⟨fc, fdc, psc, hfc, okc, kpc, bc⟩ := all c hc
    have hget : atI (fs.map V.ref) (c : Int) = some (.ref fc) := at_of (j := c) rfl (by rw [List.getElem?_map, hfc]; rfl)
    refine ⟨_, rfl, rfl, _, rfl, ite2 (fun c1 => ?_) (fun c1 => ?_)⟩
    · have c2 : c ≠ 0 := by
        intro e
        subst e
        simp at c1
      refine ⟨_, rfl, p, C, dx, _, _, rfl, hp, T.cl, T.nB, ff_begun _ _ _ _, _, rfl, ite2 (fun c3 => ?_) (fun c3 => ?_)⟩
      · have e : st = none := by
          cases st with
          | none => rfl
          | some a => simp at c3
        subst e
        refine ⟨(by show 1 ≤ sizeLine; decide), fun q hq => ?_⟩
        exact done kk (s' := none) (r := Kh368.say (-61)) (not_begin c2 ns) hf (KeepBut.refl _ _) hq rfl
      · have e : st ≠ none := by
          intro e
          subst e
          simp at c3
        refine ⟨_, rfl, t, _, _, _, rfl, rfl, hT _, hget, fc, rfl, kpc, _, rfl, _, rfl, k, fdc, psc, _, okc, hr, bc, p, nl, st, ns, rfl, hf, hg, .inr e, hS, fit, kk⟩
    · have c2 : c = 0 := by
        have : ¬ ¬ c = 0 := fun e => c1 (by
          have : decide (V.int (c : Int) = V.int 0) = false := decide_eq_false (fun z => e (by have := V.int.inj z; omega))
          rw [this]
          rfl)
        omega
      show (if false = true then _ else _)
      refine iteF ?_
      refine ⟨_, rfl, t, _, _, _, rfl, rfl, hT _, hget, fc, rfl, kpc, _, rfl, _, rfl, k, fdc, psc, _, okc, hr, bc, p, nl, st, ns, rfl, hf, hg, .inl c2, hS, fit, kk⟩

/-! ### answers -/
structure Rows (K : PySem.W.Frag) (mg : Str → Option Value) : Prop where
  told : Cst mg "TOLD" 9
  counts : ∃ t, mg "COUNTS" = some (.ref t) ∧ ∀ H : Hp, SqT K H t (vints counts)
theorem upd_twice {H : Hp} {g : Addr} {o u : HO} : upd (upd H g o) g u = upd H g u := by
  funext b
  by_cases h : b = g
  · subst h
    rw [upd_same, upd_same]
  · rw [upd_ne h, upd_ne h, upd_ne h]
/-- nothing of the farm stands at g -/
theorem past_off {H : Hp} {g : Addr} {ts : List Addr} {us : List (Nat × List Nat)} {o o' : HO} (hl : ∀ xs, o ≠ .lst xs) (ht : ∀ xs, o ≠ .tup xs) (p : Past (upd H g o) ts us) : Past (upd H g o') ts us := by
  induction p with
  | nil => exact .nil
  | @cons t r k l ts us h1 h2 _ ih =>
    have n1 : t ≠ g := fun e => by rw [e, upd_same] at h1; exact ht _ (Option.some.inj h1)
    have n2 : r ≠ g := fun e => by rw [e, upd_same] at h2; exact hl _ (Option.some.inj h2)
    refine .cons (by rw [upd_ne n1] at h1 ⊢; exact h1) (by rw [upd_ne n2] at h2 ⊢; exact h2) ih
theorem farm_any {H : Hp} {g p : Addr} {s : Option Kh368.Abs} {o : HO} (hl : ∀ xs, o ≠ .lst xs) (ht : ∀ xs, o ≠ .tup xs) (hi : ∀ C dx fs, o ≠ .ins C dx fs) (f : FarmAt C (upd H g o) p s) (o' : HO) : FarmAt C (upd H g o') p s := by
  cases s with
  | none =>
    obtain ⟨dx, k, r, u, h⟩ := f
    have n : p ≠ g := fun e => by rw [e, upd_same] at h; exact hi _ _ _ (Option.some.inj h)
    exact ⟨dx, k, r, u, by rw [upd_ne n] at h ⊢; exact h⟩
  | some a =>
    obtain ⟨dx, r, u, ts, B⟩ := f
    have n : p ≠ g := fun e => by have h := B.ins; rw [e, upd_same] at h; exact hi _ _ _ (Option.some.inj h)
    have n1 : r ≠ g := fun e => by have h := B.rows; rw [e, upd_same] at h; exact hl _ (Option.some.inj h)
    have n2 : u ≠ g := fun e => by have h := B.past; rw [e, upd_same] at h; exact hl _ (Option.some.inj h)
    refine ⟨dx, r, u, ts, ?_, ?_, ?_, past_off hl ht B.undo⟩
    · have h := B.ins
      rw [upd_ne n] at h ⊢
      exact h
    · have h := B.rows
      rw [upd_ne n1] at h ⊢
      exact h
    · have h := B.past
      rw [upd_ne n2] at h ⊢
      exact h
theorem farm_off {H : Hp} {g p : Addr} {s : Option Kh368.Abs} (f : FarmAt C (upd H g (.own g)) p s) (o' : HO) : FarmAt C (upd H g o') p s :=
  farm_any (o := .own g) (by intro xs z; cases z) (by intro xs z; cases z) (by intro C dx fs z; cases z) f o'
theorem farm_ne {H : Hp} {g p : Addr} {s : Option Kh368.Abs} (f : FarmAt C (upd H g (.own g)) p s) : g ≠ p := fun e => by
  obtain ⟨dx, k, r, u, h⟩ := f.ins
  rw [e, upd_same] at h
  cases h
theorem upd_self {H : Hp} {g : Addr} {o : HO} (h : H g = some o) : upd H g o = H := by
  funext b
  by_cases e : b = g
  · subst e
    rw [upd_same, h]
  · rw [upd_ne e]
theorem farm_on {H : Hp} {g p : Addr} {s : Option Kh368.Abs} {od : Obj} {u : HO} (f : FarmAt C H p s) (h : H g = some (.frz od u)) : FarmAt C (upd H g (.own g)) p s := by
  have f' : FarmAt C (upd H g (.frz od u)) p s := by rw [upd_self h]; exact f
  exact farm_any (o := .frz od u) (by intro xs z; cases z) (by intro xs z; cases z) (by intro C dx fs z; cases z) f' _
theorem same_off {H H1 : Hp} {g : Addr} {o : HO} (s : Same H H1) (h : H g = none) : Same H (upd H1 g o) := fun b u e => by
  rw [upd_ne (ne_of_none e h)]
  exact s b u e
theorem fit_counts {c : Nat} (h : c ≤ 20) : ∃ m, counts[c]? = some m ∧ counts.getD c 0 = m := by
  have hc : c < counts.length := Nat.lt_succ_of_le h
  refine ⟨counts[c], List.getElem?_eq_getElem hc, ?_⟩
  rw [List.getD_eq_getElem?_getD, List.getElem?_eq_getElem hc]
  rfl
def spAll (K : PySem.W.Frag) : Sp := fun vs H Q _ => ∃ (a : Addr) (cs : List Cl), vs = [.ref a] ∧ SqL K H a (vints (flatAll cs)) ∧ (∀ x ∈ cs, OkCl x) ∧ (saidAll none cs).length ≤ 10000000 ∧
  ∀ (H' : Hp) (g : Addr), H' g = some (.lst (saidAll none cs)) → Q (.ref g) H'
theorem sc_answers : FnScope ["calls", "farm", "given", "at", "call", "start", "count", "numbers"] ["calls"] (defScope d_answers) := ⟨rfl, rfl, rfl, by decide +kernel, rfl, by decide +kernel, by decide +kernel⟩
theorem ok_answers {f fI : Addr} {fd fdI : FuncData} {k : Nat} (F : Fun K "answers" "answers" d_answers f fd) (T : Txt K mg C) (R : Rows K mg) (M : Mk K C fI) (GI : FnOk P w K mg base CX0 1 fI fdI ["self"] (spInit C)) (bI : Binds K fdI ["self"] [])
    (DA : Dn P w K mg base k "answer" ["farm", "call", "numbers"] (spAnswer K C 21)) (hk : 2 ≤ k) : FnOk P w K mg base CX0 (k + 1) f fd ["calls"] (spAll K) := by
  refine F.ok sc_answers (fun vs H Q E h => ?_) (fun cdv A outer s H vs Q E hr h => ?_)
  · obtain ⟨a, cs, rfl, _⟩ := h
    rfl
  · obtain ⟨a, cs, rfl, hS, hok, hshort, kk⟩ := h
    obtain ⟨tc, htc, hTC⟩ := R.counts
    have nd := sc_answers.nd
    have hr2 : Room 2 _ := hr.mono hk
    refine ⟨_, pss_cons (ps_set (i := 1) nd rfl (Or.inl rfl) (pe_make0 M GI hr2 rfl T.mgC bI .nil pass0))
      (pss_cons (ps_set (i := 2) nd rfl (Or.inl rfl) (pe_lst pa_nil))
      (pss_cons (ps_set (i := 3) nd rfl (Or.inl rfl) pe_int)
      (pss_cons (ps_while PassesOwn.never (pt_cmpR op_lt (pv 3) (pe_callB call_len_seq rfl T.glo.len PySem.boot_len (pa_cons (pv 0) pa_nil)) (nomark _))
        (pss_cons (ps_set (i := 4) nd rfl (Or.inl rfl) (pe_ix ix_list (pv 0) (pv 3) (fun _ _ => rfl)))
        (pss_cons (ps_set (i := 5) nd rfl (Or.inl rfl) (pe_op op_add (pv 3) pe_int))
        (pss_cons (ps_set (i := 6) nd rfl (Or.inl rfl) (pe_ix ix_tup (pe_glob (v := .ref tc) rfl htc rfl) (pv 4) (fun _ _ => rfl)))
        (pss_cons (ps_if (pt_cmpR op_eq (pv 4) (pe_cst R.told rfl) (nomark _)) (pss_cons (ps_set (i := 6) nd rfl (Or.inl rfl) (pe_ix ix_list (pv 0) (pv 5) (fun _ _ => rfl))) (pss_one (ps_aug (i := 5) nd rfl (Or.inl rfl) pe_int ip_add))) pss_nil)
        (pss_cons (ps_set (i := 3) nd rfl (Or.inl rfl) (pe_op op_add (pv 5) (pv 6)))
        (pss_cons (ps_set (i := 7) nd rfl (Or.inl rfl) (pe_lock (pe_dn DA hr rfl (pa_cons (pv 1) (pa_cons (pv 4) (pa_cons (pe_slice sl_list (pv 0) (po_some (pv 5)) (po_some (pv 3))) pa_nil))))))
        (pss_cons (ps_expr (pe_bm PySem.F.plainAttrs_list PySem.F.slot_list_append PySem.F.type_list_append mt_append (pv 2) (pa_cons (pe_callB call_len_seq rfl T.glo.len PySem.boot_len (pa_cons (pv 7) pa_nil)) pa_nil)))
        (pss_one (ps_expr (pe_bm PySem.F.plainAttrs_list PySem.F.slot_list_extend PySem.F.type_list_extend mt_extend (pv 2) (pa_cons (pv 7) pa_nil))))))))))))
      (pss_one (ps_ret (pv 2)))))), ?_⟩
    intro p dx np nd' ne
    refine ⟨p, dx, rfl, upd_same, fun H0 hf0 kb0 => ⟨rfl, ?_⟩⟩
    have s0 : Same H H0 := fun b o e => kb0 b o (by rw [upd_ne (ne_of_none e np), upd_ne (ne_of_none e nd')]; exact e) (ne_of_none e np)
    refine ⟨Nat.zero_le _, fun g hg => ?_⟩
    have hp0 : H p = none := np
    have hg0 : H g = none := s0.free hg
    show tWhile _ _ _ _ _
    refine ⟨fun m σ H' => ∃ (dn rest : List Cl) (v4 v5 v6 v7 : Option V), cs = dn ++ rest ∧ σ = [some (.ref a), some (.ref p), some (.ref g), some (.int ((flatAll dn).length : Nat)), v4, v5, v6, v7] ∧ Same H H' ∧ H' g = some (.lst (saidAll none dn)) ∧ FarmAt C (upd H' g (.own g)) p (after none dn) ∧ m = rest.length,
      ⟨cs.length, [], cs, none, none, none, none, rfl, rfl, same_off s0 hg0, upd_same, ?_, rfl⟩, ?_⟩
    · rw [upd_twice]
      have hgp : p ≠ g := fun e => by
        obtain ⟨_, _, _, _, h⟩ := hf0.ins
        rw [e, hg] at h
        cases h
      obtain ⟨dx', k', r', u', h⟩ := hf0
      exact ⟨dx', k', r', u', by rw [upd_ne hgp]; exact h⟩
    · rintro m σ H1 ⟨dn, rest0, v4, v5, v6, v7, hcs, rfl, s1, hg1, hf1, rfl⟩
      refine ⟨_, rfl, _, rfl, a, _, rfl, .inl (s1.seq hS), _, _, rfl, rfl, _, rfl, ite2 (fun c0 => ?_) (fun c0 => ?_)⟩
      · rw [vints_len] at c0
        have c1 : (flatAll dn).length < (flatAll cs).length := Int.ofNat_lt.mp (of_decide_eq_true c0)
        cases rest0 with
        | nil =>
          rw [hcs, List.append_nil] at c1
          exact absurd c1 (Nat.lt_irrefl _)
        | cons x rest =>
          obtain ⟨c, ms⟩ := x
          have okc : OkCl (c, ms) := hok _ (by rw [hcs]; simp)
          have hl : flatAll cs = flatAll dn ++ (flat1 (c, ms) ++ flatAll rest) := by
            rw [hcs]
            unfold flatAll
            rw [List.flatMap_append, List.flatMap_cons]
          generalize hL : flatAll cs = l at hS hl
          obtain ⟨tl, htl⟩ : ∃ tl, flat1 (c, ms) = c :: tl := by
            unfold flat1
            by_cases e : c = 9
            · rw [if_pos e]
              exact ⟨_, by rw [e]⟩
            · rw [if_neg e]
              exact ⟨_, rfl⟩
          have h0 : l[(flatAll dn).length]? = some c := by
            rw [hl, List.getElem?_append_right (Nat.le_refl _), Nat.sub_self, htl]
            rfl
          obtain ⟨cc, hcc, hcd⟩ := fit_counts okc.1
          refine ⟨fun σ H' => ∃ (dn rest' : List Cl) (v4 v5 v6 v7 : Option V), cs = dn ++ rest' ∧ σ = [some (.ref a), some (.ref p), some (.ref g), some (.int ((flatAll dn).length : Nat)), v4, v5, v6, v7] ∧ Same H H' ∧ H' g = some (.lst (saidAll none dn)) ∧ FarmAt C (upd H' g (.own g)) p (after none dn) ∧ rest' = rest, fun σ' H' hN => ?_, ?_⟩
          · obtain ⟨dn', rest', w4, w5, w6, w7, e1, e2, e3, e4, e5, rfl⟩ := hN
            exact ⟨rest'.length, by rw [List.length_cons]; exact Nat.lt_succ_self _, dn', rest', w4, w5, w6, w7, e1, e2, e3, e4, e5, rfl⟩
          refine ⟨_, rfl, _, rfl, a, _, _, _, rfl, rfl, s1.seq hS, at_of (j := (flatAll dn).length) rfl (vints_at h0), ?_⟩
          refine ⟨_, rfl, _, _, rfl, rfl, ?_⟩
          refine ⟨_, rfl, tc, _, _, _, rfl, rfl, hTC _, at_of (j := c) rfl (vints_at hcc), ?_⟩
          refine ⟨_, rfl, rfl, _, rfl, ite2 (fun c9 => ?_) (fun c9 => ?_)⟩
          · have e9 : c = 9 := by
              have := V.int.inj (of_decide_eq_true c9)
              omega
            have hfl : flat1 (c, ms) = 9 :: ms.length :: ms := by
              unfold flat1
              rw [if_pos e9]
            have h1 : l[(flatAll dn).length + 1]? = some ms.length := by
              rw [hl, List.getElem?_append_right (by omega), hfl]
              have : (flatAll dn).length + 1 - (flatAll dn).length = 1 := by omega
              rw [this]
              rfl
            have hcut : (l.drop ((flatAll dn).length + 2)).take ms.length = ms := by
              have : l = (flatAll dn ++ [9, ms.length]) ++ (ms ++ flatAll rest) := by
                rw [hl, hfl]
                simp
              rw [this, List.drop_append_of_le_length (by simp), List.drop_of_length_le (by simp)]
              simp
            have hlen : (flatAll dn).length + 2 + ms.length = (flatAll dn).length + (flat1 (c, ms)).length := by
              rw [hfl]
              simp only [List.length_cons]
              omega
            have eST : (((flatAll dn).length : Nat) : Int) + 1 = (((flatAll dn).length + 1 : Nat) : Int) := by omega
            refine ⟨_, rfl, _, rfl, a, _, _, _, rfl, rfl, s1.seq hS, at_of (j := (flatAll dn).length + 1) rfl (vints_at h1), _, rfl, _, _, rfl, rfl, ?_⟩
            refine ⟨_, rfl, _, rfl, _, _, rfl, rfl, ?_⟩
            refine ⟨g, _, hg1, trivial, fun od => ?_⟩
            have hf2 : FarmAt C (upd H1 g (.frz od (.lst (saidAll none dn)))) p (after none dn) := farm_off hf1 _
            have q1 : Same H (upd H1 g (.frz od (.lst (saidAll none dn)))) := same_off s1 hg0
            refine ⟨_, rfl, _, rfl, _, rfl, _, rfl, _, rfl, _, rfl, _, rfl, a, _, rfl, q1.seq hS, fun nl hnl => ?_⟩
            have ecut : cutV (vints l) (some (((flatAll dn).length + 2 : Nat) : Int)) (some ((((flatAll dn).length + 2 : Nat) : Int) + (ms.length : Int))) = vints ms := by rw [cut_vints, hcut]
            have s2 := Same.upd (o := .lst (cutV (vints l) (some (((flatAll dn).length + 2 : Nat) : Int)) (some ((((flatAll dn).length + 2 : Nat) : Int) + (ms.length : Int))))) hnl
            refine ⟨p, nl, c, after none dn, ms, rfl, Nat.lt_succ_of_le okc.1, hf2.same s2, good_after dn none (fun _ z => nomatch z), SqL.of (by rw [← ecut]; exact upd_same), okc.2, fun H2 q hq hf3 kb2 => ?_⟩
            have hgp : g ≠ p := farm_ne hf1
            have hg2 : H2 g = some (.frz od (.lst (saidAll none dn))) := kb2 g _ (s2 _ _ upd_same) hgp
            have hqg : q ≠ g := ne_of hq hg2 (by intro z; cases z)
            refine ⟨hg2, ?_⟩
            have s3 : Same H (upd H2 g (.lst (saidAll none dn))) := fun b o e => by
              have e1 := s2 b o (q1 b o e)
              have nb : b ≠ p := ne_of_none e hp0
              have ng : b ≠ g := ne_of_none e hg0
              rw [upd_ne ng]
              exact kb2 b o e1 nb
            have tot : saidAll none cs = (saidAll none dn ++ said (after none dn) (c, ms)) ++ saidAll (after none (dn ++ [(c, ms)])) rest := by
              rw [hcs, show dn ++ (c, ms) :: rest = (dn ++ [(c, ms)]) ++ rest by simp, said_app, said_snoc]
            have len1 : (saidAll none dn).length + ((outV (Kh368.doing (after none dn) (callOf c ms)).2).length + 1) ≤ 10000000 := by
              have h1 := hshort
              rw [tot, List.length_append, List.length_append] at h1
              have h2 : (said (after none dn) (c, ms)).length = (outV (Kh368.doing (after none dn) (callOf c ms)).2).length + 1 := rfl
              omega
            have big : (10000000 : Nat) < sizeLine := by decide
            refine ⟨_, rfl, .inl ⟨rfl, _, SqL.of upd_same⟩, _, rfl, q, _, rfl, .inl (SqL.of (by rw [upd_ne hqg]; exact hq)), g, _, _, rfl, rfl, upd_same, (by omega), ?_⟩
            refine ⟨_, rfl, .inl ⟨rfl, _, SqL.of upd_same⟩, _, rfl, g, q, _, _, rfl, rfl, upd_same, (by rw [upd_ne hqg, upd_ne hqg]; exact hq), (by rw [List.length_append, List.length_singleton]; omega), ?_⟩
            refine ⟨dn ++ [(c, ms)], rest, some (.int (c : Int)), some (.int (((flatAll dn).length + 2 : Nat) : Int)), some (.int (ms.length : Int)), some (.ref q), by rw [hcs]; simp, ?_, ?_, ?_, ?_, rfl⟩
            · rw [flat_snoc, List.length_append, ← hlen]
              rfl
            · exact fun b o e => by
                have ng : b ≠ g := ne_of_none e hg0
                have := s3 b o e
                rw [upd_ne ng] at this
                rw [upd_ne ng, upd_ne ng, upd_ne ng]
                exact this
            · rw [upd_same, said_snoc, List.append_assoc]
              rfl
            · rw [after_snoc]
              have e1 : upd (upd (upd (upd H2 g (.lst (saidAll none dn))) g (.lst (saidAll none dn ++ [V.int ((outV (Kh368.doing (after none dn) (callOf c ms)).2).length : Nat)]))) g (.lst ((saidAll none dn ++ [V.int ((outV (Kh368.doing (after none dn) (callOf c ms)).2).length : Nat)]) ++ outV (Kh368.doing (after none dn) (callOf c ms)).2))) g (.own g) = upd H2 g (.own g) := by
                rw [upd_twice, upd_twice, upd_twice]
              rw [e1]
              exact farm_on hf3 hg2
          · have e9 : ¬ c = 9 := by
              intro e
              exact c9 (decide_eq_true (by rw [e]; rfl))
            have hfl : flat1 (c, ms) = c :: ms := by
              unfold flat1
              rw [if_neg e9]
            have hms : ms.length = cc := by
              have := okc.2
              unfold Fit at this
              rw [if_neg e9, hcd] at this
              exact this
            have hcut : (l.drop ((flatAll dn).length + 1)).take cc = ms := by
              have : l = (flatAll dn ++ [c]) ++ (ms ++ flatAll rest) := by
                rw [hl, hfl]
                simp
              rw [this, List.drop_append_of_le_length (by simp), List.drop_of_length_le (by simp), ← hms]
              simp
            have hlen : (flatAll dn).length + 1 + cc = (flatAll dn).length + (flat1 (c, ms)).length := by
              rw [hfl, ← hms]
              simp only [List.length_cons]
              omega
            refine ⟨_, rfl, _, rfl, _, _, rfl, rfl, ?_⟩
            refine ⟨g, _, hg1, trivial, fun od => ?_⟩
            have hf2 : FarmAt C (upd H1 g (.frz od (.lst (saidAll none dn)))) p (after none dn) := farm_off hf1 _
            have q1 : Same H (upd H1 g (.frz od (.lst (saidAll none dn)))) := same_off s1 hg0
            refine ⟨_, rfl, _, rfl, _, rfl, _, rfl, _, rfl, _, rfl, _, rfl, a, _, rfl, q1.seq hS, fun nl hnl => ?_⟩
            have ecut : cutV (vints l) (some (((flatAll dn).length + 1 : Nat) : Int)) (some ((((flatAll dn).length + 1 : Nat) : Int) + (cc : Int))) = vints ms := by rw [cut_vints, hcut]
            have s2 := Same.upd (o := .lst (cutV (vints l) (some (((flatAll dn).length + 1 : Nat) : Int)) (some ((((flatAll dn).length + 1 : Nat) : Int) + (cc : Int))))) hnl
            refine ⟨p, nl, c, after none dn, ms, rfl, Nat.lt_succ_of_le okc.1, hf2.same s2, good_after dn none (fun _ z => nomatch z), SqL.of (by rw [← ecut]; exact upd_same), okc.2, fun H2 q hq hf3 kb2 => ?_⟩
            have hgp : g ≠ p := farm_ne hf1
            have hg2 : H2 g = some (.frz od (.lst (saidAll none dn))) := kb2 g _ (s2 _ _ upd_same) hgp
            have hqg : q ≠ g := ne_of hq hg2 (by intro z; cases z)
            refine ⟨hg2, ?_⟩
            have s3 : Same H (upd H2 g (.lst (saidAll none dn))) := fun b o e => by
              have e1 := s2 b o (q1 b o e)
              have nb : b ≠ p := ne_of_none e hp0
              have ng : b ≠ g := ne_of_none e hg0
              rw [upd_ne ng]
              exact kb2 b o e1 nb
            have tot : saidAll none cs = (saidAll none dn ++ said (after none dn) (c, ms)) ++ saidAll (after none (dn ++ [(c, ms)])) rest := by
              rw [hcs, show dn ++ (c, ms) :: rest = (dn ++ [(c, ms)]) ++ rest by simp, said_app, said_snoc]
            have len1 : (saidAll none dn).length + ((outV (Kh368.doing (after none dn) (callOf c ms)).2).length + 1) ≤ 10000000 := by
              have h1 := hshort
              rw [tot, List.length_append, List.length_append] at h1
              have h2 : (said (after none dn) (c, ms)).length = (outV (Kh368.doing (after none dn) (callOf c ms)).2).length + 1 := rfl
              omega
            have big : (10000000 : Nat) < sizeLine := by decide
            refine ⟨_, rfl, .inl ⟨rfl, _, SqL.of upd_same⟩, _, rfl, q, _, rfl, .inl (SqL.of (by rw [upd_ne hqg]; exact hq)), g, _, _, rfl, rfl, upd_same, (by omega), ?_⟩
            refine ⟨_, rfl, .inl ⟨rfl, _, SqL.of upd_same⟩, _, rfl, g, q, _, _, rfl, rfl, upd_same, (by rw [upd_ne hqg, upd_ne hqg]; exact hq), (by rw [List.length_append, List.length_singleton]; omega), ?_⟩
            refine ⟨dn ++ [(c, ms)], rest, some (.int (c : Int)), some (.int (((flatAll dn).length + 1 : Nat) : Int)), some (.int (cc : Int)), some (.ref q), by rw [hcs]; simp, ?_, ?_, ?_, ?_, rfl⟩
            · rw [flat_snoc, List.length_append, ← hlen]
              rfl
            · exact fun b o e => by
                have ng : b ≠ g := ne_of_none e hg0
                have := s3 b o e
                rw [upd_ne ng] at this
                rw [upd_ne ng, upd_ne ng, upd_ne ng]
                exact this
            · rw [upd_same, said_snoc, List.append_assoc]
              rfl
            · rw [after_snoc]
              have e1 : upd (upd (upd (upd H2 g (.lst (saidAll none dn))) g (.lst (saidAll none dn ++ [V.int ((outV (Kh368.doing (after none dn) (callOf c ms)).2).length : Nat)]))) g (.lst ((saidAll none dn ++ [V.int ((outV (Kh368.doing (after none dn) (callOf c ms)).2).length : Nat)]) ++ outV (Kh368.doing (after none dn) (callOf c ms)).2))) g (.own g) = upd H2 g (.own g) := by
                rw [upd_twice, upd_twice, upd_twice]
              rw [e1]
              exact farm_on hf3 hg2
      · have c1 : rest0 = [] := by
          have c2 : ¬ (flatAll dn).length < (flatAll cs).length := fun z => c0 (decide_eq_true (by rw [vints_len]; exact Int.ofNat_lt.mpr z))
          cases rest0 with
          | nil => rfl
          | cons x rest =>
            rw [hcs] at c2
            have h1 : 0 < (flat1 x).length := by
              unfold flat1
              split <;> simp
            have h2 : (flatAll (dn ++ x :: rest)).length = (flatAll dn).length + ((flat1 x).length + (flatAll rest).length) := by
              unfold flatAll
              rw [List.flatMap_append, List.flatMap_cons, List.length_append, List.length_append]
            omega
        subst c1
        rw [List.append_nil] at hcs
        subst hcs
        exact ⟨_, rfl, kk _ _ hg1⟩
end
end Rs
end
section
/-! The request: one flat list read as calls. -/
set_option Elab.async false
set_option linter.all false
set_option maxRecDepth 100000
set_option maxHeartbeats 2000000
namespace Rs
open PySem L2
def toZ (l : List Nat) : List Int := l.map Int.ofNat
/-- the call as the specification has it -/
structure Reads (c : List (List Int)) (x : Cl) : Prop where
  ok : OkCl x
  put : PyFlat.put1 c = toZ (flat1 x)
  step : ∀ s, Kh368Neutral.step s (PyKh368.whole c) = ((Kh368.doing s (callOf x.1 x.2)).1, (Kh368.doing s (callOf x.1 x.2)).2.ret :: (Kh368.doing s (callOf x.1 x.2)).2.out.map Int.ofNat)
theorem nat_of {z : Int} (h : 0 ≤ z) : ∃ n : Nat, z = Int.ofNat n := ⟨z.toNat, (Int.toNat_of_nonneg h).symm⟩
theorem one_z {a : List Int} (h : a.length = 1) (hn : ∀ z ∈ a, 0 ≤ z) : ∃ n : Nat, a = [Int.ofNat n] := by
  match a, h with
  | [z], _ =>
    obtain ⟨n, rfl⟩ := nat_of (hn z (by simp))
    exact ⟨n, rfl⟩
theorem two_z {a : List Int} (h : a.length = 2) (hn : ∀ z ∈ a, 0 ≤ z) : ∃ n m : Nat, a = [Int.ofNat n, Int.ofNat m] := by
  match a, h with
  | [z, y], _ =>
    obtain ⟨n, rfl⟩ := nat_of (hn z (by simp))
    obtain ⟨m, rfl⟩ := nat_of (hn y (by simp))
    exact ⟨n, m, rfl⟩
theorem all_z : ∀ {a : List Int}, (∀ z ∈ a, 0 ≤ z) → ∃ ms : List Nat, a = toZ ms
  | [], _ => ⟨[], rfl⟩
  | z :: r, hn => by
    obtain ⟨n, rfl⟩ := nat_of (hn z (by simp))
    obtain ⟨ms, rfl⟩ := all_z (a := r) fun y hy => hn y (by simp [hy])
    exact ⟨n :: ms, rfl⟩
theorem nats_toZ (ms : List Nat) : Kh368Neutral.nats (toZ ms) = ms := by
  unfold Kh368Neutral.nats toZ
  rw [List.map_map]
  have : (Kh368Neutral.nat ∘ Int.ofNat) = id := by
    funext n
    rfl
  rw [this, List.map_id]
theorem nil_of {α : Type} {a : List α} (h : a.length = 0) : a = [] := List.eq_nil_of_length_eq_zero h
theorem shape_cases {p : Int} {n k : Nat} (h : PyKh368.shape p = some (n, k)) :
    (p = 9 ∧ n = 0 ∧ k = 1) ∨ (p = 3 ∧ n = 2 ∧ k = 0) ∨ ((p = 5 ∨ p = 6 ∨ p = 7 ∨ p = 17 ∨ p = 19 ∨ p = 20) ∧ n = 0 ∧ k = 0) ∨
    ((p = 0 ∨ p = 1 ∨ p = 2 ∨ p = 4 ∨ p = 8 ∨ p = 10 ∨ p = 11 ∨ p = 12 ∨ p = 13 ∨ p = 14 ∨ p = 15 ∨ p = 16 ∨ p = 18) ∧ n = 1 ∧ k = 0) := by
  unfold PyKh368.shape at h
  by_cases e0 : p = 0
  · rw [if_pos e0] at h
    have h' := Option.some.inj h
    injection h' with h1 h2
    subst h1 h2 e0
    simp
  rw [if_neg e0] at h
  by_cases e1 : p = 1
  · rw [if_pos e1] at h
    have h' := Option.some.inj h
    injection h' with h1 h2
    subst h1 h2 e1
    simp
  rw [if_neg e1] at h
  by_cases e2 : p = 2
  · rw [if_pos e2] at h
    have h' := Option.some.inj h
    injection h' with h1 h2
    subst h1 h2 e2
    simp
  rw [if_neg e2] at h
  by_cases e3 : p = 3
  · rw [if_pos e3] at h
    have h' := Option.some.inj h
    injection h' with h1 h2
    subst h1 h2 e3
    simp
  rw [if_neg e3] at h
  by_cases e4 : p = 4
  · rw [if_pos e4] at h
    have h' := Option.some.inj h
    injection h' with h1 h2
    subst h1 h2 e4
    simp
  rw [if_neg e4] at h
  by_cases e5 : p = 5
  · rw [if_pos e5] at h
    have h' := Option.some.inj h
    injection h' with h1 h2
    subst h1 h2 e5
    simp
  rw [if_neg e5] at h
  by_cases e6 : p = 6
  · rw [if_pos e6] at h
    have h' := Option.some.inj h
    injection h' with h1 h2
    subst h1 h2 e6
    simp
  rw [if_neg e6] at h
  by_cases e7 : p = 7
  · rw [if_pos e7] at h
    have h' := Option.some.inj h
    injection h' with h1 h2
    subst h1 h2 e7
    simp
  rw [if_neg e7] at h
  by_cases e8 : p = 8
  · rw [if_pos e8] at h
    have h' := Option.some.inj h
    injection h' with h1 h2
    subst h1 h2 e8
    simp
  rw [if_neg e8] at h
  by_cases e9 : p = 9
  · rw [if_pos e9] at h
    have h' := Option.some.inj h
    injection h' with h1 h2
    subst h1 h2 e9
    simp
  rw [if_neg e9] at h
  by_cases e10 : p = 10
  · rw [if_pos e10] at h
    have h' := Option.some.inj h
    injection h' with h1 h2
    subst h1 h2 e10
    simp
  rw [if_neg e10] at h
  by_cases e11 : p = 11
  · rw [if_pos e11] at h
    have h' := Option.some.inj h
    injection h' with h1 h2
    subst h1 h2 e11
    simp
  rw [if_neg e11] at h
  by_cases e12 : p = 12
  · rw [if_pos e12] at h
    have h' := Option.some.inj h
    injection h' with h1 h2
    subst h1 h2 e12
    simp
  rw [if_neg e12] at h
  by_cases e13 : p = 13
  · rw [if_pos e13] at h
    have h' := Option.some.inj h
    injection h' with h1 h2
    subst h1 h2 e13
    simp
  rw [if_neg e13] at h
  by_cases e14 : p = 14
  · rw [if_pos e14] at h
    have h' := Option.some.inj h
    injection h' with h1 h2
    subst h1 h2 e14
    simp
  rw [if_neg e14] at h
  by_cases e15 : p = 15
  · rw [if_pos e15] at h
    have h' := Option.some.inj h
    injection h' with h1 h2
    subst h1 h2 e15
    simp
  rw [if_neg e15] at h
  by_cases e16 : p = 16
  · rw [if_pos e16] at h
    have h' := Option.some.inj h
    injection h' with h1 h2
    subst h1 h2 e16
    simp
  rw [if_neg e16] at h
  by_cases e17 : p = 17
  · rw [if_pos e17] at h
    have h' := Option.some.inj h
    injection h' with h1 h2
    subst h1 h2 e17
    simp
  rw [if_neg e17] at h
  by_cases e18 : p = 18
  · rw [if_pos e18] at h
    have h' := Option.some.inj h
    injection h' with h1 h2
    subst h1 h2 e18
    simp
  rw [if_neg e18] at h
  by_cases e19 : p = 19
  · rw [if_pos e19] at h
    have h' := Option.some.inj h
    injection h' with h1 h2
    subst h1 h2 e19
    simp
  rw [if_neg e19] at h
  by_cases e20 : p = 20
  · rw [if_pos e20] at h
    have h' := Option.some.inj h
    injection h' with h1 h2
    subst h1 h2 e20
    simp
  rw [if_neg e20] at h
  cases h
theorem reads_of {c : List (List Int)} (h : PyFlat.okCall PyKh368.shape c) (hn : ∀ z ∈ PyFlat.put1 c, 0 ≤ z) (hr : ∀ r ∈ c, r.length ≤ 16) : ∃ x, Reads c x := by
  obtain ⟨p, a, xs, rfl, hs⟩ := h
  have ha : ∀ z ∈ a, 0 ≤ z := fun z hz => hn z (by
    show z ∈ (p :: a) ++ PyFlat.putRows xs
    simp [hz])
  rcases shape_cases hs with ⟨rfl, h1, h2⟩ | ⟨rfl, h1, h2⟩ | ⟨hp, h1, h2⟩ | ⟨hp, h1, h2⟩
  · have ea := nil_of h1
    subst ea
    obtain ⟨r, rfl⟩ : ∃ r, xs = [r] := by
      match xs, h2 with
      | [r], _ => exact ⟨r, rfl⟩
    obtain ⟨ms, rfl⟩ := all_z (a := r) fun z hz => hn z (by
      show z ∈ [9] ++ ((r.length : Int) :: r ++ [])
      simp [hz])
    have hl : ms.length ≤ 16 := by
      have := hr (toZ ms) (by simp)
      rw [toZ, List.length_map] at this
      exact this
    refine ⟨(9, ms), ⟨Nat.le_of_ble_eq_true rfl, ?_⟩, ?_, fun s => ?_⟩
    · show Fit 9 ms
      unfold Fit
      rw [if_pos rfl]
      exact hl
    · show [9] ++ (((toZ ms).length : Int) :: toZ ms ++ []) = toZ (9 :: ms.length :: ms)
      rw [List.append_nil, show (toZ ms).length = ms.length from List.length_map ..]
      rfl
    · show ((Kh368.doing s (.told (Kh368Neutral.nats (toZ ms)))).1, (Kh368.doing s (.told (Kh368Neutral.nats (toZ ms)))).2.ret :: (Kh368.doing s (.told (Kh368Neutral.nats (toZ ms)))).2.out.map Int.ofNat) = _
      rw [nats_toZ]
      rfl
  · obtain ⟨n, m, rfl⟩ := two_z h1 ha
    have ex := nil_of h2
    subst ex
    exact ⟨(3, [n, m]), ⟨Nat.le_of_ble_eq_true rfl, rfl⟩, rfl, fun s => rfl⟩
  · have ea := nil_of h1
    have ex := nil_of h2
    subst ea ex
    rcases hp with rfl | rfl | rfl | rfl | rfl | rfl
    · exact ⟨(5, []), ⟨Nat.le_of_ble_eq_true rfl, rfl⟩, rfl, fun s => rfl⟩
    · exact ⟨(6, []), ⟨Nat.le_of_ble_eq_true rfl, rfl⟩, rfl, fun s => rfl⟩
    · exact ⟨(7, []), ⟨Nat.le_of_ble_eq_true rfl, rfl⟩, rfl, fun s => rfl⟩
    · exact ⟨(17, []), ⟨Nat.le_of_ble_eq_true rfl, rfl⟩, rfl, fun s => rfl⟩
    · exact ⟨(19, []), ⟨Nat.le_of_ble_eq_true rfl, rfl⟩, rfl, fun s => rfl⟩
    · exact ⟨(20, []), ⟨Nat.le_of_ble_eq_true rfl, rfl⟩, rfl, fun s => rfl⟩
  · obtain ⟨n, rfl⟩ := one_z h1 ha
    have ex := nil_of h2
    subst ex
    rcases hp with rfl | rfl | rfl | rfl | rfl | rfl | rfl | rfl | rfl | rfl | rfl | rfl | rfl
    · exact ⟨(0, [n]), ⟨Nat.le_of_ble_eq_true rfl, rfl⟩, rfl, fun s => rfl⟩
    · exact ⟨(1, [n]), ⟨Nat.le_of_ble_eq_true rfl, rfl⟩, rfl, fun s => rfl⟩
    · exact ⟨(2, [n]), ⟨Nat.le_of_ble_eq_true rfl, rfl⟩, rfl, fun s => rfl⟩
    · exact ⟨(4, [n]), ⟨Nat.le_of_ble_eq_true rfl, rfl⟩, rfl, fun s => rfl⟩
    · exact ⟨(8, [n]), ⟨Nat.le_of_ble_eq_true rfl, rfl⟩, rfl, fun s => rfl⟩
    · exact ⟨(10, [n]), ⟨Nat.le_of_ble_eq_true rfl, rfl⟩, rfl, fun s => rfl⟩
    · exact ⟨(11, [n]), ⟨Nat.le_of_ble_eq_true rfl, rfl⟩, rfl, fun s => rfl⟩
    · exact ⟨(12, [n]), ⟨Nat.le_of_ble_eq_true rfl, rfl⟩, rfl, fun s => rfl⟩
    · exact ⟨(13, [n]), ⟨Nat.le_of_ble_eq_true rfl, rfl⟩, rfl, fun s => rfl⟩
    · exact ⟨(14, [n]), ⟨Nat.le_of_ble_eq_true rfl, rfl⟩, rfl, fun s => rfl⟩
    · exact ⟨(15, [n]), ⟨Nat.le_of_ble_eq_true rfl, rfl⟩, rfl, fun s => rfl⟩
    · exact ⟨(16, [n]), ⟨Nat.le_of_ble_eq_true rfl, rfl⟩, rfl, fun s => rfl⟩
    · exact ⟨(18, [n]), ⟨Nat.le_of_ble_eq_true rfl, rfl⟩, rfl, fun s => rfl⟩
/-- calls, one by one -/
inductive ReadsAll : List (List (List Int)) → List Cl → Prop
  | nil : ReadsAll [] []
  | cons {c : List (List Int)} {x : Cl} {cs : List (List (List Int))} {xs : List Cl} : Reads c x → ReadsAll cs xs → ReadsAll (c :: cs) (x :: xs)
theorem ReadsAll.ok {cs : List (List (List Int))} {xs : List Cl} (h : ReadsAll cs xs) : ∀ x ∈ xs, OkCl x := by
  induction h with
  | nil => intro x hx; cases hx
  | cons r _ ih =>
    intro x hx
    rcases List.mem_cons.mp hx with e | hx
    · rw [e]; exact r.ok
    · exact ih x hx
theorem ReadsAll.put {cs : List (List (List Int))} {xs : List Cl} (h : ReadsAll cs xs) : PyFlat.put cs = toZ (flatAll xs) := by
  induction h with
  | nil => rfl
  | @cons c x cs xs r _ ih =>
    show PyFlat.put1 c ++ PyFlat.put cs = toZ (flatAll (x :: xs))
    rw [r.put, ih]
    show toZ (flat1 x) ++ toZ (flatAll xs) = toZ (flat1 x ++ flatAll xs)
    unfold toZ
    rw [List.map_append]
theorem ReadsAll.told {cs : List (List (List Int))} {xs : List Cl} (h : ReadsAll cs xs) : ∀ s, (PyFlat.told (PyFlat.played Kh368Neutral.step s (cs.map PyKh368.whole))).map V.int = saidAll s xs := by
  induction h with
  | nil => intro s; rfl
  | @cons c x cs xs r _ ih =>
    intro s
    show (PyFlat.told ((Kh368Neutral.step s (PyKh368.whole c)).2 :: PyFlat.played Kh368Neutral.step (Kh368Neutral.step s (PyKh368.whole c)).1 (cs.map PyKh368.whole))).map V.int = said s x ++ saidAll (next s x) xs
    rw [r.step]
    show ((((_ :: (Kh368.doing s (callOf x.1 x.2)).2.out.map Int.ofNat).length : Int) :: ((Kh368.doing s (callOf x.1 x.2)).2.ret :: (Kh368.doing s (callOf x.1 x.2)).2.out.map Int.ofNat)) ++ PyFlat.told (PyFlat.played Kh368Neutral.step (next s x) (cs.map PyKh368.whole))).map V.int = _
    rw [List.map_append, ih]
    congr 1
    show V.int _ :: V.int _ :: vints _ = said s x
    unfold said outV
    congr 2
    rw [List.length_cons, List.length_cons, vints_len, List.length_map]
theorem reads_all : ∀ {cs : List (List (List Int))}, (∀ c ∈ cs, PyFlat.okCall PyKh368.shape c) → (∀ z ∈ PyFlat.put cs, 0 ≤ z) → (∀ c ∈ cs, ∀ r ∈ c, r.length ≤ 16) → ∃ xs, ReadsAll cs xs
  | [], _, _, _ => ⟨[], .nil⟩
  | c :: cs, h1, h2, h3 => by
    have e : PyFlat.put (c :: cs) = PyFlat.put1 c ++ PyFlat.put cs := rfl
    rw [e] at h2
    obtain ⟨x, hx⟩ := reads_of (h1 c (by simp)) (fun z hz => h2 z (List.mem_append_left _ hz)) (h3 c (by simp))
    obtain ⟨xs, hxs⟩ := reads_all (cs := cs) (fun d hd => h1 d (by simp [hd])) (fun z hz => h2 z (List.mem_append_right _ hz)) fun d hd => h3 d (by simp [hd])
    exact ⟨x :: xs, .cons hx hxs⟩
/-- what a request is -/
theorem request {ns : List Int} (hb : ∀ z ∈ ns, 0 ≤ z) (h : PyKh368.answers_asked ns = true) : ∃ cs : List Cl, ns = toZ (flatAll cs) ∧ (∀ x ∈ cs, OkCl x) ∧ (saidAll none cs).length ≤ 10000000 ∧ (PyKh368.answers ns).map V.int = saidAll none cs := by
  unfold PyKh368.answers_asked at h
  cases e : PyFlat.calls PyKh368.shape ns.length ns with
  | none => rw [e] at h; cases h
  | some raw =>
    rw [e] at h
    simp only [Bool.and_eq_true] at h
    obtain ⟨⟨⟨⟨_, _⟩, hin⟩, _⟩, hsh⟩ := h
    obtain ⟨hp, hok⟩ := PyFlat.put_calls _ _ _ e
    have len : ∀ c ∈ raw, ∀ r ∈ c, r.length ≤ 16 := by
      intro c hc r hr
      obtain ⟨p, a, xs, rfl, hs⟩ := hok c hc
      have hb1 := List.all_eq_true.mp hin _ hc
      rcases shape_cases hs with ⟨rfl, h1, h2⟩ | ⟨rfl, h1, h2⟩ | ⟨hp, h1, h2⟩ | ⟨hp, h1, h2⟩
      · obtain ⟨y, rfl⟩ : ∃ y, xs = [y] := by
          match xs, h2 with
          | [y], _ => exact ⟨y, rfl⟩
        rcases List.mem_cons.mp hr with rfl | hr
        · rw [List.length_cons]
          omega
        · have := List.mem_singleton.mp hr
          subst this
          have hb2 : (PyInside.each [] a && (decide (0 ≤ r.length) && decide (r.length ≤ 16) && r.all (PyInside.within 0 4294967295) && true)) = true := hb1
          simp only [Bool.and_eq_true, decide_eq_true_eq] at hb2
          exact hb2.2.1.1.2
      · have ex := nil_of h2
        subst ex
        have := List.mem_singleton.mp hr
        subst this
        rw [List.length_cons]
        omega
      · have ex := nil_of h2
        subst ex
        have := List.mem_singleton.mp hr
        subst this
        rw [List.length_cons]
        omega
      · have ex := nil_of h2
        subst ex
        have := List.mem_singleton.mp hr
        subst this
        rw [List.length_cons]
        omega
    obtain ⟨cs, hcs⟩ := reads_all hok (fun z hz => hb z (by rw [hp]; exact hz)) len
    have ans : PyKh368.answers ns = PyFlat.told (PyFlat.played Kh368Neutral.step Kh368Neutral.start (raw.map PyKh368.whole)) := by
      unfold PyKh368.answers PyKh368.calls
      rw [e]
    have tl := hcs.told none
    refine ⟨cs, by rw [hp]; exact hcs.put, hcs.ok, ?_, ?_⟩
    · rw [← tl, List.length_map]
      have := of_decide_eq_true hsh
      rw [ans] at this
      exact this
    · rw [ans]
      exact tl
end Rs
end
section
/-! What the top has written, and the row. -/
set_option Elab.async false
set_option linter.all false
set_option maxRecDepth 100000
set_option maxHeartbeats 4000000
namespace Rs
open PySem PySem.Spec PyProof.Rows L2
theorem all_mk {P : Program} {w : World} {K : PySem.W.Frag} {h : Heap} {mg : Str → Option Value} {fa C : Addr} (X : K.In h) (G : h.Ns mainGlobals mg) (hfa : mg "answers" = some (.ref fa))
    {f_given_out : Addr} {od_given_out an_given_out : Option Addr} {sl_given_out : Array (Option Value)} {oc_given_out kV_given_out dc_given_out pm_given_out cd_given_out ct_given_out : Value}
    {f_longest : Addr} {od_longest an_longest : Option Addr} {sl_longest : Array (Option Value)} {oc_longest kV_longest dc_longest pm_longest cd_longest ct_longest : Value}
    {f_how_little : Addr} {od_how_little an_how_little : Option Addr} {sl_how_little : Array (Option Value)} {oc_how_little kV_how_little dc_how_little pm_how_little cd_how_little ct_how_little : Value}
    {f_planned : Addr} {od_planned an_planned : Option Addr} {sl_planned : Array (Option Value)} {oc_planned kV_planned dc_planned pm_planned cd_planned ct_planned : Value}
    {f_picker_of : Addr} {od_picker_of an_picker_of : Option Addr} {sl_picker_of : Array (Option Value)} {oc_picker_of kV_picker_of dc_picker_of pm_picker_of cd_picker_of ct_picker_of : Value}
    {f_most_minutes : Addr} {od_most_minutes an_most_minutes : Option Addr} {sl_most_minutes : Array (Option Value)} {oc_most_minutes kV_most_minutes dc_most_minutes pm_most_minutes cd_most_minutes ct_most_minutes : Value}
    {f_rows_of : Addr} {od_rows_of an_rows_of : Option Addr} {sl_rows_of : Array (Option Value)} {oc_rows_of kV_rows_of dc_rows_of pm_rows_of cd_rows_of ct_rows_of : Value}
    {f_rows_without : Addr} {od_rows_without an_rows_without : Option Addr} {sl_rows_without : Array (Option Value)} {oc_rows_without kV_rows_without dc_rows_without pm_rows_without cd_rows_without ct_rows_without : Value}
    {f_rows_set : Addr} {od_rows_set an_rows_set : Option Addr} {sl_rows_set : Array (Option Value)} {oc_rows_set kV_rows_set dc_rows_set pm_rows_set cd_rows_set ct_rows_set : Value}
    {f_rows_exchanged : Addr} {od_rows_exchanged an_rows_exchanged : Option Addr} {sl_rows_exchanged : Array (Option Value)} {oc_rows_exchanged kV_rows_exchanged dc_rows_exchanged pm_rows_exchanged cd_rows_exchanged ct_rows_exchanged : Value}
    {f_how_much_longer : Addr} {od_how_much_longer an_how_much_longer : Option Addr} {sl_how_much_longer : Array (Option Value)} {oc_how_much_longer kV_how_much_longer dc_how_much_longer pm_how_much_longer cd_how_much_longer ct_how_much_longer : Value}
    {f_are_minutes : Addr} {od_are_minutes an_are_minutes : Option Addr} {sl_are_minutes : Array (Option Value)} {oc_are_minutes kV_are_minutes dc_are_minutes pm_are_minutes cd_are_minutes ct_are_minutes : Value}
    {f_are_pickers : Addr} {od_are_pickers an_are_pickers : Option Addr} {sl_are_pickers : Array (Option Value)} {oc_are_pickers kV_are_pickers dc_are_pickers pm_are_pickers cd_are_pickers ct_are_pickers : Value}
    {f_answer_begin : Addr} {od_answer_begin an_answer_begin : Option Addr} {sl_answer_begin : Array (Option Value)} {oc_answer_begin kV_answer_begin dc_answer_begin pm_answer_begin cd_answer_begin ct_answer_begin : Value}
    {f_answer_row : Addr} {od_answer_row an_answer_row : Option Addr} {sl_answer_row : Array (Option Value)} {oc_answer_row kV_answer_row dc_answer_row pm_answer_row cd_answer_row ct_answer_row : Value}
    {f_answer_out : Addr} {od_answer_out an_answer_out : Option Addr} {sl_answer_out : Array (Option Value)} {oc_answer_out kV_answer_out dc_answer_out pm_answer_out cd_answer_out ct_answer_out : Value}
    {f_answer_minutes : Addr} {od_answer_minutes an_answer_minutes : Option Addr} {sl_answer_minutes : Array (Option Value)} {oc_answer_minutes kV_answer_minutes dc_answer_minutes pm_answer_minutes cd_answer_minutes ct_answer_minutes : Value}
    {f_answer_pickers : Addr} {od_answer_pickers an_answer_pickers : Option Addr} {sl_answer_pickers : Array (Option Value)} {oc_answer_pickers kV_answer_pickers dc_answer_pickers pm_answer_pickers cd_answer_pickers ct_answer_pickers : Value}
    {f_answer_back : Addr} {od_answer_back an_answer_back : Option Addr} {sl_answer_back : Array (Option Value)} {oc_answer_back kV_answer_back dc_answer_back pm_answer_back cd_answer_back ct_answer_back : Value}
    {f_answer_least : Addr} {od_answer_least an_answer_least : Option Addr} {sl_answer_least : Array (Option Value)} {oc_answer_least kV_answer_least dc_answer_least pm_answer_least cd_answer_least ct_answer_least : Value}
    {f_answer_plan : Addr} {od_answer_plan an_answer_plan : Option Addr} {sl_answer_plan : Array (Option Value)} {oc_answer_plan kV_answer_plan dc_answer_plan pm_answer_plan cd_answer_plan ct_answer_plan : Value}
    {f_answer_who : Addr} {od_answer_who an_answer_who : Option Addr} {sl_answer_who : Array (Option Value)} {oc_answer_who kV_answer_who dc_answer_who pm_answer_who cd_answer_who ct_answer_who : Value}
    {f_answer_told : Addr} {od_answer_told an_answer_told : Option Addr} {sl_answer_told : Array (Option Value)} {oc_answer_told kV_answer_told dc_answer_told pm_answer_told cd_answer_told ct_answer_told : Value}
    {f_answer_fewest : Addr} {od_answer_fewest an_answer_fewest : Option Addr} {sl_answer_fewest : Array (Option Value)} {oc_answer_fewest kV_answer_fewest dc_answer_fewest pm_answer_fewest cd_answer_fewest ct_answer_fewest : Value}
    {f_answer_if_pickers : Addr} {od_answer_if_pickers an_answer_if_pickers : Option Addr} {sl_answer_if_pickers : Array (Option Value)} {oc_answer_if_pickers kV_answer_if_pickers dc_answer_if_pickers pm_answer_if_pickers cd_answer_if_pickers ct_answer_if_pickers : Value}
    {f_answer_more : Addr} {od_answer_more an_answer_more : Option Addr} {sl_answer_more : Array (Option Value)} {oc_answer_more kV_answer_more dc_answer_more pm_answer_more cd_answer_more ct_answer_more : Value}
    {f_answer_first : Addr} {od_answer_first an_answer_first : Option Addr} {sl_answer_first : Array (Option Value)} {oc_answer_first kV_answer_first dc_answer_first pm_answer_first cd_answer_first ct_answer_first : Value}
    {f_answer_without : Addr} {od_answer_without an_answer_without : Option Addr} {sl_answer_without : Array (Option Value)} {oc_answer_without kV_answer_without dc_answer_without pm_answer_without cd_answer_without ct_answer_without : Value}
    {f_answer_exchange : Addr} {od_answer_exchange an_answer_exchange : Option Addr} {sl_answer_exchange : Array (Option Value)} {oc_answer_exchange kV_answer_exchange dc_answer_exchange pm_answer_exchange cd_answer_exchange ct_answer_exchange : Value}
    {f_answer_longer : Addr} {od_answer_longer an_answer_longer : Option Addr} {sl_answer_longer : Array (Option Value)} {oc_answer_longer kV_answer_longer dc_answer_longer pm_answer_longer cd_answer_longer ct_answer_longer : Value}
    {f_answer_idle : Addr} {od_answer_idle an_answer_idle : Option Addr} {sl_answer_idle : Array (Option Value)} {oc_answer_idle kV_answer_idle dc_answer_idle pm_answer_idle cd_answer_idle ct_answer_idle : Value}
    {f_answer_has : Addr} {od_answer_has an_answer_has : Option Addr} {sl_answer_has : Array (Option Value)} {oc_answer_has kV_answer_has dc_answer_has pm_answer_has cd_answer_has ct_answer_has : Value}
    {f_answer_sums : Addr} {od_answer_sums an_answer_sums : Option Addr} {sl_answer_sums : Array (Option Value)} {oc_answer_sums kV_answer_sums dc_answer_sums pm_answer_sums cd_answer_sums ct_answer_sums : Value}
    {f_answer_state : Addr} {od_answer_state an_answer_state : Option Addr} {sl_answer_state : Array (Option Value)} {oc_answer_state kV_answer_state dc_answer_state pm_answer_state cd_answer_state ct_answer_state : Value}
    {f_answer : Addr} {od_answer an_answer : Option Addr} {sl_answer : Array (Option Value)} {oc_answer kV_answer dc_answer pm_answer cd_answer ct_answer : Value}
    {f_answers : Addr} {od_answers an_answers : Option Addr} {sl_answers : Array (Option Value)} {oc_answers kV_answers dc_answers pm_answers cd_answers ct_answers : Value}
    {f_M_init : Addr} {od_M_init an_M_init : Option Addr} {sl_M_init : Array (Option Value)} {oc_M_init kV_M_init dc_M_init pm_M_init cd_M_init ct_M_init : Value}
    {f_M_begin : Addr} {od_M_begin an_M_begin : Option Addr} {sl_M_begin : Array (Option Value)} {oc_M_begin kV_M_begin dc_M_begin pm_M_begin cd_M_begin ct_M_begin : Value}
    {f_M_has_row : Addr} {od_M_has_row an_M_has_row : Option Addr} {sl_M_has_row : Array (Option Value)} {oc_M_has_row kV_M_has_row dc_M_has_row pm_M_has_row cd_M_has_row ct_M_has_row : Value}
    {f_M_change : Addr} {od_M_change an_M_change : Option Addr} {sl_M_change : Array (Option Value)} {oc_M_change kV_M_change dc_M_change pm_M_change cd_M_change ct_M_change : Value}
    {f_M_take_back : Addr} {od_M_take_back an_M_take_back : Option Addr} {sl_M_take_back : Array (Option Value)} {oc_M_take_back kV_M_take_back dc_M_take_back pm_M_take_back cd_M_take_back ct_M_take_back : Value}
    {f_M_has_picker : Addr} {od_M_has_picker an_M_has_picker : Option Addr} {sl_M_has_picker : Array (Option Value)} {oc_M_has_picker kV_M_has_picker dc_M_has_picker pm_M_has_picker cd_M_has_picker ct_M_has_picker : Value}
    {t_NONE_SUCH : Tok}
    {t_ALREADY_SO : Tok}
    {t_OUT_OF_BOUNDS : Tok}
    {t_FULL : Tok}
    {t_TOO_LONG : Tok}
    {t_NOT_BEGUN : Tok}
    {t_MOST_ROWS : Tok}
    {t_MOST_MINUTES : Tok}
    {t_MOST_PICKERS : Tok}
    {t_CHANGES_KEPT : Tok}
    {t_BEGIN : Tok}
    {t_TOLD : Tok}
    {tT : Addr} {dT : Option Addr} {nT : Nat} {slT : Array (Option Value)} {tC : Addr} {dC : Option Addr} {nC : Nat} {slC : Array (Option Value)} {u0 : Tok} {u1 : Tok} {u2 : Tok} {u3 : Tok} {u4 : Tok} {u5 : Tok} {u6 : Tok} {u7 : Tok} {u8 : Tok} {u9 : Tok} {u10 : Tok} {u11 : Tok} {u12 : Tok} {u13 : Tok} {u14 : Tok} {u15 : Tok} {u16 : Tok} {u17 : Tok} {u18 : Tok} {u19 : Tok} {u20 : Tok}
    (aC : PySem.W.nsIn K mainGlobals "Farm" = some (some (.ref C)))
    (a_given_out : PySem.W.nsIn K mainGlobals "given_out" = some (some (.ref f_given_out)))
    (l_given_out : K.lookup f_given_out = some ⟨oc_given_out, od_given_out, .func (PySem.W.fnOf "given_out" "given_out" (defArgs d_given_out) (defBody d_given_out) (defScope d_given_out) .none kV_given_out dc_given_out pm_given_out an_given_out cd_given_out ct_given_out), sl_given_out⟩)
    (c_given_out : PySem.W.codeIn K cd_given_out "given_out" = true)
    (k_given_out : PySem.W.keepIn K (.ref f_given_out) = true)
    (a_longest : PySem.W.nsIn K mainGlobals "longest" = some (some (.ref f_longest)))
    (l_longest : K.lookup f_longest = some ⟨oc_longest, od_longest, .func (PySem.W.fnOf "longest" "longest" (defArgs d_longest) (defBody d_longest) (defScope d_longest) .none kV_longest dc_longest pm_longest an_longest cd_longest ct_longest), sl_longest⟩)
    (c_longest : PySem.W.codeIn K cd_longest "longest" = true)
    (k_longest : PySem.W.keepIn K (.ref f_longest) = true)
    (a_how_little : PySem.W.nsIn K mainGlobals "how_little" = some (some (.ref f_how_little)))
    (l_how_little : K.lookup f_how_little = some ⟨oc_how_little, od_how_little, .func (PySem.W.fnOf "how_little" "how_little" (defArgs d_how_little) (defBody d_how_little) (defScope d_how_little) .none kV_how_little dc_how_little pm_how_little an_how_little cd_how_little ct_how_little), sl_how_little⟩)
    (c_how_little : PySem.W.codeIn K cd_how_little "how_little" = true)
    (k_how_little : PySem.W.keepIn K (.ref f_how_little) = true)
    (a_planned : PySem.W.nsIn K mainGlobals "planned" = some (some (.ref f_planned)))
    (l_planned : K.lookup f_planned = some ⟨oc_planned, od_planned, .func (PySem.W.fnOf "planned" "planned" (defArgs d_planned) (defBody d_planned) (defScope d_planned) .none kV_planned dc_planned pm_planned an_planned cd_planned ct_planned), sl_planned⟩)
    (c_planned : PySem.W.codeIn K cd_planned "planned" = true)
    (k_planned : PySem.W.keepIn K (.ref f_planned) = true)
    (a_picker_of : PySem.W.nsIn K mainGlobals "picker_of" = some (some (.ref f_picker_of)))
    (l_picker_of : K.lookup f_picker_of = some ⟨oc_picker_of, od_picker_of, .func (PySem.W.fnOf "picker_of" "picker_of" (defArgs d_picker_of) (defBody d_picker_of) (defScope d_picker_of) .none kV_picker_of dc_picker_of pm_picker_of an_picker_of cd_picker_of ct_picker_of), sl_picker_of⟩)
    (c_picker_of : PySem.W.codeIn K cd_picker_of "picker_of" = true)
    (k_picker_of : PySem.W.keepIn K (.ref f_picker_of) = true)
    (a_most_minutes : PySem.W.nsIn K mainGlobals "most_minutes" = some (some (.ref f_most_minutes)))
    (l_most_minutes : K.lookup f_most_minutes = some ⟨oc_most_minutes, od_most_minutes, .func (PySem.W.fnOf "most_minutes" "most_minutes" (defArgs d_most_minutes) (defBody d_most_minutes) (defScope d_most_minutes) .none kV_most_minutes dc_most_minutes pm_most_minutes an_most_minutes cd_most_minutes ct_most_minutes), sl_most_minutes⟩)
    (c_most_minutes : PySem.W.codeIn K cd_most_minutes "most_minutes" = true)
    (k_most_minutes : PySem.W.keepIn K (.ref f_most_minutes) = true)
    (a_rows_of : PySem.W.nsIn K mainGlobals "rows_of" = some (some (.ref f_rows_of)))
    (l_rows_of : K.lookup f_rows_of = some ⟨oc_rows_of, od_rows_of, .func (PySem.W.fnOf "rows_of" "rows_of" (defArgs d_rows_of) (defBody d_rows_of) (defScope d_rows_of) .none kV_rows_of dc_rows_of pm_rows_of an_rows_of cd_rows_of ct_rows_of), sl_rows_of⟩)
    (c_rows_of : PySem.W.codeIn K cd_rows_of "rows_of" = true)
    (k_rows_of : PySem.W.keepIn K (.ref f_rows_of) = true)
    (a_rows_without : PySem.W.nsIn K mainGlobals "rows_without" = some (some (.ref f_rows_without)))
    (l_rows_without : K.lookup f_rows_without = some ⟨oc_rows_without, od_rows_without, .func (PySem.W.fnOf "rows_without" "rows_without" (defArgs d_rows_without) (defBody d_rows_without) (defScope d_rows_without) .none kV_rows_without dc_rows_without pm_rows_without an_rows_without cd_rows_without ct_rows_without), sl_rows_without⟩)
    (c_rows_without : PySem.W.codeIn K cd_rows_without "rows_without" = true)
    (k_rows_without : PySem.W.keepIn K (.ref f_rows_without) = true)
    (a_rows_set : PySem.W.nsIn K mainGlobals "rows_set" = some (some (.ref f_rows_set)))
    (l_rows_set : K.lookup f_rows_set = some ⟨oc_rows_set, od_rows_set, .func (PySem.W.fnOf "rows_set" "rows_set" (defArgs d_rows_set) (defBody d_rows_set) (defScope d_rows_set) .none kV_rows_set dc_rows_set pm_rows_set an_rows_set cd_rows_set ct_rows_set), sl_rows_set⟩)
    (c_rows_set : PySem.W.codeIn K cd_rows_set "rows_set" = true)
    (k_rows_set : PySem.W.keepIn K (.ref f_rows_set) = true)
    (a_rows_exchanged : PySem.W.nsIn K mainGlobals "rows_exchanged" = some (some (.ref f_rows_exchanged)))
    (l_rows_exchanged : K.lookup f_rows_exchanged = some ⟨oc_rows_exchanged, od_rows_exchanged, .func (PySem.W.fnOf "rows_exchanged" "rows_exchanged" (defArgs d_rows_exchanged) (defBody d_rows_exchanged) (defScope d_rows_exchanged) .none kV_rows_exchanged dc_rows_exchanged pm_rows_exchanged an_rows_exchanged cd_rows_exchanged ct_rows_exchanged), sl_rows_exchanged⟩)
    (c_rows_exchanged : PySem.W.codeIn K cd_rows_exchanged "rows_exchanged" = true)
    (k_rows_exchanged : PySem.W.keepIn K (.ref f_rows_exchanged) = true)
    (a_how_much_longer : PySem.W.nsIn K mainGlobals "how_much_longer" = some (some (.ref f_how_much_longer)))
    (l_how_much_longer : K.lookup f_how_much_longer = some ⟨oc_how_much_longer, od_how_much_longer, .func (PySem.W.fnOf "how_much_longer" "how_much_longer" (defArgs d_how_much_longer) (defBody d_how_much_longer) (defScope d_how_much_longer) .none kV_how_much_longer dc_how_much_longer pm_how_much_longer an_how_much_longer cd_how_much_longer ct_how_much_longer), sl_how_much_longer⟩)
    (c_how_much_longer : PySem.W.codeIn K cd_how_much_longer "how_much_longer" = true)
    (k_how_much_longer : PySem.W.keepIn K (.ref f_how_much_longer) = true)
    (a_are_minutes : PySem.W.nsIn K mainGlobals "are_minutes" = some (some (.ref f_are_minutes)))
    (l_are_minutes : K.lookup f_are_minutes = some ⟨oc_are_minutes, od_are_minutes, .func (PySem.W.fnOf "are_minutes" "are_minutes" (defArgs d_are_minutes) (defBody d_are_minutes) (defScope d_are_minutes) .none kV_are_minutes dc_are_minutes pm_are_minutes an_are_minutes cd_are_minutes ct_are_minutes), sl_are_minutes⟩)
    (c_are_minutes : PySem.W.codeIn K cd_are_minutes "are_minutes" = true)
    (k_are_minutes : PySem.W.keepIn K (.ref f_are_minutes) = true)
    (a_are_pickers : PySem.W.nsIn K mainGlobals "are_pickers" = some (some (.ref f_are_pickers)))
    (l_are_pickers : K.lookup f_are_pickers = some ⟨oc_are_pickers, od_are_pickers, .func (PySem.W.fnOf "are_pickers" "are_pickers" (defArgs d_are_pickers) (defBody d_are_pickers) (defScope d_are_pickers) .none kV_are_pickers dc_are_pickers pm_are_pickers an_are_pickers cd_are_pickers ct_are_pickers), sl_are_pickers⟩)
    (c_are_pickers : PySem.W.codeIn K cd_are_pickers "are_pickers" = true)
    (k_are_pickers : PySem.W.keepIn K (.ref f_are_pickers) = true)
    (a_answer_begin : PySem.W.nsIn K mainGlobals "answer_begin" = some (some (.ref f_answer_begin)))
    (l_answer_begin : K.lookup f_answer_begin = some ⟨oc_answer_begin, od_answer_begin, .func (PySem.W.fnOf "answer_begin" "answer_begin" (defArgs d_answer_begin) (defBody d_answer_begin) (defScope d_answer_begin) .none kV_answer_begin dc_answer_begin pm_answer_begin an_answer_begin cd_answer_begin ct_answer_begin), sl_answer_begin⟩)
    (c_answer_begin : PySem.W.codeIn K cd_answer_begin "answer_begin" = true)
    (k_answer_begin : PySem.W.keepIn K (.ref f_answer_begin) = true)
    (a_answer_row : PySem.W.nsIn K mainGlobals "answer_row" = some (some (.ref f_answer_row)))
    (l_answer_row : K.lookup f_answer_row = some ⟨oc_answer_row, od_answer_row, .func (PySem.W.fnOf "answer_row" "answer_row" (defArgs d_answer_row) (defBody d_answer_row) (defScope d_answer_row) .none kV_answer_row dc_answer_row pm_answer_row an_answer_row cd_answer_row ct_answer_row), sl_answer_row⟩)
    (c_answer_row : PySem.W.codeIn K cd_answer_row "answer_row" = true)
    (k_answer_row : PySem.W.keepIn K (.ref f_answer_row) = true)
    (a_answer_out : PySem.W.nsIn K mainGlobals "answer_out" = some (some (.ref f_answer_out)))
    (l_answer_out : K.lookup f_answer_out = some ⟨oc_answer_out, od_answer_out, .func (PySem.W.fnOf "answer_out" "answer_out" (defArgs d_answer_out) (defBody d_answer_out) (defScope d_answer_out) .none kV_answer_out dc_answer_out pm_answer_out an_answer_out cd_answer_out ct_answer_out), sl_answer_out⟩)
    (c_answer_out : PySem.W.codeIn K cd_answer_out "answer_out" = true)
    (k_answer_out : PySem.W.keepIn K (.ref f_answer_out) = true)
    (a_answer_minutes : PySem.W.nsIn K mainGlobals "answer_minutes" = some (some (.ref f_answer_minutes)))
    (l_answer_minutes : K.lookup f_answer_minutes = some ⟨oc_answer_minutes, od_answer_minutes, .func (PySem.W.fnOf "answer_minutes" "answer_minutes" (defArgs d_answer_minutes) (defBody d_answer_minutes) (defScope d_answer_minutes) .none kV_answer_minutes dc_answer_minutes pm_answer_minutes an_answer_minutes cd_answer_minutes ct_answer_minutes), sl_answer_minutes⟩)
    (c_answer_minutes : PySem.W.codeIn K cd_answer_minutes "answer_minutes" = true)
    (k_answer_minutes : PySem.W.keepIn K (.ref f_answer_minutes) = true)
    (a_answer_pickers : PySem.W.nsIn K mainGlobals "answer_pickers" = some (some (.ref f_answer_pickers)))
    (l_answer_pickers : K.lookup f_answer_pickers = some ⟨oc_answer_pickers, od_answer_pickers, .func (PySem.W.fnOf "answer_pickers" "answer_pickers" (defArgs d_answer_pickers) (defBody d_answer_pickers) (defScope d_answer_pickers) .none kV_answer_pickers dc_answer_pickers pm_answer_pickers an_answer_pickers cd_answer_pickers ct_answer_pickers), sl_answer_pickers⟩)
    (c_answer_pickers : PySem.W.codeIn K cd_answer_pickers "answer_pickers" = true)
    (k_answer_pickers : PySem.W.keepIn K (.ref f_answer_pickers) = true)
    (a_answer_back : PySem.W.nsIn K mainGlobals "answer_back" = some (some (.ref f_answer_back)))
    (l_answer_back : K.lookup f_answer_back = some ⟨oc_answer_back, od_answer_back, .func (PySem.W.fnOf "answer_back" "answer_back" (defArgs d_answer_back) (defBody d_answer_back) (defScope d_answer_back) .none kV_answer_back dc_answer_back pm_answer_back an_answer_back cd_answer_back ct_answer_back), sl_answer_back⟩)
    (c_answer_back : PySem.W.codeIn K cd_answer_back "answer_back" = true)
    (k_answer_back : PySem.W.keepIn K (.ref f_answer_back) = true)
    (a_answer_least : PySem.W.nsIn K mainGlobals "answer_least" = some (some (.ref f_answer_least)))
    (l_answer_least : K.lookup f_answer_least = some ⟨oc_answer_least, od_answer_least, .func (PySem.W.fnOf "answer_least" "answer_least" (defArgs d_answer_least) (defBody d_answer_least) (defScope d_answer_least) .none kV_answer_least dc_answer_least pm_answer_least an_answer_least cd_answer_least ct_answer_least), sl_answer_least⟩)
    (c_answer_least : PySem.W.codeIn K cd_answer_least "answer_least" = true)
    (k_answer_least : PySem.W.keepIn K (.ref f_answer_least) = true)
    (a_answer_plan : PySem.W.nsIn K mainGlobals "answer_plan" = some (some (.ref f_answer_plan)))
    (l_answer_plan : K.lookup f_answer_plan = some ⟨oc_answer_plan, od_answer_plan, .func (PySem.W.fnOf "answer_plan" "answer_plan" (defArgs d_answer_plan) (defBody d_answer_plan) (defScope d_answer_plan) .none kV_answer_plan dc_answer_plan pm_answer_plan an_answer_plan cd_answer_plan ct_answer_plan), sl_answer_plan⟩)
    (c_answer_plan : PySem.W.codeIn K cd_answer_plan "answer_plan" = true)
    (k_answer_plan : PySem.W.keepIn K (.ref f_answer_plan) = true)
    (a_answer_who : PySem.W.nsIn K mainGlobals "answer_who" = some (some (.ref f_answer_who)))
    (l_answer_who : K.lookup f_answer_who = some ⟨oc_answer_who, od_answer_who, .func (PySem.W.fnOf "answer_who" "answer_who" (defArgs d_answer_who) (defBody d_answer_who) (defScope d_answer_who) .none kV_answer_who dc_answer_who pm_answer_who an_answer_who cd_answer_who ct_answer_who), sl_answer_who⟩)
    (c_answer_who : PySem.W.codeIn K cd_answer_who "answer_who" = true)
    (k_answer_who : PySem.W.keepIn K (.ref f_answer_who) = true)
    (a_answer_told : PySem.W.nsIn K mainGlobals "answer_told" = some (some (.ref f_answer_told)))
    (l_answer_told : K.lookup f_answer_told = some ⟨oc_answer_told, od_answer_told, .func (PySem.W.fnOf "answer_told" "answer_told" (defArgs d_answer_told) (defBody d_answer_told) (defScope d_answer_told) .none kV_answer_told dc_answer_told pm_answer_told an_answer_told cd_answer_told ct_answer_told), sl_answer_told⟩)
    (c_answer_told : PySem.W.codeIn K cd_answer_told "answer_told" = true)
    (k_answer_told : PySem.W.keepIn K (.ref f_answer_told) = true)
    (a_answer_fewest : PySem.W.nsIn K mainGlobals "answer_fewest" = some (some (.ref f_answer_fewest)))
    (l_answer_fewest : K.lookup f_answer_fewest = some ⟨oc_answer_fewest, od_answer_fewest, .func (PySem.W.fnOf "answer_fewest" "answer_fewest" (defArgs d_answer_fewest) (defBody d_answer_fewest) (defScope d_answer_fewest) .none kV_answer_fewest dc_answer_fewest pm_answer_fewest an_answer_fewest cd_answer_fewest ct_answer_fewest), sl_answer_fewest⟩)
    (c_answer_fewest : PySem.W.codeIn K cd_answer_fewest "answer_fewest" = true)
    (k_answer_fewest : PySem.W.keepIn K (.ref f_answer_fewest) = true)
    (a_answer_if_pickers : PySem.W.nsIn K mainGlobals "answer_if_pickers" = some (some (.ref f_answer_if_pickers)))
    (l_answer_if_pickers : K.lookup f_answer_if_pickers = some ⟨oc_answer_if_pickers, od_answer_if_pickers, .func (PySem.W.fnOf "answer_if_pickers" "answer_if_pickers" (defArgs d_answer_if_pickers) (defBody d_answer_if_pickers) (defScope d_answer_if_pickers) .none kV_answer_if_pickers dc_answer_if_pickers pm_answer_if_pickers an_answer_if_pickers cd_answer_if_pickers ct_answer_if_pickers), sl_answer_if_pickers⟩)
    (c_answer_if_pickers : PySem.W.codeIn K cd_answer_if_pickers "answer_if_pickers" = true)
    (k_answer_if_pickers : PySem.W.keepIn K (.ref f_answer_if_pickers) = true)
    (a_answer_more : PySem.W.nsIn K mainGlobals "answer_more" = some (some (.ref f_answer_more)))
    (l_answer_more : K.lookup f_answer_more = some ⟨oc_answer_more, od_answer_more, .func (PySem.W.fnOf "answer_more" "answer_more" (defArgs d_answer_more) (defBody d_answer_more) (defScope d_answer_more) .none kV_answer_more dc_answer_more pm_answer_more an_answer_more cd_answer_more ct_answer_more), sl_answer_more⟩)
    (c_answer_more : PySem.W.codeIn K cd_answer_more "answer_more" = true)
    (k_answer_more : PySem.W.keepIn K (.ref f_answer_more) = true)
    (a_answer_first : PySem.W.nsIn K mainGlobals "answer_first" = some (some (.ref f_answer_first)))
    (l_answer_first : K.lookup f_answer_first = some ⟨oc_answer_first, od_answer_first, .func (PySem.W.fnOf "answer_first" "answer_first" (defArgs d_answer_first) (defBody d_answer_first) (defScope d_answer_first) .none kV_answer_first dc_answer_first pm_answer_first an_answer_first cd_answer_first ct_answer_first), sl_answer_first⟩)
    (c_answer_first : PySem.W.codeIn K cd_answer_first "answer_first" = true)
    (k_answer_first : PySem.W.keepIn K (.ref f_answer_first) = true)
    (a_answer_without : PySem.W.nsIn K mainGlobals "answer_without" = some (some (.ref f_answer_without)))
    (l_answer_without : K.lookup f_answer_without = some ⟨oc_answer_without, od_answer_without, .func (PySem.W.fnOf "answer_without" "answer_without" (defArgs d_answer_without) (defBody d_answer_without) (defScope d_answer_without) .none kV_answer_without dc_answer_without pm_answer_without an_answer_without cd_answer_without ct_answer_without), sl_answer_without⟩)
    (c_answer_without : PySem.W.codeIn K cd_answer_without "answer_without" = true)
    (k_answer_without : PySem.W.keepIn K (.ref f_answer_without) = true)
    (a_answer_exchange : PySem.W.nsIn K mainGlobals "answer_exchange" = some (some (.ref f_answer_exchange)))
    (l_answer_exchange : K.lookup f_answer_exchange = some ⟨oc_answer_exchange, od_answer_exchange, .func (PySem.W.fnOf "answer_exchange" "answer_exchange" (defArgs d_answer_exchange) (defBody d_answer_exchange) (defScope d_answer_exchange) .none kV_answer_exchange dc_answer_exchange pm_answer_exchange an_answer_exchange cd_answer_exchange ct_answer_exchange), sl_answer_exchange⟩)
    (c_answer_exchange : PySem.W.codeIn K cd_answer_exchange "answer_exchange" = true)
    (k_answer_exchange : PySem.W.keepIn K (.ref f_answer_exchange) = true)
    (a_answer_longer : PySem.W.nsIn K mainGlobals "answer_longer" = some (some (.ref f_answer_longer)))
    (l_answer_longer : K.lookup f_answer_longer = some ⟨oc_answer_longer, od_answer_longer, .func (PySem.W.fnOf "answer_longer" "answer_longer" (defArgs d_answer_longer) (defBody d_answer_longer) (defScope d_answer_longer) .none kV_answer_longer dc_answer_longer pm_answer_longer an_answer_longer cd_answer_longer ct_answer_longer), sl_answer_longer⟩)
    (c_answer_longer : PySem.W.codeIn K cd_answer_longer "answer_longer" = true)
    (k_answer_longer : PySem.W.keepIn K (.ref f_answer_longer) = true)
    (a_answer_idle : PySem.W.nsIn K mainGlobals "answer_idle" = some (some (.ref f_answer_idle)))
    (l_answer_idle : K.lookup f_answer_idle = some ⟨oc_answer_idle, od_answer_idle, .func (PySem.W.fnOf "answer_idle" "answer_idle" (defArgs d_answer_idle) (defBody d_answer_idle) (defScope d_answer_idle) .none kV_answer_idle dc_answer_idle pm_answer_idle an_answer_idle cd_answer_idle ct_answer_idle), sl_answer_idle⟩)
    (c_answer_idle : PySem.W.codeIn K cd_answer_idle "answer_idle" = true)
    (k_answer_idle : PySem.W.keepIn K (.ref f_answer_idle) = true)
    (a_answer_has : PySem.W.nsIn K mainGlobals "answer_has" = some (some (.ref f_answer_has)))
    (l_answer_has : K.lookup f_answer_has = some ⟨oc_answer_has, od_answer_has, .func (PySem.W.fnOf "answer_has" "answer_has" (defArgs d_answer_has) (defBody d_answer_has) (defScope d_answer_has) .none kV_answer_has dc_answer_has pm_answer_has an_answer_has cd_answer_has ct_answer_has), sl_answer_has⟩)
    (c_answer_has : PySem.W.codeIn K cd_answer_has "answer_has" = true)
    (k_answer_has : PySem.W.keepIn K (.ref f_answer_has) = true)
    (a_answer_sums : PySem.W.nsIn K mainGlobals "answer_sums" = some (some (.ref f_answer_sums)))
    (l_answer_sums : K.lookup f_answer_sums = some ⟨oc_answer_sums, od_answer_sums, .func (PySem.W.fnOf "answer_sums" "answer_sums" (defArgs d_answer_sums) (defBody d_answer_sums) (defScope d_answer_sums) .none kV_answer_sums dc_answer_sums pm_answer_sums an_answer_sums cd_answer_sums ct_answer_sums), sl_answer_sums⟩)
    (c_answer_sums : PySem.W.codeIn K cd_answer_sums "answer_sums" = true)
    (k_answer_sums : PySem.W.keepIn K (.ref f_answer_sums) = true)
    (a_answer_state : PySem.W.nsIn K mainGlobals "answer_state" = some (some (.ref f_answer_state)))
    (l_answer_state : K.lookup f_answer_state = some ⟨oc_answer_state, od_answer_state, .func (PySem.W.fnOf "answer_state" "answer_state" (defArgs d_answer_state) (defBody d_answer_state) (defScope d_answer_state) .none kV_answer_state dc_answer_state pm_answer_state an_answer_state cd_answer_state ct_answer_state), sl_answer_state⟩)
    (c_answer_state : PySem.W.codeIn K cd_answer_state "answer_state" = true)
    (k_answer_state : PySem.W.keepIn K (.ref f_answer_state) = true)
    (a_answer : PySem.W.nsIn K mainGlobals "answer" = some (some (.ref f_answer)))
    (l_answer : K.lookup f_answer = some ⟨oc_answer, od_answer, .func (PySem.W.fnOf "answer" "answer" (defArgs d_answer) (defBody d_answer) (defScope d_answer) .none kV_answer dc_answer pm_answer an_answer cd_answer ct_answer), sl_answer⟩)
    (c_answer : PySem.W.codeIn K cd_answer "answer" = true)
    (k_answer : PySem.W.keepIn K (.ref f_answer) = true)
    (a_answers : PySem.W.nsIn K mainGlobals "answers" = some (some (.ref f_answers)))
    (l_answers : K.lookup f_answers = some ⟨oc_answers, od_answers, .func (PySem.W.fnOf "answers" "answers" (defArgs d_answers) (defBody d_answers) (defScope d_answers) .none kV_answers dc_answers pm_answers an_answers cd_answers ct_answers), sl_answers⟩)
    (c_answers : PySem.W.codeIn K cd_answers "answers" = true)
    (k_answers : PySem.W.keepIn K (.ref f_answers) = true)
    (a_M_init : PySem.W.findIn K (.ref C) "__init__" = some (some (.ref f_M_init)))
    (i_M_init : PySem.W.isFn K (.ref f_M_init) = true)
    (l_M_init : K.lookup f_M_init = some ⟨oc_M_init, od_M_init, .func (PySem.W.fnOf "__init__" "Farm.__init__" (defArgs m_Farm_init) (defBody m_Farm_init) (defScope m_Farm_init) .none kV_M_init dc_M_init pm_M_init an_M_init cd_M_init ct_M_init), sl_M_init⟩)
    (c_M_init : PySem.W.codeIn K cd_M_init "Farm.__init__" = true)
    (k_M_init : PySem.W.keepIn K (.ref f_M_init) = true)
    (a_M_begin : PySem.W.findIn K (.ref C) "begin" = some (some (.ref f_M_begin)))
    (i_M_begin : PySem.W.isFn K (.ref f_M_begin) = true)
    (l_M_begin : K.lookup f_M_begin = some ⟨oc_M_begin, od_M_begin, .func (PySem.W.fnOf "begin" "Farm.begin" (defArgs m_Farm_begin) (defBody m_Farm_begin) (defScope m_Farm_begin) .none kV_M_begin dc_M_begin pm_M_begin an_M_begin cd_M_begin ct_M_begin), sl_M_begin⟩)
    (c_M_begin : PySem.W.codeIn K cd_M_begin "Farm.begin" = true)
    (k_M_begin : PySem.W.keepIn K (.ref f_M_begin) = true)
    (a_M_has_row : PySem.W.findIn K (.ref C) "has_row" = some (some (.ref f_M_has_row)))
    (i_M_has_row : PySem.W.isFn K (.ref f_M_has_row) = true)
    (l_M_has_row : K.lookup f_M_has_row = some ⟨oc_M_has_row, od_M_has_row, .func (PySem.W.fnOf "has_row" "Farm.has_row" (defArgs m_Farm_has_row) (defBody m_Farm_has_row) (defScope m_Farm_has_row) .none kV_M_has_row dc_M_has_row pm_M_has_row an_M_has_row cd_M_has_row ct_M_has_row), sl_M_has_row⟩)
    (c_M_has_row : PySem.W.codeIn K cd_M_has_row "Farm.has_row" = true)
    (k_M_has_row : PySem.W.keepIn K (.ref f_M_has_row) = true)
    (a_M_change : PySem.W.findIn K (.ref C) "change" = some (some (.ref f_M_change)))
    (i_M_change : PySem.W.isFn K (.ref f_M_change) = true)
    (l_M_change : K.lookup f_M_change = some ⟨oc_M_change, od_M_change, .func (PySem.W.fnOf "change" "Farm.change" (defArgs m_Farm_change) (defBody m_Farm_change) (defScope m_Farm_change) .none kV_M_change dc_M_change pm_M_change an_M_change cd_M_change ct_M_change), sl_M_change⟩)
    (c_M_change : PySem.W.codeIn K cd_M_change "Farm.change" = true)
    (k_M_change : PySem.W.keepIn K (.ref f_M_change) = true)
    (a_M_take_back : PySem.W.findIn K (.ref C) "take_back" = some (some (.ref f_M_take_back)))
    (i_M_take_back : PySem.W.isFn K (.ref f_M_take_back) = true)
    (l_M_take_back : K.lookup f_M_take_back = some ⟨oc_M_take_back, od_M_take_back, .func (PySem.W.fnOf "take_back" "Farm.take_back" (defArgs m_Farm_take_back) (defBody m_Farm_take_back) (defScope m_Farm_take_back) .none kV_M_take_back dc_M_take_back pm_M_take_back an_M_take_back cd_M_take_back ct_M_take_back), sl_M_take_back⟩)
    (c_M_take_back : PySem.W.codeIn K cd_M_take_back "Farm.take_back" = true)
    (k_M_take_back : PySem.W.keepIn K (.ref f_M_take_back) = true)
    (a_M_has_picker : PySem.W.findIn K (.ref C) "has_picker" = some (some (.ref f_M_has_picker)))
    (i_M_has_picker : PySem.W.isFn K (.ref f_M_has_picker) = true)
    (l_M_has_picker : K.lookup f_M_has_picker = some ⟨oc_M_has_picker, od_M_has_picker, .func (PySem.W.fnOf "has_picker" "Farm.has_picker" (defArgs m_Farm_has_picker) (defBody m_Farm_has_picker) (defScope m_Farm_has_picker) .none kV_M_has_picker dc_M_has_picker pm_M_has_picker an_M_has_picker cd_M_has_picker ct_M_has_picker), sl_M_has_picker⟩)
    (c_M_has_picker : PySem.W.codeIn K cd_M_has_picker "Farm.has_picker" = true)
    (k_M_has_picker : PySem.W.keepIn K (.ref f_M_has_picker) = true)
    (pg : PySem.W.plainGet K C Str.empty = true)
    (hd : PySem.W.hasDictIn K C = true)
    (po : PySem.W.plainOver K C = true)
    (sa : PySem.W.findIn K (.ref C) "__setattr__" = some (some (.builtin "object.__setattr__")))
    (mk : PySem.W.makesIn K C = true)
    (kc : PySem.W.keepIn K (.ref C) = true)
    (n_begun : PySem.W.findIn K (.ref C) "begun" = some none)
    (n_pickers : PySem.W.findIn K (.ref C) "pickers" = some none)
    (n_rows : PySem.W.findIn K (.ref C) "rows" = some none)
    (n_past : PySem.W.findIn K (.ref C) "past" = some none)
    (v_NONE_SUCH : PySem.W.nsIn K mainGlobals "NONE_SUCH" = some (some (.int (-2) t_NONE_SUCH)))
    (v_ALREADY_SO : PySem.W.nsIn K mainGlobals "ALREADY_SO" = some (some (.int (-17) t_ALREADY_SO)))
    (v_OUT_OF_BOUNDS : PySem.W.nsIn K mainGlobals "OUT_OF_BOUNDS" = some (some (.int (-22) t_OUT_OF_BOUNDS)))
    (v_FULL : PySem.W.nsIn K mainGlobals "FULL" = some (some (.int (-28) t_FULL)))
    (v_TOO_LONG : PySem.W.nsIn K mainGlobals "TOO_LONG" = some (some (.int (-33) t_TOO_LONG)))
    (v_NOT_BEGUN : PySem.W.nsIn K mainGlobals "NOT_BEGUN" = some (some (.int (-61) t_NOT_BEGUN)))
    (v_MOST_ROWS : PySem.W.nsIn K mainGlobals "MOST_ROWS" = some (some (.int 14 t_MOST_ROWS)))
    (v_MOST_MINUTES : PySem.W.nsIn K mainGlobals "MOST_MINUTES" = some (some (.int 100 t_MOST_MINUTES)))
    (v_MOST_PICKERS : PySem.W.nsIn K mainGlobals "MOST_PICKERS" = some (some (.int 6 t_MOST_PICKERS)))
    (v_CHANGES_KEPT : PySem.W.nsIn K mainGlobals "CHANGES_KEPT" = some (some (.int 10 t_CHANGES_KEPT)))
    (v_BEGIN : PySem.W.nsIn K mainGlobals "BEGIN" = some (some (.int 0 t_BEGIN)))
    (v_TOLD : PySem.W.nsIn K mainGlobals "TOLD" = some (some (.int 9 t_TOLD)))
    (z_len : PySem.W.nsIn K mainGlobals "len" = some none)
    (z_sum : PySem.W.nsIn K mainGlobals "sum" = some none)
    (z_max : PySem.W.nsIn K mainGlobals "max" = some none)
    (aT : PySem.W.nsIn K mainGlobals "ANSWERERS" = some (some (.ref tT)))
    (lT : K.lookup tT = some ⟨.type "tuple", dT, .seq #[.ref f_answer_begin, .ref f_answer_row, .ref f_answer_out, .ref f_answer_minutes, .ref f_answer_pickers, .ref f_answer_back, .ref f_answer_least, .ref f_answer_plan, .ref f_answer_who, .ref f_answer_told, .ref f_answer_fewest, .ref f_answer_if_pickers, .ref f_answer_more, .ref f_answer_first, .ref f_answer_without, .ref f_answer_exchange, .ref f_answer_longer, .ref f_answer_idle, .ref f_answer_has, .ref f_answer_sums, .ref f_answer_state] nT, slT⟩)
    (aK : PySem.W.nsIn K mainGlobals "COUNTS" = some (some (.ref tC)))
    (lK : K.lookup tC = some ⟨.type "tuple", dC, .seq #[.int 1 u0, .int 1 u1, .int 1 u2, .int 2 u3, .int 1 u4, .int 0 u5, .int 0 u6, .int 0 u7, .int 1 u8, .int 0 u9, .int 1 u10, .int 1 u11, .int 1 u12, .int 1 u13, .int 1 u14, .int 1 u15, .int 1 u16, .int 0 u17, .int 1 u18, .int 0 u19, .int 0 u20] nC, slC⟩)
    : ∃ fd : FuncData, (∀ (s : Shared) (us : List Value), us.length = (["calls"] : List Str).length → BindsTo s fd ⟨us, []⟩ ((["calls"] : List Str).zip us)) ∧ ∀ base : Heap, K.In base → base.Ns mainGlobals mg → FnOk P w K mg base CX0 6 fa fd ["calls"] (spAll K) := by
  have e := hfa.symm.trans (PySem.W.mg_of X G a_answers)
  cases e
  have T : Txt K mg C := { cl := ⟨pg, hd, po, sa⟩, nB := n_begun, nP := n_pickers, nR := n_rows, nU := n_past, mgC := PySem.W.mg_of X G aC, none_such := ⟨_, PySem.W.mg_of X G v_NONE_SUCH⟩, already_so := ⟨_, PySem.W.mg_of X G v_ALREADY_SO⟩, out_of_bounds := ⟨_, PySem.W.mg_of X G v_OUT_OF_BOUNDS⟩, full := ⟨_, PySem.W.mg_of X G v_FULL⟩, too_long := ⟨_, PySem.W.mg_of X G v_TOO_LONG⟩, not_begun := ⟨_, PySem.W.mg_of X G v_NOT_BEGUN⟩, most_rows := ⟨_, PySem.W.mg_of X G v_MOST_ROWS⟩, most_minutes := ⟨_, PySem.W.mg_of X G v_MOST_MINUTES⟩, most_pickers := ⟨_, PySem.W.mg_of X G v_MOST_PICKERS⟩, changes_kept := ⟨_, PySem.W.mg_of X G v_CHANGES_KEPT⟩, begin_ := ⟨_, PySem.W.mg_of X G v_BEGIN⟩, glo := ⟨PySem.W.mg_none_of X G z_len, PySem.W.mg_none_of X G z_sum, PySem.W.mg_none_of X G z_max⟩ }
  have F_given_out := fun_mk (st := d_given_out) l_given_out c_given_out k_given_out
  have b_given_out := F_given_out.binds (ps := ["rows", "limit"]) fun _ _ _ _ _ _ us hl => match us, hl with | [_, _], _ => rfl
  have g_given_out := PySem.W.mg_of X G a_given_out
  have F_longest := fun_mk (st := d_longest) l_longest c_longest k_longest
  have b_longest := F_longest.binds (ps := ["rows"]) fun _ _ _ _ _ _ us hl => match us, hl with | [_], _ => rfl
  have g_longest := PySem.W.mg_of X G a_longest
  have F_how_little := fun_mk (st := d_how_little) l_how_little c_how_little k_how_little
  have b_how_little := F_how_little.binds (ps := ["rows", "pickers"]) fun _ _ _ _ _ _ us hl => match us, hl with | [_, _], _ => rfl
  have g_how_little := PySem.W.mg_of X G a_how_little
  have F_planned := fun_mk (st := d_planned) l_planned c_planned k_planned
  have b_planned := F_planned.binds (ps := ["rows", "pickers"]) fun _ _ _ _ _ _ us hl => match us, hl with | [_, _], _ => rfl
  have g_planned := PySem.W.mg_of X G a_planned
  have F_picker_of := fun_mk (st := d_picker_of) l_picker_of c_picker_of k_picker_of
  have b_picker_of := F_picker_of.binds (ps := ["shares", "i"]) fun _ _ _ _ _ _ us hl => match us, hl with | [_, _], _ => rfl
  have g_picker_of := PySem.W.mg_of X G a_picker_of
  have F_most_minutes := fun_mk (st := d_most_minutes) l_most_minutes c_most_minutes k_most_minutes
  have b_most_minutes := F_most_minutes.binds (ps := ["rows", "shares"]) fun _ _ _ _ _ _ us hl => match us, hl with | [_, _], _ => rfl
  have g_most_minutes := PySem.W.mg_of X G a_most_minutes
  have F_rows_of := fun_mk (st := d_rows_of) l_rows_of c_rows_of k_rows_of
  have b_rows_of := F_rows_of.binds (ps := ["rows", "shares", "picker"]) fun _ _ _ _ _ _ us hl => match us, hl with | [_, _, _], _ => rfl
  have g_rows_of := PySem.W.mg_of X G a_rows_of
  have F_rows_without := fun_mk (st := d_rows_without) l_rows_without c_rows_without k_rows_without
  have b_rows_without := F_rows_without.binds (ps := ["rows", "i"]) fun _ _ _ _ _ _ us hl => match us, hl with | [_, _], _ => rfl
  have g_rows_without := PySem.W.mg_of X G a_rows_without
  have F_rows_set := fun_mk (st := d_rows_set) l_rows_set c_rows_set k_rows_set
  have b_rows_set := F_rows_set.binds (ps := ["rows", "i", "minutes"]) fun _ _ _ _ _ _ us hl => match us, hl with | [_, _, _], _ => rfl
  have g_rows_set := PySem.W.mg_of X G a_rows_set
  have F_rows_exchanged := fun_mk (st := d_rows_exchanged) l_rows_exchanged c_rows_exchanged k_rows_exchanged
  have b_rows_exchanged := F_rows_exchanged.binds (ps := ["rows", "i"]) fun _ _ _ _ _ _ us hl => match us, hl with | [_, _], _ => rfl
  have g_rows_exchanged := PySem.W.mg_of X G a_rows_exchanged
  have F_how_much_longer := fun_mk (st := d_how_much_longer) l_how_much_longer c_how_much_longer k_how_much_longer
  have b_how_much_longer := F_how_much_longer.binds (ps := ["rows", "pickers", "i"]) fun _ _ _ _ _ _ us hl => match us, hl with | [_, _, _], _ => rfl
  have g_how_much_longer := PySem.W.mg_of X G a_how_much_longer
  have F_are_minutes := fun_mk (st := d_are_minutes) l_are_minutes c_are_minutes k_are_minutes
  have b_are_minutes := F_are_minutes.binds (ps := ["n"]) fun _ _ _ _ _ _ us hl => match us, hl with | [_], _ => rfl
  have g_are_minutes := PySem.W.mg_of X G a_are_minutes
  have F_are_pickers := fun_mk (st := d_are_pickers) l_are_pickers c_are_pickers k_are_pickers
  have b_are_pickers := F_are_pickers.binds (ps := ["k"]) fun _ _ _ _ _ _ us hl => match us, hl with | [_], _ => rfl
  have g_are_pickers := PySem.W.mg_of X G a_are_pickers
  have F_answer_begin := fun_mk (st := d_answer_begin) l_answer_begin c_answer_begin k_answer_begin
  have b_answer_begin := F_answer_begin.binds (ps := ["farm", "numbers"]) fun _ _ _ _ _ _ us hl => match us, hl with | [_, _], _ => rfl
  have F_answer_row := fun_mk (st := d_answer_row) l_answer_row c_answer_row k_answer_row
  have b_answer_row := F_answer_row.binds (ps := ["farm", "numbers"]) fun _ _ _ _ _ _ us hl => match us, hl with | [_, _], _ => rfl
  have F_answer_out := fun_mk (st := d_answer_out) l_answer_out c_answer_out k_answer_out
  have b_answer_out := F_answer_out.binds (ps := ["farm", "numbers"]) fun _ _ _ _ _ _ us hl => match us, hl with | [_, _], _ => rfl
  have F_answer_minutes := fun_mk (st := d_answer_minutes) l_answer_minutes c_answer_minutes k_answer_minutes
  have b_answer_minutes := F_answer_minutes.binds (ps := ["farm", "numbers"]) fun _ _ _ _ _ _ us hl => match us, hl with | [_, _], _ => rfl
  have F_answer_pickers := fun_mk (st := d_answer_pickers) l_answer_pickers c_answer_pickers k_answer_pickers
  have b_answer_pickers := F_answer_pickers.binds (ps := ["farm", "numbers"]) fun _ _ _ _ _ _ us hl => match us, hl with | [_, _], _ => rfl
  have F_answer_back := fun_mk (st := d_answer_back) l_answer_back c_answer_back k_answer_back
  have b_answer_back := F_answer_back.binds (ps := ["farm", "numbers"]) fun _ _ _ _ _ _ us hl => match us, hl with | [_, _], _ => rfl
  have F_answer_least := fun_mk (st := d_answer_least) l_answer_least c_answer_least k_answer_least
  have b_answer_least := F_answer_least.binds (ps := ["farm", "numbers"]) fun _ _ _ _ _ _ us hl => match us, hl with | [_, _], _ => rfl
  have F_answer_plan := fun_mk (st := d_answer_plan) l_answer_plan c_answer_plan k_answer_plan
  have b_answer_plan := F_answer_plan.binds (ps := ["farm", "numbers"]) fun _ _ _ _ _ _ us hl => match us, hl with | [_, _], _ => rfl
  have F_answer_who := fun_mk (st := d_answer_who) l_answer_who c_answer_who k_answer_who
  have b_answer_who := F_answer_who.binds (ps := ["farm", "numbers"]) fun _ _ _ _ _ _ us hl => match us, hl with | [_, _], _ => rfl
  have F_answer_told := fun_mk (st := d_answer_told) l_answer_told c_answer_told k_answer_told
  have b_answer_told := F_answer_told.binds (ps := ["farm", "shares"]) fun _ _ _ _ _ _ us hl => match us, hl with | [_, _], _ => rfl
  have F_answer_fewest := fun_mk (st := d_answer_fewest) l_answer_fewest c_answer_fewest k_answer_fewest
  have b_answer_fewest := F_answer_fewest.binds (ps := ["farm", "numbers"]) fun _ _ _ _ _ _ us hl => match us, hl with | [_, _], _ => rfl
  have F_answer_if_pickers := fun_mk (st := d_answer_if_pickers) l_answer_if_pickers c_answer_if_pickers k_answer_if_pickers
  have b_answer_if_pickers := F_answer_if_pickers.binds (ps := ["farm", "numbers"]) fun _ _ _ _ _ _ us hl => match us, hl with | [_, _], _ => rfl
  have F_answer_more := fun_mk (st := d_answer_more) l_answer_more c_answer_more k_answer_more
  have b_answer_more := F_answer_more.binds (ps := ["farm", "numbers"]) fun _ _ _ _ _ _ us hl => match us, hl with | [_, _], _ => rfl
  have F_answer_first := fun_mk (st := d_answer_first) l_answer_first c_answer_first k_answer_first
  have b_answer_first := F_answer_first.binds (ps := ["farm", "numbers"]) fun _ _ _ _ _ _ us hl => match us, hl with | [_, _], _ => rfl
  have F_answer_without := fun_mk (st := d_answer_without) l_answer_without c_answer_without k_answer_without
  have b_answer_without := F_answer_without.binds (ps := ["farm", "numbers"]) fun _ _ _ _ _ _ us hl => match us, hl with | [_, _], _ => rfl
  have F_answer_exchange := fun_mk (st := d_answer_exchange) l_answer_exchange c_answer_exchange k_answer_exchange
  have b_answer_exchange := F_answer_exchange.binds (ps := ["farm", "numbers"]) fun _ _ _ _ _ _ us hl => match us, hl with | [_, _], _ => rfl
  have F_answer_longer := fun_mk (st := d_answer_longer) l_answer_longer c_answer_longer k_answer_longer
  have b_answer_longer := F_answer_longer.binds (ps := ["farm", "numbers"]) fun _ _ _ _ _ _ us hl => match us, hl with | [_, _], _ => rfl
  have F_answer_idle := fun_mk (st := d_answer_idle) l_answer_idle c_answer_idle k_answer_idle
  have b_answer_idle := F_answer_idle.binds (ps := ["farm", "numbers"]) fun _ _ _ _ _ _ us hl => match us, hl with | [_, _], _ => rfl
  have F_answer_has := fun_mk (st := d_answer_has) l_answer_has c_answer_has k_answer_has
  have b_answer_has := F_answer_has.binds (ps := ["farm", "numbers"]) fun _ _ _ _ _ _ us hl => match us, hl with | [_, _], _ => rfl
  have F_answer_sums := fun_mk (st := d_answer_sums) l_answer_sums c_answer_sums k_answer_sums
  have b_answer_sums := F_answer_sums.binds (ps := ["farm", "numbers"]) fun _ _ _ _ _ _ us hl => match us, hl with | [_, _], _ => rfl
  have F_answer_state := fun_mk (st := d_answer_state) l_answer_state c_answer_state k_answer_state
  have b_answer_state := F_answer_state.binds (ps := ["farm", "numbers"]) fun _ _ _ _ _ _ us hl => match us, hl with | [_, _], _ => rfl
  have F_answer := fun_mk (st := d_answer) l_answer c_answer k_answer
  have b_answer := F_answer.binds (ps := ["farm", "call", "numbers"]) fun _ _ _ _ _ _ us hl => match us, hl with | [_, _, _], _ => rfl
  have g_answer := PySem.W.mg_of X G a_answer
  have F_answers := fun_mk (st := d_answers) l_answers c_answers k_answers
  have g_answers := PySem.W.mg_of X G a_answers
  have F_M_init := fun_mk (st := m_Farm_init) l_M_init c_M_init k_M_init
  have b_M_init := F_M_init.binds (ps := ["self"]) fun _ _ _ _ _ _ us hl => match us, hl with | [_], _ => rfl
  have F_M_begin := fun_mk (st := m_Farm_begin) l_M_begin c_M_begin k_M_begin
  have b_M_begin := F_M_begin.binds (ps := ["self", "pickers"]) fun _ _ _ _ _ _ us hl => match us, hl with | [_, _], _ => rfl
  have F_M_has_row := fun_mk (st := m_Farm_has_row) l_M_has_row c_M_has_row k_M_has_row
  have b_M_has_row := F_M_has_row.binds (ps := ["self", "i"]) fun _ _ _ _ _ _ us hl => match us, hl with | [_, _], _ => rfl
  have F_M_change := fun_mk (st := m_Farm_change) l_M_change c_M_change k_M_change
  have b_M_change := F_M_change.binds (ps := ["self", "rows", "pickers"]) fun _ _ _ _ _ _ us hl => match us, hl with | [_, _, _], _ => rfl
  have F_M_take_back := fun_mk (st := m_Farm_take_back) l_M_take_back c_M_take_back k_M_take_back
  have b_M_take_back := F_M_take_back.binds (ps := ["self"]) fun _ _ _ _ _ _ us hl => match us, hl with | [_], _ => rfl
  have F_M_has_picker := fun_mk (st := m_Farm_has_picker) l_M_has_picker c_M_has_picker k_M_has_picker
  have b_M_has_picker := F_M_has_picker.binds (ps := ["self", "p"]) fun _ _ _ _ _ _ us hl => match us, hl with | [_, _], _ => rfl
  have R : Rows K mg := ⟨⟨_, PySem.W.mg_of X G v_TOLD⟩, tC, PySem.W.mg_of X G aK, fun H => .inr ⟨_, _, _, lK, rfl, rfl, (by show 21 ≤ sizeLine; decide), .cons ⟨_, rfl⟩ (.cons ⟨_, rfl⟩ (.cons ⟨_, rfl⟩ (.cons ⟨_, rfl⟩ (.cons ⟨_, rfl⟩ (.cons ⟨_, rfl⟩ (.cons ⟨_, rfl⟩ (.cons ⟨_, rfl⟩ (.cons ⟨_, rfl⟩ (.cons ⟨_, rfl⟩ (.cons ⟨_, rfl⟩ (.cons ⟨_, rfl⟩ (.cons ⟨_, rfl⟩ (.cons ⟨_, rfl⟩ (.cons ⟨_, rfl⟩ (.cons ⟨_, rfl⟩ (.cons ⟨_, rfl⟩ (.cons ⟨_, rfl⟩ (.cons ⟨_, rfl⟩ (.cons ⟨_, rfl⟩ (.cons ⟨_, rfl⟩ (.nil)))))))))))))))))))))⟩⟩
  refine ⟨PySem.W.fnOf "answers" "answers" (defArgs d_answers) (defBody d_answers) (defScope d_answers) .none kV_answers dc_answers pm_answers an_answers cd_answers ct_answers, fun s us hu => match us, hu with | [_], _ => .of_eq rfl, fun base _ _ => ?_⟩
  have D_given_out : Dn P w K mg base 1 "given_out" ["rows", "limit"] (spGiven K) := Dn.of F_given_out (ok_given F_given_out T.glo) g_given_out b_given_out
  have D_longest : Dn P w K mg base 1 "longest" ["rows"] (spLongest K) := Dn.of F_longest (ok_longest F_longest T.glo) g_longest b_longest
  have D_how_little : Dn P w K mg base 2 "how_little" ["rows", "pickers"] (spLittle K) := Dn.of F_how_little (ok_little F_how_little T.glo D_given_out D_longest) g_how_little b_how_little
  have D_planned : Dn P w K mg base 3 "planned" ["rows", "pickers"] (spPlanned K) := Dn.of F_planned (ok_planned F_planned T.glo D_given_out D_how_little) g_planned b_planned
  have D_picker_of : Dn P w K mg base 1 "picker_of" ["shares", "i"] (spPicker K) := Dn.of F_picker_of (ok_picker F_picker_of) g_picker_of b_picker_of
  have D_most_minutes : Dn P w K mg base 1 "most_minutes" ["rows", "shares"] (spMost K) := Dn.of F_most_minutes (ok_most F_most_minutes T.glo) g_most_minutes b_most_minutes
  have D_rows_of : Dn P w K mg base 1 "rows_of" ["rows", "shares", "picker"] (spOf K) := Dn.of F_rows_of (ok_of F_rows_of T.glo) g_rows_of b_rows_of
  have D_rows_without : Dn P w K mg base 1 "rows_without" ["rows", "i"] (spWithout K) := Dn.of F_rows_without (ok_without F_rows_without) g_rows_without b_rows_without
  have D_rows_set : Dn P w K mg base 1 "rows_set" ["rows", "i", "minutes"] (spSet K) := Dn.of F_rows_set (ok_set F_rows_set) g_rows_set b_rows_set
  have D_rows_exchanged : Dn P w K mg base 1 "rows_exchanged" ["rows", "i"] (spSwap K) := Dn.of F_rows_exchanged (ok_swap F_rows_exchanged) g_rows_exchanged b_rows_exchanged
  have D_how_much_longer : Dn P w K mg base 3 "how_much_longer" ["rows", "pickers", "i"] (spMuch K) := Dn.of F_how_much_longer (ok_much F_how_much_longer T.glo D_given_out D_how_little D_rows_set) g_how_much_longer b_how_much_longer
  have D_are_minutes : Dn P w K mg base 1 "are_minutes" ["n"] (spOkM) := Dn.of F_are_minutes (ok_areM F_are_minutes T) g_are_minutes b_are_minutes
  have D_are_pickers : Dn P w K mg base 1 "are_pickers" ["k"] (spOkP) := Dn.of F_are_pickers (ok_areP F_are_pickers T) g_are_pickers b_are_pickers
  have D_M_begin : Mt P w K mg base C 1 "begin" ["self", "pickers"] (spBegin C) := ⟨f_M_begin, _, ok_begin F_M_begin T, ⟨a_M_begin, i_M_begin, k_M_begin⟩, b_M_begin⟩
  have D_M_has_row : Mt P w K mg base C 1 "has_row" ["self", "i"] (spHas C) := ⟨f_M_has_row, _, ok_has F_M_has_row T, ⟨a_M_has_row, i_M_has_row, k_M_has_row⟩, b_M_has_row⟩
  have D_M_change : Mt P w K mg base C 1 "change" ["self", "rows", "pickers"] (spChange C) := ⟨f_M_change, _, ok_change F_M_change T, ⟨a_M_change, i_M_change, k_M_change⟩, b_M_change⟩
  have D_M_take_back : Mt P w K mg base C 1 "take_back" ["self"] (spBack C) := ⟨f_M_take_back, _, ok_back F_M_take_back T, ⟨a_M_take_back, i_M_take_back, k_M_take_back⟩, b_M_take_back⟩
  have D_M_has_picker : Mt P w K mg base C 1 "has_picker" ["self", "p"] (spHasP C) := ⟨f_M_has_picker, _, ok_hasP F_M_has_picker T, ⟨a_M_has_picker, i_M_has_picker, k_M_has_picker⟩, b_M_has_picker⟩
  have L : Lib P w K mg base C := { txt := T, given := D_given_out, longest := D_longest, little := D_how_little, planned := D_planned, picker := D_picker_of, most := D_most_minutes, rOf := D_rows_of, rWithout := D_rows_without, rSet := D_rows_set, rSwap := D_rows_exchanged, much := D_how_much_longer, areM := D_are_minutes, areP := D_are_pickers, mBegin := D_M_begin, mHas := D_M_has_row, mChange := D_M_change, mBack := D_M_take_back, mHasP := D_M_has_picker }
  have TB : Tab P w K mg base C 21 4 := by
    refine ⟨tT, [f_answer_begin, f_answer_row, f_answer_out, f_answer_minutes, f_answer_pickers, f_answer_back, f_answer_least, f_answer_plan, f_answer_who, f_answer_told, f_answer_fewest, f_answer_if_pickers, f_answer_more, f_answer_first, f_answer_without, f_answer_exchange, f_answer_longer, f_answer_idle, f_answer_has, f_answer_sums, f_answer_state], PySem.W.mg_of X G aT, fun H => .inr ⟨_, _, _, lT, rfl, rfl, (by show 21 ≤ sizeLine; decide), .cons rfl (.cons rfl (.cons rfl (.cons rfl (.cons rfl (.cons rfl (.cons rfl (.cons rfl (.cons rfl (.cons rfl (.cons rfl (.cons rfl (.cons rfl (.cons rfl (.cons rfl (.cons rfl (.cons rfl (.cons rfl (.cons rfl (.cons rfl (.cons rfl (.nil)))))))))))))))))))))⟩, fun c hc => ?_⟩
    match c, hc with
    | 0, _ => exact ⟨f_answer_begin, _, _, rfl, ok_aBegin F_answer_begin L, k_answer_begin, b_answer_begin⟩
    | 1, _ => exact ⟨f_answer_row, _, _, rfl, ok_aRow F_answer_row L, k_answer_row, b_answer_row⟩
    | 2, _ => exact ⟨f_answer_out, _, _, rfl, ok_aOut F_answer_out L, k_answer_out, b_answer_out⟩
    | 3, _ => exact ⟨f_answer_minutes, _, _, rfl, ok_aMinutes F_answer_minutes L, k_answer_minutes, b_answer_minutes⟩
    | 4, _ => exact ⟨f_answer_pickers, _, _, rfl, ok_aPickers F_answer_pickers L, k_answer_pickers, b_answer_pickers⟩
    | 5, _ => exact ⟨f_answer_back, _, _, rfl, ok_aBack F_answer_back L, k_answer_back, b_answer_back⟩
    | 6, _ => exact ⟨f_answer_least, _, _, rfl, ok_aLeast F_answer_least L, k_answer_least, b_answer_least⟩
    | 7, _ => exact ⟨f_answer_plan, _, _, rfl, ok_aPlan F_answer_plan L, k_answer_plan, b_answer_plan⟩
    | 8, _ => exact ⟨f_answer_who, _, _, rfl, ok_aWho F_answer_who L, k_answer_who, b_answer_who⟩
    | 9, _ => exact ⟨f_answer_told, _, _, rfl, ok_aTold F_answer_told L, k_answer_told, b_answer_told⟩
    | 10, _ => exact ⟨f_answer_fewest, _, _, rfl, ok_aFewest F_answer_fewest L, k_answer_fewest, b_answer_fewest⟩
    | 11, _ => exact ⟨f_answer_if_pickers, _, _, rfl, ok_aIf F_answer_if_pickers L, k_answer_if_pickers, b_answer_if_pickers⟩
    | 12, _ => exact ⟨f_answer_more, _, _, rfl, ok_aMore F_answer_more L, k_answer_more, b_answer_more⟩
    | 13, _ => exact ⟨f_answer_first, _, _, rfl, ok_aFirst F_answer_first L, k_answer_first, b_answer_first⟩
    | 14, _ => exact ⟨f_answer_without, _, _, rfl, ok_aWithout F_answer_without L, k_answer_without, b_answer_without⟩
    | 15, _ => exact ⟨f_answer_exchange, _, _, rfl, ok_aExchange F_answer_exchange L, k_answer_exchange, b_answer_exchange⟩
    | 16, _ => exact ⟨f_answer_longer, _, _, rfl, ok_aLonger F_answer_longer L, k_answer_longer, b_answer_longer⟩
    | 17, _ => exact ⟨f_answer_idle, _, _, rfl, ok_aIdle F_answer_idle L, k_answer_idle, b_answer_idle⟩
    | 18, _ => exact ⟨f_answer_has, _, _, rfl, ok_aHas F_answer_has L, k_answer_has, b_answer_has⟩
    | 19, _ => exact ⟨f_answer_sums, _, _, rfl, ok_aSums F_answer_sums L, k_answer_sums, b_answer_sums⟩
    | 20, _ => exact ⟨f_answer_state, _, _, rfl, ok_aState F_answer_state L, k_answer_state, b_answer_state⟩
    | n + 21, h => exact absurd h (by omega)
  have DA : Dn P w K mg base 5 "answer" ["farm", "call", "numbers"] (spAnswer K C 21) := Dn.of F_answer (ok_answer F_answer T TB) g_answer b_answer
  exact ok_answers F_answers T R ⟨mk, a_M_init, i_M_init, kc⟩ (ok_init F_M_init T) b_M_init DA (by decide)
end Rs
open PySem PySem.W PyProof.Rows
set_option maxRecDepth 100000 in
set_option maxHeartbeats 0 in
theorem PySem.Challenge.cw_rowshares_s01_answers_holds : PySem.Challenge.rw_rowshares_s01_answers.Holds := by
  w_on; k_headS; (case hw => exact ⟨[.list [.int 5]], by decide +kernel, by decide +kernel⟩)
  k_fillS
  refine L2.walk_specK (r := PySem.Challenge.rw_rowshares_s01_answers) (k := 6) (CX := L2.CX0) (ps := ["calls"]) (sp := Rs.spAll) (by decide +kernel) rfl rfl ⟨rfl, by decide, by decide⟩ (fun w h Y => PySem.W.kIn_of Y) ?F ?S (fun _ _ _ _ z => z)
  case F =>
    intro w mg fa h Y KX G hmg
    refine' Rs.all_mk KX G hmg ?aC ?a_given_out ?l_given_out ?c_given_out ?k_given_out ?a_longest ?l_longest ?c_longest ?k_longest ?a_how_little ?l_how_little ?c_how_little ?k_how_little ?a_planned ?l_planned ?c_planned ?k_planned ?a_picker_of ?l_picker_of ?c_picker_of ?k_picker_of ?a_most_minutes ?l_most_minutes ?c_most_minutes ?k_most_minutes ?a_rows_of ?l_rows_of ?c_rows_of ?k_rows_of ?a_rows_without ?l_rows_without ?c_rows_without ?k_rows_without ?a_rows_set ?l_rows_set ?c_rows_set ?k_rows_set ?a_rows_exchanged ?l_rows_exchanged ?c_rows_exchanged ?k_rows_exchanged ?a_how_much_longer ?l_how_much_longer ?c_how_much_longer ?k_how_much_longer ?a_are_minutes ?l_are_minutes ?c_are_minutes ?k_are_minutes ?a_are_pickers ?l_are_pickers ?c_are_pickers ?k_are_pickers ?a_answer_begin ?l_answer_begin ?c_answer_begin ?k_answer_begin ?a_answer_row ?l_answer_row ?c_answer_row ?k_answer_row ?a_answer_out ?l_answer_out ?c_answer_out ?k_answer_out ?a_answer_minutes ?l_answer_minutes ?c_answer_minutes ?k_answer_minutes ?a_answer_pickers ?l_answer_pickers ?c_answer_pickers ?k_answer_pickers ?a_answer_back ?l_answer_back ?c_answer_back ?k_answer_back ?a_answer_least ?l_answer_least ?c_answer_least ?k_answer_least ?a_answer_plan ?l_answer_plan ?c_answer_plan ?k_answer_plan ?a_answer_who ?l_answer_who ?c_answer_who ?k_answer_who ?a_answer_told ?l_answer_told ?c_answer_told ?k_answer_told ?a_answer_fewest ?l_answer_fewest ?c_answer_fewest ?k_answer_fewest ?a_answer_if_pickers ?l_answer_if_pickers ?c_answer_if_pickers ?k_answer_if_pickers ?a_answer_more ?l_answer_more ?c_answer_more ?k_answer_more ?a_answer_first ?l_answer_first ?c_answer_first ?k_answer_first ?a_answer_without ?l_answer_without ?c_answer_without ?k_answer_without ?a_answer_exchange ?l_answer_exchange ?c_answer_exchange ?k_answer_exchange ?a_answer_longer ?l_answer_longer ?c_answer_longer ?k_answer_longer ?a_answer_idle ?l_answer_idle ?c_answer_idle ?k_answer_idle ?a_answer_has ?l_answer_has ?c_answer_has ?k_answer_has ?a_answer_sums ?l_answer_sums ?c_answer_sums ?k_answer_sums ?a_answer_state ?l_answer_state ?c_answer_state ?k_answer_state ?a_answer ?l_answer ?c_answer ?k_answer ?a_answers ?l_answers ?c_answers ?k_answers ?a_M_init ?i_M_init ?l_M_init ?c_M_init ?k_M_init ?a_M_begin ?i_M_begin ?l_M_begin ?c_M_begin ?k_M_begin ?a_M_has_row ?i_M_has_row ?l_M_has_row ?c_M_has_row ?k_M_has_row ?a_M_change ?i_M_change ?l_M_change ?c_M_change ?k_M_change ?a_M_take_back ?i_M_take_back ?l_M_take_back ?c_M_take_back ?k_M_take_back ?a_M_has_picker ?i_M_has_picker ?l_M_has_picker ?c_M_has_picker ?k_M_has_picker ?pg ?hd ?po ?sa ?mk ?kc ?n_begun ?n_pickers ?n_rows ?n_past ?v_NONE_SUCH ?v_ALREADY_SO ?v_OUT_OF_BOUNDS ?v_FULL ?v_TOO_LONG ?v_NOT_BEGUN ?v_MOST_ROWS ?v_MOST_MINUTES ?v_MOST_PICKERS ?v_CHANGES_KEPT ?v_BEGIN ?v_TOLD ?z_len ?z_sum ?z_max ?aT ?lT ?aK ?lK
    (case aC => k_is)
    (case a_given_out => k_is)
    (case l_given_out => k_is)
    (case c_given_out => k_is)
    (case k_given_out => k_is)
    (case a_longest => k_is)
    (case l_longest => k_is)
    (case c_longest => k_is)
    (case k_longest => k_is)
    (case a_how_little => k_is)
    (case l_how_little => k_is)
    (case c_how_little => k_is)
    (case k_how_little => k_is)
    (case a_planned => k_is)
    (case l_planned => k_is)
    (case c_planned => k_is)
    (case k_planned => k_is)
    (case a_picker_of => k_is)
    (case l_picker_of => k_is)
    (case c_picker_of => k_is)
    (case k_picker_of => k_is)
    (case a_most_minutes => k_is)
    (case l_most_minutes => k_is)
    (case c_most_minutes => k_is)
    (case k_most_minutes => k_is)
    (case a_rows_of => k_is)
    (case l_rows_of => k_is)
    (case c_rows_of => k_is)
    (case k_rows_of => k_is)
    (case a_rows_without => k_is)
    (case l_rows_without => k_is)
    (case c_rows_without => k_is)
    (case k_rows_without => k_is)
    (case a_rows_set => k_is)
    (case l_rows_set => k_is)
    (case c_rows_set => k_is)
    (case k_rows_set => k_is)
    (case a_rows_exchanged => k_is)
    (case l_rows_exchanged => k_is)
    (case c_rows_exchanged => k_is)
    (case k_rows_exchanged => k_is)
    (case a_how_much_longer => k_is)
    (case l_how_much_longer => k_is)
    (case c_how_much_longer => k_is)
    (case k_how_much_longer => k_is)
    (case a_are_minutes => k_is)
    (case l_are_minutes => k_is)
    (case c_are_minutes => k_is)
    (case k_are_minutes => k_is)
    (case a_are_pickers => k_is)
    (case l_are_pickers => k_is)
    (case c_are_pickers => k_is)
    (case k_are_pickers => k_is)
    (case a_answer_begin => k_is)
    (case l_answer_begin => k_is)
    (case c_answer_begin => k_is)
    (case k_answer_begin => k_is)
    (case a_answer_row => k_is)
    (case l_answer_row => k_is)
    (case c_answer_row => k_is)
    (case k_answer_row => k_is)
    (case a_answer_out => k_is)
    (case l_answer_out => k_is)
    (case c_answer_out => k_is)
    (case k_answer_out => k_is)
    (case a_answer_minutes => k_is)
    (case l_answer_minutes => k_is)
    (case c_answer_minutes => k_is)
    (case k_answer_minutes => k_is)
    (case a_answer_pickers => k_is)
    (case l_answer_pickers => k_is)
    (case c_answer_pickers => k_is)
    (case k_answer_pickers => k_is)
    (case a_answer_back => k_is)
    (case l_answer_back => k_is)
    (case c_answer_back => k_is)
    (case k_answer_back => k_is)
    (case a_answer_least => k_is)
    (case l_answer_least => k_is)
    (case c_answer_least => k_is)
    (case k_answer_least => k_is)
    (case a_answer_plan => k_is)
    (case l_answer_plan => k_is)
    (case c_answer_plan => k_is)
    (case k_answer_plan => k_is)
    (case a_answer_who => k_is)
    (case l_answer_who => k_is)
    (case c_answer_who => k_is)
    (case k_answer_who => k_is)
    (case a_answer_told => k_is)
    (case l_answer_told => k_is)
    (case c_answer_told => k_is)
    (case k_answer_told => k_is)
    (case a_answer_fewest => k_is)
    (case l_answer_fewest => k_is)
    (case c_answer_fewest => k_is)
    (case k_answer_fewest => k_is)
    (case a_answer_if_pickers => k_is)
    (case l_answer_if_pickers => k_is)
    (case c_answer_if_pickers => k_is)
    (case k_answer_if_pickers => k_is)
    (case a_answer_more => k_is)
    (case l_answer_more => k_is)
    (case c_answer_more => k_is)
    (case k_answer_more => k_is)
    (case a_answer_first => k_is)
    (case l_answer_first => k_is)
    (case c_answer_first => k_is)
    (case k_answer_first => k_is)
    (case a_answer_without => k_is)
    (case l_answer_without => k_is)
    (case c_answer_without => k_is)
    (case k_answer_without => k_is)
    (case a_answer_exchange => k_is)
    (case l_answer_exchange => k_is)
    (case c_answer_exchange => k_is)
    (case k_answer_exchange => k_is)
    (case a_answer_longer => k_is)
    (case l_answer_longer => k_is)
    (case c_answer_longer => k_is)
    (case k_answer_longer => k_is)
    (case a_answer_idle => k_is)
    (case l_answer_idle => k_is)
    (case c_answer_idle => k_is)
    (case k_answer_idle => k_is)
    (case a_answer_has => k_is)
    (case l_answer_has => k_is)
    (case c_answer_has => k_is)
    (case k_answer_has => k_is)
    (case a_answer_sums => k_is)
    (case l_answer_sums => k_is)
    (case c_answer_sums => k_is)
    (case k_answer_sums => k_is)
    (case a_answer_state => k_is)
    (case l_answer_state => k_is)
    (case c_answer_state => k_is)
    (case k_answer_state => k_is)
    (case a_answer => k_is)
    (case l_answer => k_is)
    (case c_answer => k_is)
    (case k_answer => k_is)
    (case a_answers => k_is)
    (case l_answers => k_is)
    (case c_answers => k_is)
    (case k_answers => k_is)
    (case a_M_init => k_is)
    (case i_M_init => k_is)
    (case l_M_init => k_is)
    (case c_M_init => k_is)
    (case k_M_init => k_is)
    (case a_M_begin => k_is)
    (case i_M_begin => k_is)
    (case l_M_begin => k_is)
    (case c_M_begin => k_is)
    (case k_M_begin => k_is)
    (case a_M_has_row => k_is)
    (case i_M_has_row => k_is)
    (case l_M_has_row => k_is)
    (case c_M_has_row => k_is)
    (case k_M_has_row => k_is)
    (case a_M_change => k_is)
    (case i_M_change => k_is)
    (case l_M_change => k_is)
    (case c_M_change => k_is)
    (case k_M_change => k_is)
    (case a_M_take_back => k_is)
    (case i_M_take_back => k_is)
    (case l_M_take_back => k_is)
    (case c_M_take_back => k_is)
    (case k_M_take_back => k_is)
    (case a_M_has_picker => k_is)
    (case i_M_has_picker => k_is)
    (case l_M_has_picker => k_is)
    (case c_M_has_picker => k_is)
    (case k_M_has_picker => k_is)
    (case pg => k_is)
    (case hd => k_is)
    (case po => k_is)
    (case sa => k_is)
    (case mk => k_is)
    (case kc => k_is)
    (case n_begun => k_is)
    (case n_pickers => k_is)
    (case n_rows => k_is)
    (case n_past => k_is)
    (case v_NONE_SUCH => k_is)
    (case v_ALREADY_SO => k_is)
    (case v_OUT_OF_BOUNDS => k_is)
    (case v_FULL => k_is)
    (case v_TOO_LONG => k_is)
    (case v_NOT_BEGUN => k_is)
    (case v_MOST_ROWS => k_is)
    (case v_MOST_MINUTES => k_is)
    (case v_MOST_PICKERS => k_is)
    (case v_CHANGES_KEPT => k_is)
    (case v_BEGIN => k_is)
    (case v_TOLD => k_is)
    (case z_len => k_is)
    (case z_sum => k_is)
    (case z_max => k_is)
    (case aT => k_is)
    (case lT => k_is)
    (case aK => k_is)
    (case lK => k_is)
  case S =>
    intro K H xs a hO hwi hask hx
    cases hx with
    | cons h1 h2 =>
      cases h2
      cases h1 with
      | lst hs ha =>
        have e := L2.ints_dw a.1 _ ha
        subst e
        have q : ((Codec.inLen 0 1900 a.1 && a.1.all (Codec.inInt 0 4294967295)) && true) = true := hwi
        rw [Bool.and_eq_true, Bool.and_eq_true] at q
        have hb : ∀ z ∈ a.1, 0 ≤ z := fun z hz => (Codec.inInt_iff.mp (List.all_eq_true.mp q.1.2 z hz)).1
        obtain ⟨cs, e1, e2, e3, e4⟩ := Rs.request hb hask
        refine ⟨_, cs, rfl, ?_, e2, e3, fun H' g hg => .lst (L2.SqL.of (xs := (PyKh368.answers a.1).map L2.V.int) (by rw [e4]; exact hg)) (L2.dw_ints _)⟩
        rw [e1] at hs
        exact hs
end
