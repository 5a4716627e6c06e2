import PyProof.Rows.All
import Wide.All
import OpenK.AllK
import Wide.FinOn
import PyProof.EqAt
import PyProof.EqKinds
import PyProof.TupleCall
import KE.BitLaws
import PySem.Challenge.RW_headcounts_k01_whole_counted
set_option Elab.async false
set_option linter.all false
set_option maxRecDepth 100000
set_option maxHeartbeats 4000000
namespace L2
open PySem PySem.Spec PyProof.Rows
abbrev Key := Sum Int Str
def keyIs : Key → Value → Bool
  | .inl k, v => Value.isInt k v
  | .inr x, v => Value.isStrOf x v
def keyH (w : World) : Key → Int
  | .inl k => hashInt k
  | .inr x => hashStr w x
theorem keyIs_shape : ∀ {k : Key} {v : Value}, keyIs k v = true → (∃ i t, k = Sum.inl i ∧ v = Value.int i t) ∨ (∃ x t, k = Sum.inr x ∧ v = Value.str x t)
  | .inl i, v, h => by
    obtain ⟨t, e⟩ := Value.isInt_shape (k := i) (v := v) h
    exact .inl ⟨i, t, rfl, e⟩
  | .inr x, v, h => by
    obtain ⟨t, e⟩ := Value.isStrOf_shape (x := x) (v := v) h
    exact .inr ⟨x, t, rfl, e⟩
theorem key_ll (a b : Int) : decide ((Sum.inl a : Key) = Sum.inl b) = (a == b) := by
  by_cases e : a = b
  · subst e; simp
  · have h : ¬ (Sum.inl a : Key) = Sum.inl b := fun q => e (Sum.inl.inj q)
    rw [decide_eq_false h]
    exact (beq_eq_false_iff_ne.mpr e).symm
theorem key_rr (a b : Str) : decide ((Sum.inr a : Key) = Sum.inr b) = decide (a = b) := by
  by_cases e : a = b
  · subst e; simp
  · have h : ¬ (Sum.inr a : Key) = Sum.inr b := fun q => e (Sum.inr.inj q)
    rw [decide_eq_false h, decide_eq_false e]
theorem key_lr (a : Int) (b : Str) : decide ((Sum.inl a : Key) = Sum.inr b) = false := decide_eq_false (fun q => nomatch q)
theorem key_rl (a : Str) (b : Int) : decide ((Sum.inr a : Key) = Sum.inl b) = false := decide_eq_false (fun q => nomatch q)
def mixKind (prog : Program) (w : World) : PySem.KeyKind prog w Key where
  is := keyIs
  hash := keyH w
  inj := fun v a b ha hb => by
    rcases keyIs_shape ha with ⟨i, t, rfl, rfl⟩ | ⟨x, t, rfl, rfl⟩
    · rcases keyIs_shape hb with ⟨j, u, rfl, e⟩ | ⟨y, u, rfl, e⟩
      · injection e with e1 _; rw [e1]
      · exact nomatch e
    · rcases keyIs_shape hb with ⟨j, u, rfl, e⟩ | ⟨y, u, rfl, e⟩
      · exact nomatch e
      · injection e with e1 _; rw [e1]
  byValue := fun k v h => by
    rcases keyIs_shape h with ⟨i, t, rfl, rfl⟩ | ⟨x, t, rfl, rfl⟩ <;> rfl
  pyHash := fun hv h => by
    rcases keyIs_shape hv with ⟨i, t, rfl, rfl⟩ | ⟨x, t, rfl, rfl⟩
    · exact wpAny_pyHash_int h
    · exact wpAny_pyHash_str h
  eqBool := fun hu hv h => by
    rcases keyIs_shape hu with ⟨i, t, rfl, rfl⟩ | ⟨x, t, rfl, rfl⟩
    · rcases keyIs_shape hv with ⟨j, u, rfl, rfl⟩ | ⟨y, u, rfl, rfl⟩
      · rw [key_ll] at h; exact wpAny_eqBool_int h
      · rw [key_lr] at h; exact SeqAt.EqAt.int_str i t y u _ _ _ _ h
    · rcases keyIs_shape hv with ⟨j, u, rfl, rfl⟩ | ⟨y, u, rfl, rfl⟩
      · rw [key_rl] at h; exact SeqAt.EqAt.str_int x t j u _ _ _ _ h
      · rw [key_rr] at h; exact wpAny_eqBool_str h
  «strs» := fun k x t v h => by
    rcases keyIs_shape h with ⟨i, u, rfl, e⟩ | ⟨y, u, rfl, e⟩
    · exact nomatch e
    · injection e with e1 _
      subst e1
      cases v <;> rfl
end L2
namespace L2
open PySem PySem.Spec PyProof.Rows
inductive V where
  | non | bl (b : Bool) | int (i : Int) | str (x : Str) | byt (b : Array UInt8) | flt (b : UInt64) | ref (a : Addr) | ty (n : String)
  deriving DecidableEq
def RelV : V → Value → Prop
  | .non, u => u = Value.none
  | .bl b, u => u = Value.bool b
  | .int i, u => ∃ t, u = Value.int i t
  | .str x, u => ∃ t, u = Value.str x t
  | .byt b, u => ∃ t, u = Value.bytes b t
  | .flt b, u => ∃ t, u = Value.float b t
  | .ref a, u => u = Value.ref a
  | .ty n, u => u = Value.type n
abbrev Vals : List V → List Value → Prop := Paired RelV
theorem Vals.length {xs : List V} {us : List Value} (r : Vals xs us) : xs.length = us.length := Paired.length r
theorem Vals.get : ∀ {xs : List V} {us : List Value} {i : Nat} {x : V}, Vals xs us → xs[i]? = some x → ∃ u, us[i]? = some u ∧ RelV x u
  | _, _, _, _, .nil, e => by simp at e
  | _, _, 0, _, .cons r _, e => by simp at e; subst e; exact ⟨_, rfl, r⟩
  | _, _, i + 1, x, .cons _ t, e => by
    obtain ⟨u, h1, h2⟩ := Vals.get (i := i) (x := x) t (by simpa using e)
    exact ⟨u, by simpa using h1, h2⟩
theorem Vals.set {x : V} {u : Value} (r : RelV x u) : ∀ {xs : List V} {us : List Value} (i : Nat), Vals xs us → Vals (xs.set i x) (us.set i u)
  | _, _, _, .nil => .nil
  | _, _, 0, .cons _ t => .cons r t
  | _, _, i + 1, .cons q t => .cons q (Vals.set r i t)
theorem Vals.append : ∀ {xs ys : List V} {us ws : List Value}, Vals xs us → Vals ys ws → Vals (xs ++ ys) (us ++ ws)
  | _, _, _, _, .nil, s => s
  | _, _, _, _, .cons r t, s => .cons r (Vals.append t s)
theorem Vals.take : ∀ {xs : List V} {us : List Value} (n : Nat), Vals xs us → Vals (xs.take n) (us.take n)
  | _, _, 0, _ => .nil
  | _, _, _ + 1, .nil => .nil
  | _, _, n + 1, .cons r t => .cons r (Vals.take n t)
theorem Vals.drop : ∀ {xs : List V} {us : List Value} (n : Nat), Vals xs us → Vals (xs.drop n) (us.drop n)
  | _, _, 0, r => r
  | _, _, _ + 1, .nil => .nil
  | _, _, n + 1, .cons _ t => Vals.drop n t
def RelO : Option V → Option Value → Prop
  | some v, some u => RelV v u
  | none, none => True
  | _, _ => False
def KV {κ : Type} : List (κ × V) → List (κ × Value) → Prop := Paired fun (p : κ × V) (q : κ × Value) => p.1 = q.1 ∧ RelV p.2 q.2
def kV : Key → V
  | .inl i => .int i
  | .inr x => .str x
inductive HO where
  /-- a list -/
  | lst (xs : List V)
  /-- a tuple (never changes) -/
  | tup (xs : List V)
  /-- a dict whose keys are ints and texts; one whose keys are tuples of ints and texts (the empty one is both) -/
  | dK (kvs : List (Key × V)) | dT (kvs : List (List Key × V))
  /-- a set of ints: its members, its size -/
  | set (S : Int → Bool) (n : Nat)
  /-- an instance of the class at C, its dict at dx, its attributes -/
  | ins (C dx : Addr) (fs : List (Str × V))
  /-- the dict of the instance at x -/
  | own (x : Addr)
  /-- the dict of an exception -/
  | xd (fs : List (Str × V))
  /-- a bound method, f of x -/
  | met (f x : Addr)
  /-- a range object lo, lo + 1, .. below hi -/
  | rng (lo hi : Int)
  /-- a thing that is known to the object (the script; a dict while a loop walks it): read, never written while it is so -/
  | frz (o : Obj) (u : HO)
  /-- a code object's table -/
  | tbl (ps : Array Value)
  /-- any other thing, by what is true of its one object (a def of one's own: SetO a S n := HO.ext fun h => ..) -/
  | ext (φ : Heap → Prop)
abbrev Hp := Addr → Option HO
def upd (H : Hp) (a : Addr) (o : HO) : Hp := fun b => if b = a then some o else H b
theorem upd_same {H : Hp} {a : Addr} {o : HO} : upd H a o a = some o := by unfold upd; rw [if_pos rfl]
theorem upd_ne {H : Hp} {a b : Addr} {o : HO} (h : b ≠ a) : upd H a o b = H b := by unfold upd; rw [if_neg h]
theorem ne_of {H : Hp} {a b : Addr} {o u : HO} (h : H a = some o) (h' : H b = some u) (d : o ≠ u) : a ≠ b := by
  intro e; subst e; rw [h] at h'; exact d (Option.some.inj h')
theorem ne_of_none {H : Hp} {a b : Addr} {o : HO} (h : H a = some o) (h' : H b = none) : a ≠ b := by
  intro e; subst e; rw [h] at h'; cases h'
section
variable (P : Program) (w : World)
def ObjOk (H : Hp) (h : Heap) (a : Addr) : HO → Prop
  | .lst xs => xs.length ≤ sizeLine ∧ ∃ (its : List Value) (n : Nat), Vals xs its ∧ h.get? a = some { cls := .type "list", data := .seq its.toArray n }
  | .tup xs => xs.length ≤ sizeLine ∧ ∃ its : List Value, Vals xs its ∧ IsTup h a its.toArray
  | .dK kvs => kvs.length ≤ sizeLine ∧ (a == sysModules) = false ∧ ∃ vs, KV kvs vs ∧ h.DictOf (mixKind P w) a vs
  | .dT kvs => kvs.length ≤ sizeLine ∧ (a == sysModules) = false ∧ ∃ xs : List (List Key × Addr × Value),
      Paired (fun (p : List Key × V) (q : List Key × Addr × Value) => p.1 = q.1 ∧ H q.2.1 = some (.tup (p.1.map kV)) ∧ RelV p.2 q.2.2) kvs xs ∧
      ∃ o es ep, h.get? a = some o ∧ o.ExactDict ∧ o.data = .dict es ep ∧ es.toList = xs.map (entryOfKey (tupleKind (mixKind P w))) ∧ (xs.map (·.1)).Nodup
  | .set S n => h.SetOf (intKind P w) a S n
  | .ins C dx fs => H dx = some (.own a) ∧ fs.length ≤ 1000 ∧ dx ≠ a ∧ h.get? a = some (PySem.W.instObj C dx) ∧
      ∃ mA, h.Ns1 dx mA ∧ (∀ f, RelO (fs.lookup f) (mA f)) ∧ PySem.Within mA (fs.map (·.1))
  | .own _ => ∃ o, h.get? a = some o
  | .xd fs => ∃ mA, h.Ns1 a mA ∧ ∀ f, RelO (fs.lookup f) (mA f)
  | .rng lo hi => ∃ t u v, h.get? a = some { cls := .type "range", data := .fields #[.int lo t, .int hi u, .int 1 v] }
  | .frz o u => h.get? a = some o ∧ ObjOk H h a u
  | .tbl ps => h.get? a = some { cls := .none, data := .fields ps }
  | .met f x => h.get? a = some (PySem.W.methodObj (.ref f) (.ref x))
  | .ext φ => φ h ∧ (∃ o, h.get? a = some o) ∧ ∀ h1 h2 : Heap, φ h1 → (∀ o, h1.get? a = some o → h2.get? a = some o) → φ h2
def HOk (H : Hp) (h : Heap) : Prop := ∀ a o, H a = some o → ObjOk P w H h a o
end
section
variable {P : Program} {w : World} {H H' : Hp} {h h' : Heap} {a : Addr} {o : HO}
theorem ObjOk.lt (x : ObjOk P w H h a o) : a < h.objs.size := by
  cases o with
  | lst xs => obtain ⟨_, _, _, _, e⟩ := x; exact Heap.lt_size e
  | tup xs => obtain ⟨_, _, _, p⟩ := x; exact p.lt
  | dK kvs => obtain ⟨_, _, _, _, o, _, _, e, _⟩ := x; exact Heap.lt_size e
  | dT kvs => obtain ⟨_, _, _, _, o, _, _, e, _⟩ := x; exact Heap.lt_size e
  | set S n => obtain ⟨o, _, _, _, e, _⟩ := x; exact Heap.lt_size e
  | ins C dx fs => obtain ⟨_, _, _, e, _⟩ := x; exact Heap.lt_size e
  | own y => obtain ⟨_, e⟩ := x; exact Heap.lt_size e
  | xd fs => obtain ⟨_, ⟨_, _, _, e, _⟩, _⟩ := x; exact Heap.lt_size e
  | rng lo hi => obtain ⟨_, _, _, e⟩ := x; exact Heap.lt_size e
  | frz ob u => obtain ⟨e, _⟩ := x; exact Heap.lt_size e
  | tbl ps => exact Heap.lt_size (show h.get? a = some _ from x)
  | met f y => exact Heap.lt_size (show h.get? a = some _ from x)
  | ext φ => obtain ⟨_, ⟨_, e⟩, _⟩ := x; exact Heap.lt_size e
theorem Paired.mapP {α β : Type} {F G : α → β → Prop} : ∀ {l₁ : List α} {l₂ : List β}, Paired F l₁ l₂ → (∀ a b, F a b → G a b) → Paired G l₁ l₂
  | _, _, .nil, _ => .nil
  | _, _, .cons r t, f => .cons (f _ _ r) (Paired.mapP t f)
theorem ObjOk.stay (x : ObjOk P w H h a o) (k : ∀ b u, (b = a ∨ H b = some (.own a)) → h.get? b = some u → h'.get? b = some u)
    (ho : ∀ b, H b = some (.own a) → H' b = some (.own a)) (ht : ∀ b xs, H b = some (.tup xs) → H' b = some (.tup xs)) : ObjOk P w H' h' a o := by
  induction o with
  | lst xs => obtain ⟨z, its, n, r, e⟩ := x; exact ⟨z, its, n, r, k _ _ (.inl rfl) e⟩
  | tup xs => obtain ⟨z, its, r, ob, e, c⟩ := x; exact ⟨z, its, r, ob, k _ _ (.inl rfl) e, c⟩
  | dK kvs => obtain ⟨z, y, vs, r, ob, es, ep, e, c⟩ := x; exact ⟨z, y, vs, r, ob, es, ep, k _ _ (.inl rfl) e, c⟩
  | dT kvs =>
    obtain ⟨z, y, xs, r, ob, es, ep, e, c⟩ := x
    exact ⟨z, y, xs, Paired.mapP r fun p q z => ⟨z.1, ht _ _ z.2.1, z.2.2⟩, ob, es, ep, k _ _ (.inl rfl) e, c⟩
  | set S n => obtain ⟨ob, es, ep, t, e, c⟩ := x; exact ⟨ob, es, ep, t, k _ _ (.inl rfl) e, c⟩
  | ins C dx fs =>
    obtain ⟨d, z, ne, e, mA, ⟨od, es, ep, e2, c⟩, r⟩ := x
    exact ⟨ho _ d, z, ne, k _ _ (.inl rfl) e, mA, ⟨od, es, ep, k _ _ (.inr d) e2, c⟩, r⟩
  | own y => obtain ⟨ob, e⟩ := x; exact ⟨ob, k _ _ (.inl rfl) e⟩
  | xd fs => obtain ⟨mA, ⟨od, es, ep, e, c⟩, r⟩ := x; exact ⟨mA, ⟨od, es, ep, k _ _ (.inl rfl) e, c⟩, r⟩
  | rng lo hi => obtain ⟨t, u, v, e⟩ := x; exact ⟨t, u, v, k _ _ (.inl rfl) e⟩
  | frz ob u ih => obtain ⟨e, q⟩ := x; exact ⟨k _ _ (.inl rfl) e, ih q⟩
  | tbl ps =>
    have e : h.get? a = some { cls := .none, data := .fields ps } := x
    show h'.get? a = some { cls := .none, data := .fields ps }
    exact k a _ (.inl rfl) e
  | met f y =>
    have e : h.get? a = some (PySem.W.methodObj (.ref f) (.ref y)) := x
    show h'.get? a = some (PySem.W.methodObj (.ref f) (.ref y))
    exact k a _ (.inl rfl) e
  | ext φ => obtain ⟨p, ⟨o, e⟩, st⟩ := x; exact ⟨st _ _ p fun o q => k _ _ (.inl rfl) q, ⟨o, k _ _ (.inl rfl) e⟩, st⟩
theorem HOk.lt (x : HOk P w H h) (e : H a = some o) : a < h.objs.size := (x a o e).lt
theorem HOk.fresh (x : HOk P w H h) (e : h.objs.size ≤ a) : H a = none := by
  cases q : H a with
  | none => rfl
  | some u => exact absurd (Nat.lt_of_lt_of_le (x.lt q) e) (Nat.lt_irrefl _)
theorem HOk.kept (x : HOk P w H h) (k : ∀ b u, h.get? b = some u → h'.get? b = some u) : HOk P w H h' := fun a o e =>
  (x a o e).stay (fun b u _ q => k b u q) (fun _ q => q) fun _ _ q => q
theorem HOk.laid (x : HOk P w H h) (k : ∀ b u, h.get? b = some u → h'.get? b = some u) (hp : h.objs.size ≤ a) (new : ObjOk P w (upd H a o) h' a o) : HOk P w (upd H a o) h' := fun b u e => by
  have hn := x.fresh hp
  by_cases hb : b = a
  · subst hb; rw [upd_same] at e; cases e; exact new
  · rw [upd_ne hb] at e
    exact (x b u e).stay (fun c v _ q => k c v q) (fun c q => by rw [upd_ne (ne_of_none q hn)]; exact q) fun c xs q => by rw [upd_ne (ne_of_none q hn)]; exact q
end
def Rd (H : Hp) (a : Addr) (u : HO) : Prop := H a = some u ∨ ∃ o, H a = some (.frz o u)
theorem Rd.of {H : Hp} {a : Addr} {u : HO} (h : H a = some u) : Rd H a u := .inl h
theorem Rd.ok {P : Program} {w : World} {H : Hp} {h : Heap} {a : Addr} {u : HO} (r : Rd H a u) (x : HOk P w H h) : ObjOk P w H h a u := by
  rcases r with r | ⟨o, r⟩
  · exact x a u r
  · obtain ⟨_, q⟩ := x a _ r
    exact q
def Mut : Option HO → Prop
  | some (.lst _) => True
  | some (.dK _) => True
  | some (.dT _) => True
  | some (.set _ _) => True
  | some (.ins _ _ _) => True
  | some (.ext _) => True
  | _ => False
section
variable {P : Program} {w : World} {H : Hp} {h h' : Heap} {x e : Addr} {o' : HO}
theorem HOk.write (ok : HOk P w H h) (mu : Mut (H x)) (he : e = x ∨ H e = some (.own x)) (k : ∀ b u, b ≠ e → h.get? b = some u → h'.get? b = some u) (heo : ∃ u, h'.get? e = some u)
    (new : ObjOk P w (upd H x o') h' x o') : HOk P w (upd H x o') h' := fun b u q => by
  have nown : ∀ c y, H c = some (.own y) → c ≠ x := fun c y r z => by subst z; rw [r] at mu; exact mu
  have ntup : ∀ c xs, H c = some (.tup xs) → c ≠ x := fun c xs r z => by subst z; rw [r] at mu; exact mu
  by_cases hb : b = x
  · subst hb; rw [upd_same] at q; cases q; exact new
  · rw [upd_ne hb] at q
    by_cases hbe : b = e
    · have q' : H b = some (.own x) := by
        rcases he with z | z
        · exact absurd (hbe.trans z) hb
        · rw [hbe]; exact z
      rw [q] at q'; cases q'
      obtain ⟨v, hv⟩ := heo
      exact ⟨v, by rw [hbe]; exact hv⟩
    · refine (ok b u q).stay (fun c v hc r => k c v ?_ r) (fun c r => by rw [upd_ne (nown c b r)]; exact r) fun c xs r => by rw [upd_ne (ntup c xs r)]; exact r
      rcases hc with rfl | hc
      · exact hbe
      · rintro rfl
        rcases he with z | z
        · exact nown c b hc z
        · rw [hc] at z; cases z; exact hb rfl
end
structure Un (fs ex : List Addr) (H H' : Hp) (h h' : Heap) : Prop where
  keep : ∀ b o, h.get? b = some o → H b = none → b ∉ fs → b ∉ ex → h'.get? b = some o
  slot : ∀ b o, h.get? b = some o → H b = none → b ∈ fs → b ∉ ex → ∃ sl, h'.get? b = some { o with slots := sl }
  free : ∀ b o, h.get? b = some o → H b = none → b ∉ ex → H' b = none
  there : ∀ b o, h.get? b = some o → b ∉ ex → ∃ o', h'.get? b = some o'
  tups : ∀ b xs, H b = some (.tup xs) → H' b = some (.tup xs)
  frzs : ∀ b o u, H b = some (.frz o u) → H' b = some (.frz o u)
  tbls : ∀ b ps, H b = some (.tbl ps) → ∃ more, H' b = some (.tbl (ps ++ more))
section
variable {fs fs' ex ex' : List Addr} {H H1 H2 : Hp} {h h1 h2 h' : Heap} {a x e : Addr} {o : HO}
theorem Un.any (u : Un fs ex H H1 h h1) {b : Addr} {ob : Obj} (q : h.get? b = some ob) (n : H b = none) (hx : b ∉ ex) : ∃ sl, h1.get? b = some { ob with slots := sl } := by
  by_cases hb : b ∈ fs
  · exact u.slot b ob q n hb hx
  · exact ⟨ob.slots, u.keep b ob q n hb hx⟩
theorem Un.trans (a : Un fs ex H H1 h h1) (b : Un fs ex H1 H2 h1 h2) : Un fs ex H H2 h h2 where
  keep := fun c ob q n hc hx => b.keep c ob (a.keep c ob q n hc hx) (a.free c ob q n hx) hc hx
  slot := fun c ob q n hc hx => by
    obtain ⟨sl, e1⟩ := a.slot c ob q n hc hx
    obtain ⟨sl', e2⟩ := b.slot c _ e1 (a.free c ob q n hx) hc hx
    exact ⟨sl', e2⟩
  free := fun c ob q n hx => by
    obtain ⟨o', e1⟩ := a.there c ob q hx
    exact b.free c o' e1 (a.free c ob q n hx) hx
  there := fun c ob q hx => by
    obtain ⟨o', e1⟩ := a.there c ob q hx
    exact b.there c o' e1 hx
  tups := fun c xs q => b.tups c xs (a.tups c xs q)
  frzs := fun c ob xs q => b.frzs c ob xs (a.frzs c ob xs q)
  tbls := fun c ps q => by
    obtain ⟨m1, e1⟩ := a.tbls c ps q
    obtain ⟨m2, e2⟩ := b.tbls c _ e1
    exact ⟨m1 ++ m2, by rw [e2, Array.append_assoc]⟩
theorem Un.kept (k : ∀ b u, h.get? b = some u → h'.get? b = some u) : Un fs ex H H h h' :=
  ⟨fun b ob q _ _ _ => k b ob q, fun b ob q _ _ _ => ⟨ob.slots, k b ob q⟩, fun _ _ _ n _ => n, fun b ob q _ => ⟨ob, k b ob q⟩, fun _ _ q => q, fun _ _ _ q => q, fun _ ps q => ⟨#[], by rw [q]; simp⟩⟩
theorem Un.refl : Un fs ex H H h h := Un.kept fun _ _ q => q
theorem Un.laid (k : ∀ b u, h.get? b = some u → h'.get? b = some u) (hp : h.objs.size ≤ a) (hn : H a = none) : Un fs ex H (upd H a o) h h' where
  keep := fun b u q _ _ _ => k b u q
  slot := fun b u q _ _ _ => ⟨u.slots, k b u q⟩
  free := fun b u q n _ => by rw [upd_ne (Nat.ne_of_lt (Nat.lt_of_lt_of_le (Heap.lt_size q) hp))]; exact n
  there := fun b u q _ => ⟨u, k b u q⟩
  tups := fun b xs q => by rw [upd_ne (ne_of_none q hn)]; exact q
  frzs := fun b u xs q => by rw [upd_ne (ne_of_none q hn)]; exact q
  tbls := fun b ps q => ⟨#[], by rw [upd_ne (ne_of_none q hn), q]; simp⟩
theorem Un.write (mu : Mut (H x)) (he : e = x ∨ H e = some (.own x)) (k : ∀ b u, b ≠ e → h.get? b = some u → h'.get? b = some u) (heo : ∃ u, h'.get? e = some u) : Un fs ex H (upd H x o) h h' := by
  have hx : ∀ b, H b = none → b ≠ x := fun b n z => by subst z; rw [n] at mu; exact mu
  have hb : ∀ b, H b = none → b ≠ e := fun b n z => by
    subst z
    rcases he with r | r
    · exact hx b n r
    · rw [n] at r; cases r
  have hm : ∀ b u, H b = some u → ¬ Mut (some u) → b ≠ x := fun b u q nm z => by subst z; rw [q] at mu; exact nm mu
  refine ⟨fun b u q n _ _ => k b u (hb b n) q, fun b u q n _ _ => ⟨u.slots, k b u (hb b n) q⟩, fun b u q n _ => by rw [upd_ne (hx b n)]; exact n, fun b u q _ => ?_,
    fun b xs q => by rw [upd_ne (hm b _ q fun z => z)]; exact q, fun b u xs q => by rw [upd_ne (hm b _ q fun z => z)]; exact q, fun b ps q => ⟨#[], by rw [upd_ne (hm b _ q fun z => z), q]; simp⟩⟩
  by_cases hbe : b = e
  · subst hbe; exact heo
  · exact ⟨u, k b u hbe q⟩
theorem Un.mono (u : Un fs ex H H1 h h1) (hs : ∀ b ∈ fs, b ∈ fs') (hx : ∀ b ∈ ex, b ∈ ex') : Un fs' ex' H H1 h h1 :=
  ⟨fun b ob q n hb he => u.keep b ob q n (fun z => hb (hs b z)) fun z => he (hx b z), fun _ _ q n _ he => u.any q n fun z => he (hx _ z), fun b ob q n he => u.free b ob q n fun z => he (hx b z), fun b ob q he => u.there b ob q fun z => he (hx b z), u.tups, u.frzs, u.tbls⟩
end
def trk (h : Heap) (H : Hp) : List Addr := (List.range h.objs.size).filter fun a => (H a).isSome
def hidT (h : Heap) (H : Hp) : Heap := PySem.W.hideAll h (trk h H)
theorem hidT_size (h : Heap) (H : Hp) : (hidT h H).objs.size = h.objs.size := PySem.W.hideAll_size _ _
theorem hidT_get {h : Heap} {H : Hp} {b : Addr} {o : Obj} (e : h.get? b = some o) (n : H b = none) : (hidT h H).get? b = some o :=
  PySem.W.hideAll_get _ e fun hm => by
    have q : (H b).isSome = true := (List.mem_filter.mp hm).2
    rw [n] at q; simp at q
theorem of_hidT {h : Heap} {H : Hp} {b : Addr} {o : Obj} (e : (hidT h H).get? b = some o) : h.get? b = some o ∧ H b = none := by
  have e' : h.get? b = some o := PySem.W.of_hideAll (trk h H) e
  refine ⟨e', ?_⟩
  cases q : H b with
  | none => rfl
  | some x =>
    have hm : b ∈ trk h H := List.mem_filter.mpr ⟨List.mem_range.mpr (Heap.lt_size e'), by simp [q]⟩
    have z : (hidT h H).get? b = none := PySem.W.hideAll_none (trk h H) hm
    rw [z] at e; cases e
def allNews (g h : Heap) (L : Addr) : List (Addr × Obj) := (List.range h.objs.size).filterMap fun a => if a = L ∨ (g.get? a).isSome = true then none else (h.get? a).map fun o => (a, o)
def rest (g h : Heap) (L d : Addr) : List (Addr × Obj) := (allNews g h L).filter fun p => decide (p.1 ≠ d)
end L2
namespace L2
open PySem PySem.Spec PyProof.Rows
structure Mod (K : PySem.W.Frag) (mg : Str → Option Value) (base : Heap) : Prop where
  kin : K.In base
  glob : base.Ns mainGlobals mg
  blt : ∃ mb, base.Ns builtinsNs mb ∧ ∀ x : Str, x ≠ "__name__" → mb x = bootBuiltins x
  nolimit : base.NoLimit
structure Cx where
  prog : Program
  w : World
  K : PySem.W.Frag
  mg : Str → Option Value
  base : Heap
  A : Around
  N : List Str
  s_0 : Shared
  H_0 : Hp
  env : Env
  outer : List Env
  stack : List Env
  ex : List Addr
  fn : Str → Bool
  calm : Bool
  pn : List (Addr × Obj)
  xe : Value → Shared → Prop
def frs (l : List Env) : List Addr := l.filterMap (·.frame)
abbrev Cx.fs (X : Cx) : List Addr := frs X.outer
def Vis (sc : Scope) (x : Str) : Prop := sc.names.lookup x = some .local ∨ sc.names.lookup x = some .cell ∨ sc.names.lookup x = some .free
def Loc (sc : Scope) (x : Str) : Prop := sc.names.lookup x = some .local ∨ sc.names.lookup x = some .cell
def Look (env : Env) (h : Heap) (m : Str → Option Value) (x : Str) (u : Value) : Prop :=
  (env.kindOf x = some .local ∧ m x = some u) ∨ ((env.kindOf x = some .cell ∨ env.kindOf x = some .free) ∧ ∃ c, env.cells.lookup x = some c ∧ h.IsCell c (some u))
structure Cx.Ok (X : Cx) : Prop where
  mod : Mod X.K X.mg X.base
  kind : X.env.scope.kind = .function
  glob : X.env.globals = mainGlobals
  blt : X.env.builtins = builtinsNs
  above : X.s_0.heap.objs.size ≤ X.env.locals
  inj : ∀ x y c, X.env.cells.lookup x = some c → X.env.cells.lookup y = some c → x = y
  has : ∀ x, (X.env.kindOf x = some .cell ∨ X.env.kindOf x = some .free) → ∃ c, X.env.cells.lookup x = some c
  cab : ∀ x c, X.fn x = true → X.env.cells.lookup x = some c → X.s_0.heap.objs.size ≤ c
  hd : X.calm = true → X.A.handled = none
  frames : X.A.frames = some X.stack
  stk : X.stack = X.outer ∨ (X.stack = X.env :: X.outer ∧ X.env.frame = some X.env.locals)
  exf : ∀ b ∈ X.ex, b ≠ X.env.locals ∧ ∀ x c, X.env.cells.lookup x = some c → c ≠ b
  bs : ∀ b o, X.base.get? b = some o → X.s_0.heap.get? b = some o ∧ X.H_0 b = none
  bsz : X.base.objs.size ≤ X.s_0.heap.objs.size
  noex : ∀ b o, X.base.get? b = some o → b ∉ X.ex
  exfs : ∀ b ∈ X.ex, b ∉ X.fs
  funs : X.s_0.heap.FunFrames X.base X.outer
  frf : ∀ b ∈ X.fs, X.H_0 b = none
structure Inv (X : Cx) (pins : List (Addr × Obj)) (σ : List (Option V)) (H : Hp) (s : Shared) : Prop where
  ok : X.Ok
  os : s.os = X.s_0.os
  bare : AllBare s.gens
  base : Un X.fs X.ex X.H_0 H X.s_0.heap s.heap
  loc : ∃ m, s.heap.Ns X.env.locals m ∧ ∀ (i : Nat) (x : Str) (v : V), X.N[i]? = some x → σ[i]? = some (some v) → Vis X.env.scope x → ∃ u, RelV v u ∧ Look X.env s.heap m x u
  cell : ∀ x c, X.env.cells.lookup x = some c → ∃ v, s.heap.IsCell c v
  free : H X.env.locals = none
  freeC : ∀ x c, X.env.cells.lookup x = some c → H c = none
  pin : ∀ p ∈ X.pn ++ pins, s.heap.get? p.1 = some p.2 ∧ H p.1 = none ∧ p.1 ≠ X.env.locals ∧ p.1 ∉ X.fs ∧ ∀ v, p.2.data ≠ .cell v
  hok : HOk X.prog X.w H s.heap
  len : σ.length = X.N.length
section
variable {X : Cx} {pins : List (Addr × Obj)} {σ : List (Option V)} {H H' : Hp} {s : Shared} {h' : Heap}
theorem Cx.Ok.nofr (ok : X.Ok) {b : Addr} {o : Obj} (e : X.base.get? b = some o) : b ∉ X.fs := fun hb => by
  have := (ok.funs.mem hb).1
  rw [e] at this; cases this
theorem Inv.bs (I : Inv X pins σ H s) : ∀ b o, X.base.get? b = some o → s.heap.get? b = some o ∧ H b = none := fun b o e =>
  ⟨I.base.keep b o (I.ok.bs b o e).1 (I.ok.bs b o e).2 (I.ok.nofr e) (I.ok.noex b o e), I.base.free b o (I.ok.bs b o e).1 (I.ok.bs b o e).2 (I.ok.noex b o e)⟩
theorem Inv.bk (I : Inv X pins σ H s) : ∀ b o, X.base.get? b = some o → s.heap.get? b = some o := fun b o e => (I.bs b o e).1
theorem Inv.mod (I : Inv X pins σ H s) : Mod X.K X.mg X.base := I.ok.mod
theorem Inv.kIn (I : Inv X pins σ H s) : X.K.In s.heap := I.ok.mod.kin.keeps I.bk
theorem Inv.nolimit (I : Inv X pins σ H s) : s.heap.NoLimit := I.ok.mod.nolimit.keeps I.bk
theorem Inv.fr (I : Inv X pins σ H s) : ∃ m, Fr X.base X.env.locals s.heap m :=
  let ⟨m, hn, _⟩ := I.loc
  ⟨m, hn, I.bk, Nat.le_trans I.ok.bsz I.ok.above⟩
theorem Inv.lt (I : Inv X pins σ H s) : X.env.locals < s.heap.objs.size := let ⟨_, hn, _⟩ := I.loc; hn.lt
theorem Inv.sz (I : Inv X pins σ H s) : X.s_0.heap.objs.size ≤ s.heap.objs.size := Nat.le_trans I.ok.above (Nat.le_of_lt I.lt)
theorem Inv.nofs (I : Inv X pins σ H s) {a : Addr} (h : s.heap.objs.size ≤ a) : a ∉ X.fs := fun hb => by
  obtain ⟨_, o, ho, _⟩ := I.ok.funs.mem hb
  exact absurd (Nat.lt_of_lt_of_le (Heap.lt_size ho) (Nat.le_trans I.sz h)) (Nat.lt_irrefl _)
theorem Inv.cne (I : Inv X pins σ H s) : ∀ x c, X.env.cells.lookup x = some c → c ≠ X.env.locals := fun x c e z => by
  obtain ⟨v, o, ho, hd⟩ := I.cell x c e
  obtain ⟨m, ⟨o', es, ep, ho', hd', _⟩, _⟩ := I.loc
  rw [z, ho'] at ho; cases ho; rw [hd'] at hd; cases hd
theorem Inv.funs (I : Inv X pins σ H s) : s.heap.FunFrames X.base X.outer := by
  have all : ∀ (l : List Env), (∀ b ∈ frs l, b ∈ X.fs) → X.s_0.heap.FunFrames X.base l → s.heap.FunFrames X.base l := by
    intro l
    induction l with
    | nil => intro _ _; trivial
    | cons env r ih =>
      intro hs hl
      obtain ⟨hk, ⟨L, o, hf, hn, ho, hd⟩, hr⟩ := hl
      have hL : L ∈ X.fs := hs L (by unfold frs; rw [List.filterMap_cons, hf]; exact List.mem_cons_self)
      obtain ⟨sl, e⟩ := I.base.slot L o ho (I.ok.frf L hL) hL fun z => I.ok.exfs L z hL
      exact ⟨hk, ⟨L, _, hf, hn, e, hd⟩, ih (fun b hb => hs b (by unfold frs; rw [List.filterMap_cons, hf]; exact List.mem_cons_of_mem _ hb)) hr⟩
  exact all X.outer (fun _ hb => hb) I.ok.funs
theorem Inv.stack (I : Inv X pins σ H s) : s.heap.FunFrames X.base X.stack := by
  rcases I.ok.stk with e | ⟨e, hf⟩
  · rw [e]; exact I.funs
  · rw [e]
    obtain ⟨m, hn, _⟩ := I.loc
    refine .cons (by rw [I.ok.kind]; decide) hf hn ?_ I.funs
    exact Heap.get?_none_of_le (Nat.le_trans I.ok.bsz I.ok.above)
theorem Inv.stkSub (I : Inv X pins σ H s) : ∀ b ∈ frs X.stack, b ∈ X.env.locals :: X.fs := fun b hb => by
  rcases I.ok.stk with e | ⟨e, hf⟩
  · rw [e] at hb; exact List.mem_cons_of_mem _ hb
  · rw [e] at hb
    unfold frs at hb
    rw [List.filterMap_cons, hf] at hb
    exact hb
theorem Inv.stkFree (I : Inv X pins σ H s) : ∀ b ∈ frs X.stack, H b = none := fun b hb => by
  rcases List.mem_cons.mp (I.stkSub b hb) with e | hb
  · rw [e]; exact I.free
  · obtain ⟨_, o, ho, _⟩ := I.ok.funs.mem hb
    exact I.base.free b o ho (I.ok.frf b hb) fun z => I.ok.exfs b z hb
theorem Inv.step {g' : Array GenState} {t' : Nat} {d' : Drawn} {ch : List Addr} (I : Inv X pins σ H s)
    (hch : ∀ b ∈ ch, (b ∈ X.ex ∨ X.s_0.heap.objs.size ≤ b) ∧ b ≠ X.env.locals ∧ (∀ x c, X.env.cells.lookup x = some c → c ≠ b) ∧ ∀ p ∈ X.pn ++ pins, p.1 ≠ b)
    (keep : ∀ b o, b ≠ X.env.locals → b ∉ X.fs → b ∉ ch → s.heap.get? b = some o → H b = none → h'.get? b = some o)
    (slot : ∀ b o, b ≠ X.env.locals → b ∈ X.fs → b ∉ ch → s.heap.get? b = some o → H b = none → ∃ sl, h'.get? b = some { o with slots := sl }) (free : ∀ b o, b ∉ ch → s.heap.get? b = some o → H b = none → H' b = none)
    (there : ∀ b o, b ∉ ch → s.heap.get? b = some o → ∃ o', h'.get? b = some o')
    (tups : ∀ b xs, H b = some (.tup xs) → H' b = some (.tup xs)) (frzs : ∀ b o u, H b = some (.frz o u) → H' b = some (.frz o u)) (tbls : ∀ b ps, H b = some (.tbl ps) → ∃ more, H' b = some (.tbl (ps ++ more)))
    (ns : ∀ m, s.heap.Ns X.env.locals m → h'.Ns X.env.locals m) (hok : HOk X.prog X.w H' h') (hg : AllBare g') :
    Inv X pins σ H' { s with heap := h', gens := g', drawn := d', toks := t' } := by
  have neL : ∀ b o, X.s_0.heap.get? b = some o → b ≠ X.env.locals := fun b o e => Nat.ne_of_lt (Nat.lt_of_lt_of_le (Heap.lt_size e) I.ok.above)
  have neC : ∀ b o, X.s_0.heap.get? b = some o → b ∉ X.ex → b ∉ ch := fun b o e hx hb => by
    rcases (hch b hb).1 with z | z
    · exact hx z
    · exact absurd (Nat.lt_of_lt_of_le (Heap.lt_size e) z) (Nat.lt_irrefl _)
  have cellK : ∀ x c, X.env.cells.lookup x = some c → ∀ v, s.heap.IsCell c v → h'.IsCell c v := fun x c e v ⟨o, ho, hd⟩ => by
    have nch : c ∉ ch := fun z => (hch c z).2.2.1 x c e rfl
    by_cases hc : c ∈ X.fs
    · obtain ⟨sl, q⟩ := slot c o (I.cne x c e) hc nch ho (I.freeC x c e)
      exact ⟨_, q, hd⟩
    · exact ⟨o, keep c o (I.cne x c e) hc nch ho (I.freeC x c e), hd⟩
  refine ⟨I.ok, I.os, hg, ⟨fun b o e n hb hx => ?_, fun b o e n hb hx => ?_, fun b o e n hx => ?_, fun b o e hx => ?_, fun b xs e => tups b xs (I.base.tups b xs e), fun b o xs e => frzs b o xs (I.base.frzs b o xs e), fun b ps e => ?_⟩, ?_, fun x c e => ?_, ?_, fun x c e => ?_, fun p hp => ?_, hok, I.len⟩
  · exact keep b o (neL b o e) hb (neC b o e hx) (I.base.keep b o e n hb hx) (I.base.free b o e n hx)
  · obtain ⟨sl, e1⟩ := I.base.slot b o e n hb hx
    obtain ⟨sl', e2⟩ := slot b _ (neL b o e) hb (neC b o e hx) e1 (I.base.free b o e n hx)
    exact ⟨sl', e2⟩
  · obtain ⟨o', e1⟩ := I.base.there b o e hx
    exact free b o' (neC b o e hx) e1 (I.base.free b o e n hx)
  · obtain ⟨o', e1⟩ := I.base.there b o e hx
    exact there b o' (neC b o e hx) e1
  · obtain ⟨m1, e1⟩ := I.base.tbls b ps e
    obtain ⟨m2, e2⟩ := tbls b _ e1
    exact ⟨m1 ++ m2, by rw [e2, Array.append_assoc]⟩
  · obtain ⟨m, hn, hl⟩ := I.loc
    refine ⟨m, ns m hn, fun i x v e1 e2 e3 => ?_⟩
    obtain ⟨u, r, l⟩ := hl i x v e1 e2 e3
    refine ⟨u, r, ?_⟩
    rcases l with l | ⟨k, c, e, z⟩
    · exact .inl l
    · exact .inr ⟨k, c, e, cellK x c e _ z⟩
  · obtain ⟨v, z⟩ := I.cell x c e
    exact ⟨v, cellK x c e v z⟩
  · obtain ⟨m, ⟨o, _, _, ho, _⟩, _⟩ := I.loc
    exact free _ o (fun z => (hch _ z).2.1 rfl) ho I.free
  · obtain ⟨v, o, ho, hd⟩ := I.cell x c e
    exact free c o (fun z => (hch c z).2.2.1 x c e rfl) ho (I.freeC x c e)
  · obtain ⟨e, n, ne, nf, d⟩ := I.pin p hp
    have nch : p.1 ∉ ch := fun z => (hch p.1 z).2.2.2 p hp rfl
    exact ⟨keep p.1 p.2 ne nf nch e n, free p.1 p.2 nch e n, ne, nf, d⟩
theorem Inv.un {t' : Nat} (I : Inv X pins σ H s) (u : Un X.fs [] H H' s.heap h') (hok : HOk X.prog X.w H' h') : Inv X pins σ H' { s with heap := h', toks := t' } := by
  obtain ⟨m, ⟨o, es, ep, ho, r⟩, _⟩ := id I.loc
  obtain ⟨sl, hL⟩ := u.any ho I.free (by simp)
  exact I.step (g' := s.gens) (d' := s.drawn) (ch := []) (fun _ z => nomatch z) (fun b o _ hb _ e n => u.keep b o e n hb (by simp)) (fun b o _ hb _ e n => u.slot b o e n hb (by simp)) (fun b o _ e n => u.free b o e n (by simp)) (fun b o _ e => u.there b o e (by simp)) u.tups u.frzs u.tbls (fun m' hm => by
    obtain ⟨o', es', ep', ho', r'⟩ := hm
    rw [ho] at ho'; cases ho'
    exact ⟨_, es', ep', hL, r'⟩) hok I.bare
theorem Inv.call {g' : Array GenState} {t' : Nat} {d' : Drawn} {ch : List Addr} (I : Inv X pins σ H s) (u : Un (frs X.stack) ch H H' s.heap h') (hok : HOk X.prog X.w H' h') (hg : AllBare g')
    (hch : ∀ b ∈ ch, (b ∈ X.ex ∨ X.s_0.heap.objs.size ≤ b) ∧ b ≠ X.env.locals ∧ (∀ x c, X.env.cells.lookup x = some c → c ≠ b) ∧ ∀ p ∈ X.pn ++ pins, p.1 ≠ b) :
    Inv X pins σ H' { s with heap := h', gens := g', drawn := d', toks := t' } := by
  obtain ⟨m, ⟨o, es, ep, ho, r⟩, _⟩ := id I.loc
  obtain ⟨sl, hL⟩ := u.any ho I.free fun z => (hch _ z).2.1 rfl
  exact I.step (ch := ch) hch (fun b o hL hb hc e n => u.keep b o e n (fun z => (List.mem_cons.mp (I.stkSub b z)).elim hL hb) hc) (fun b o _ _ hc e n => u.any e n hc) (fun b o hc e n => u.free b o e n hc) (fun b o hc e => u.there b o e hc) u.tups u.frzs u.tbls (fun m' hm => by
    obtain ⟨o', es', ep', ho', r'⟩ := hm
    rw [ho] at ho'; cases ho'
    exact ⟨_, es', ep', hL, r'⟩) hok hg
theorem Inv.turned {t' : Nat} {it : Addr} (I : Inv X pins σ H s) (k : ∀ b o, b ≠ it → s.heap.get? b = some o → h'.get? b = some o) (hn : H it = none) (hL : it ≠ X.env.locals)
    (h1 : it ∈ X.ex ∨ X.s_0.heap.objs.size ≤ it) (h2 : ∀ x c, X.env.cells.lookup x = some c → c ≠ it) (h3 : ∀ p ∈ X.pn ++ pins, p.1 ≠ it) : Inv X pins σ H { s with heap := h', toks := t' } := by
  have nit : ∀ b u, H b = some u → b ≠ it := fun b u e z => by rw [z, hn] at e; cases e
  refine I.step (g' := s.gens) (d' := s.drawn) (ch := [it]) (fun b hb => ?_) (fun b o _ _ hc e _ => k b o (fun z => hc (by simp [z])) e) (fun b o _ _ hc e _ => ⟨o.slots, k b o (fun z => hc (by simp [z])) e⟩) (fun _ _ _ _ n => n)
    (fun b o hc e => ⟨o, k b o (fun z => hc (by simp [z])) e⟩) (fun _ _ e => e) (fun _ _ _ e => e) (fun b ps e => ⟨#[], by rw [e]; simp⟩) (fun m hm => ?_) (fun b u e => ?_) I.bare
  · have e : b = it := by simpa using hb
    subst e
    exact ⟨h1, hL, h2, h3⟩
  · obtain ⟨o, es, ep, ho, r⟩ := hm
    exact ⟨o, es, ep, k _ o (Ne.symm hL) ho, r⟩
  · refine (I.hok b u e).stay (fun c v hc q => k c v ?_ q) (fun _ q => q) fun _ _ q => q
    rcases hc with z | z
    · rw [z]; exact nit b u e
    · exact nit c _ z
theorem Inv.tok (I : Inv X pins σ H s) (t : Nat) : Inv X pins σ H { s with toks := t } := I.un (h' := s.heap) (t' := t) Un.refl I.hok
theorem Inv.kept {t' : Nat} (I : Inv X pins σ H s) (k : ∀ b u, s.heap.get? b = some u → h'.get? b = some u) : Inv X pins σ H { s with heap := h', toks := t' } := I.un (Un.kept k) (I.hok.kept k)
theorem Inv.laid {a : Addr} {o : HO} {t' : Nat} (I : Inv X pins σ H s) (k : ∀ b u, s.heap.get? b = some u → h'.get? b = some u) (hp : s.heap.objs.size ≤ a) (new : ObjOk X.prog X.w (upd H a o) h' a o) :
    Inv X pins σ (upd H a o) { s with heap := h', toks := t' } := I.un (Un.laid k hp (I.hok.fresh hp)) (I.hok.laid k hp new)
theorem Inv.write {x e : Addr} {o : HO} {t' : Nat} (I : Inv X pins σ H s) (mu : Mut (H x)) (he : e = x ∨ H e = some (.own x)) (k : ∀ b u, b ≠ e → s.heap.get? b = some u → h'.get? b = some u) (heo : ∃ u, h'.get? e = some u)
    (new : ObjOk X.prog X.w (upd H x o) h' x o) : Inv X pins σ (upd H x o) { s with heap := h', toks := t' } := I.un (Un.write mu he k heo) (I.hok.write mu he k heo new)
theorem Inv.weak {σ' : List (Option V)} (I : Inv X pins σ H s) (hl : σ'.length = σ.length) (w : ∀ (i : Nat) v, σ'[i]? = some (some v) → σ[i]? = some (some v)) : Inv X pins σ' H s :=
  ⟨I.ok, I.os, I.bare, I.base, let ⟨m, hn, hl'⟩ := I.loc; ⟨m, hn, fun i x v e1 e2 e3 => hl' i x v e1 (w i v e2) e3⟩, I.cell, I.free, I.freeC, I.pin, I.hok, hl.trans I.len⟩
theorem Inv.pins_of {pins' : List (Addr × Obj)} (I : Inv X pins σ H s) (h : ∀ p ∈ pins', s.heap.get? p.1 = some p.2 ∧ H p.1 = none ∧ p.1 ≠ X.env.locals ∧ p.1 ∉ X.fs ∧ ∀ v, p.2.data ≠ .cell v) : Inv X pins' σ H s :=
  ⟨I.ok, I.os, I.bare, I.base, I.loc, I.cell, I.free, I.freeC, fun p hp => (List.mem_append.mp hp).elim (fun z => I.pin p (List.mem_append_left _ z)) (h p), I.hok, I.len⟩
theorem nodup_ix {N : List Str} (hN : N.Nodup) {i j : Nat} {x : Str} (a : N[i]? = some x) (b : N[j]? = some x) : i = j := by
  obtain ⟨h1, e1⟩ := List.getElem?_eq_some_iff.mp a
  obtain ⟨h2, e2⟩ := List.getElem?_eq_some_iff.mp b
  exact (List.getElem_inj hN).mp (e1.trans e2.symm)
theorem store_ok2 {M : Model} {A : Around} {E : Value → Shared → Prop} {i : Nat} {x : Str} {v : V} {u : Value} {Q : Unit → Shared → Prop} (I : Inv X pins σ H s) (hN : X.N.Nodup) (hi : X.N[i]? = some x) (hx : Loc X.env.scope x) (r : RelV v u)
    (h : ∀ s', Inv X pins (σ.set i (some v)) H s' → (∃ a, Heap.SameBut a s.heap s'.heap ∧ (a = X.env.locals ∨ X.env.cells.lookup x = some a)) → Q () s') (hf : X.fn x = true ∨ X.env.scope.names.lookup x = some .local := by first | exact .inl rfl | exact .inr rfl | assumption) : wpAny M A (storeName X.env x u) Q E s := by
  obtain ⟨m, hn, hl⟩ := id I.loc
  have hcls : (X.env.scope.kind == .class || (X.env.scope.kind == .module && X.env.locals != X.env.globals)) = false := by rw [I.ok.kind]; rfl
  have hiσ : i < σ.length := by rw [I.len]; exact (List.getElem?_eq_some_iff.mp hi).1
  have cne := I.cne
  have tracked : ∀ {a : Addr} {h' : Heap}, (∃ o, s.heap.get? a = some o ∧ H a = none) → Heap.SameBut a s.heap h' → HOk X.prog X.w H h' := fun {a h'} ha hs b ob e => by
    obtain ⟨_, _, hfree⟩ := ha
    refine (I.hok b ob e).stay (fun c w' hc q => (hs.2 c ?_).trans q) (fun _ q => q) fun _ _ q => q
    rintro rfl
    rcases hc with rfl | hc
    · rw [hfree] at e; cases e
    · rw [hfree] at hc; cases hc
  rcases hx with hk | hk
  · refine wpAny_storeName_local hk hn (fun h' hn' hs => ?_) hcls
    obtain ⟨oL, _, _, hoL, _⟩ := id hn
    refine h _ ⟨I.ok, I.os, I.bare, ⟨fun b o e n hb hx => ?_, fun b o e n hb hx => ?_, I.base.free, fun b o e hx => ?_, I.base.tups, I.base.frzs, I.base.tbls⟩, ⟨_, hn', fun j y v' e1 e2 e3 => ?_⟩, fun y c e => ?_, I.free, I.freeC, fun p hp => ?_, tracked ⟨oL, hoL, I.free⟩ hs, by simpa using I.len⟩ ⟨_, hs, .inl rfl⟩
    · exact (hs.2 b (Nat.ne_of_lt (Nat.lt_of_lt_of_le (Heap.lt_size e) I.ok.above))).trans (I.base.keep b o e n hb hx)
    · obtain ⟨sl, e1⟩ := I.base.slot b o e n hb hx
      exact ⟨sl, (hs.2 b (Nat.ne_of_lt (Nat.lt_of_lt_of_le (Heap.lt_size e) I.ok.above))).trans e1⟩
    · obtain ⟨o', e1⟩ := I.base.there b o e hx
      exact ⟨o', (hs.2 b (Nat.ne_of_lt (Nat.lt_of_lt_of_le (Heap.lt_size e) I.ok.above))).trans e1⟩
    · by_cases hj : j = i
      · subst hj
        rw [hi] at e1; cases e1
        rw [List.getElem?_set_self hiσ] at e2
        cases e2
        exact ⟨u, r, .inl ⟨hk, by simp⟩⟩
      · rw [List.getElem?_set_ne (Ne.symm hj)] at e2
        obtain ⟨u', r', q⟩ := hl j y v' e1 e2 e3
        refine ⟨u', r', ?_⟩
        rcases q with ⟨k, e⟩ | ⟨k, c, e, z⟩
        · refine .inl ⟨k, ?_⟩
          have : y ≠ x := fun e => hj (nodup_ix hN e1 (e ▸ hi))
          simp [this, e]
        · exact .inr ⟨k, c, e, z.sameBut hs (cne y c e)⟩
    · obtain ⟨w', z⟩ := I.cell y c e
      exact ⟨w', z.sameBut hs (cne y c e)⟩
    · obtain ⟨e, n, ne, nf, d⟩ := I.pin p hp
      exact ⟨(hs.2 p.1 ne).trans e, n, ne, nf, d⟩
  · have hfn : X.fn x = true := by
      rcases hf with z | z
      · exact z
      · rw [z] at hk; cases hk
    obtain ⟨c, hc⟩ := I.ok.has x (.inl hk)
    obtain ⟨w', z⟩ := I.cell x c hc
    refine wpAny_storeName_cell I.ok.kind hk hc z (fun h' hc' hs => ?_)
    obtain ⟨oc, hoc, hocd⟩ := id z
    refine h { s with heap := h' } ⟨I.ok, I.os, I.bare, ⟨fun b o e n hb hx => ?_, fun b o e n hb hx => ?_, I.base.free, fun b o e hx => ?_, I.base.tups, I.base.frzs, I.base.tbls⟩, ⟨m, hn.sameBut hs (Ne.symm (cne x c hc)), fun j y v' e1 e2 e3 => ?_⟩, fun y c' e => ?_, I.free, I.freeC, fun p hp => ?_, tracked ⟨oc, hoc, I.freeC x c hc⟩ hs, by simpa using I.len⟩ ⟨c, hs, .inr hc⟩
    · exact (hs.2 b (Nat.ne_of_lt (Nat.lt_of_lt_of_le (Heap.lt_size e) (I.ok.cab x c hfn hc)))).trans (I.base.keep b o e n hb hx)
    · obtain ⟨sl, e1⟩ := I.base.slot b o e n hb hx
      exact ⟨sl, (hs.2 b (Nat.ne_of_lt (Nat.lt_of_lt_of_le (Heap.lt_size e) (I.ok.cab x c hfn hc)))).trans e1⟩
    · obtain ⟨o', e1⟩ := I.base.there b o e hx
      exact ⟨o', (hs.2 b (Nat.ne_of_lt (Nat.lt_of_lt_of_le (Heap.lt_size e) (I.ok.cab x c hfn hc)))).trans e1⟩
    · by_cases hj : j = i
      · subst hj
        rw [hi] at e1; cases e1
        rw [List.getElem?_set_self hiσ] at e2
        cases e2
        exact ⟨u, r, .inr ⟨.inl hk, c, hc, hc'⟩⟩
      · rw [List.getElem?_set_ne (Ne.symm hj)] at e2
        obtain ⟨u', r', q⟩ := hl j y v' e1 e2 e3
        refine ⟨u', r', ?_⟩
        rcases q with q | ⟨k, c', e, z'⟩
        · exact .inl q
        · refine .inr ⟨k, c', e, z'.sameBut hs ?_⟩
          rintro rfl
          exact hj (nodup_ix hN e1 (I.ok.inj _ _ _ e hc ▸ hi))
    · by_cases hcc : c' = c
      · subst hcc; exact ⟨_, hc'⟩
      · obtain ⟨w2, z2⟩ := I.cell y c' e
        exact ⟨w2, z2.sameBut hs hcc⟩
    · obtain ⟨e, n, ne, nf, d⟩ := I.pin p hp
      refine ⟨(hs.2 p.1 ?_).trans e, n, ne, nf, d⟩
      intro q
      rw [q, hoc] at e
      have q' : oc = p.2 := Option.some.inj e
      exact d w' (by rw [← q']; exact hocd)
theorem store_ok {M : Model} {A : Around} {E : Value → Shared → Prop} {i : Nat} {x : Str} {v : V} {u : Value} {Q : Unit → Shared → Prop} (I : Inv X pins σ H s) (hN : X.N.Nodup) (hi : X.N[i]? = some x) (hx : Loc X.env.scope x) (r : RelV v u)
    (h : ∀ s', Inv X pins (σ.set i (some v)) H s' → Q () s') (hf : X.fn x = true ∨ X.env.scope.names.lookup x = some .local := by first | exact .inl rfl | exact .inr rfl | assumption) : wpAny M A (storeName X.env x u) Q E s :=
  store_ok2 I hN hi hx r (fun s' I' _ => h s' I') hf
theorem Inv.call' {s' : Shared} {ch : List Addr} (I : Inv X pins σ H s) (ho : s'.os = s.os) (u : Un (frs X.stack) ch H H' s.heap s'.heap) (hok : HOk X.prog X.w H' s'.heap) (hg : AllBare s'.gens)
    (hch : ∀ b ∈ ch, (b ∈ X.ex ∨ X.s_0.heap.objs.size ≤ b) ∧ b ≠ X.env.locals ∧ (∀ x c, X.env.cells.lookup x = some c → c ≠ b) ∧ ∀ p ∈ X.pn ++ pins, p.1 ≠ b) : Inv X pins σ H' s' := by
  obtain ⟨h', g', d', t', o'⟩ := s'
  have e : o' = s.os := ho
  subst e
  exact I.call (g' := g') (t' := t') (d' := d') u hok hg hch
end
abbrev XK := Value → Option Addr → Hp → Prop
abbrev St := List (Option V)
abbrev VK := V → Hp → Prop
abbrev TE := St → Hp → VK → Prop
abbrev TT := St → Hp → (Bool → Hp → Prop) → Prop
abbrev TA := St → Hp → (List V → Hp → Prop) → Prop
structure Ends where
  nx : St → Hp → Prop
  rt : VK
  bk : St → Hp → Prop := fun _ _ => False
  ct : St → Hp → Prop := fun _ _ => False
abbrev TS := Ends → St → Hp → Prop
def EP (X : Cx) (pins : List (Addr × Obj)) (σ : St) (Q : VK) (u : Value) (s' : Shared) : Prop := ∃ v H', Inv X pins σ H' s' ∧ RelV v u ∧ Q v H'
def TP (X : Cx) (pins : List (Addr × Obj)) (σ : St) (Q : Bool → Hp → Prop) (b : Bool) (s' : Shared) : Prop := ∃ H', Inv X pins σ H' s' ∧ Q b H'
def AP (X : Cx) (pins : List (Addr × Obj)) (σ : St) (Q : List V → Hp → Prop) (us : List Value) (s' : Shared) : Prop := ∃ vs H', Inv X pins σ H' s' ∧ Vals vs us ∧ Q vs H'
def SP (X : Cx) (pins : List (Addr × Obj)) (D : Ends) (f : Flow) (s' : Shared) : Prop :=
  match f with
  | .next => ∃ σ' H', Inv X pins σ' H' s' ∧ D.nx σ' H'
  | .brk => ∃ σ' H', Inv X pins σ' H' s' ∧ D.bk σ' H'
  | .cont => ∃ σ' H', Inv X pins σ' H' s' ∧ D.ct σ' H'
  | .ret u => ∃ v σ' H', Inv X pins σ' H' s' ∧ RelV v u ∧ D.rt v H'
def PE (X : Cx) (e : Expr) (t : TE) : Prop :=
  ∀ (pins : List (Addr × Obj)) (s : Shared) (σ : St) (H : Hp) (Q : VK), Inv X pins σ H s → t σ H Q → wpAny (model X.prog X.w) X.A (eval e X.env) (EP X pins σ Q) X.xe s
def PT (X : Cx) (e : Expr) (t : TT) : Prop :=
  ∀ (pins : List (Addr × Obj)) (s : Shared) (σ : St) (H : Hp) (Q : Bool → Hp → Prop), Inv X pins σ H s → t σ H Q → wpAny (model X.prog X.w) X.A (isTrue e X.env (eval e X.env)) (TP X pins σ Q) X.xe s
def PW (X : Cx) (e : Expr) (t : TT) : Prop :=
  ∀ (whole : Sem Value) (pins : List (Addr × Obj)) (s : Shared) (σ : St) (H : Hp) (Q : Bool → Hp → Prop), Inv X pins σ H s → t σ H Q → wpAny (model X.prog X.w) X.A (isTrue e X.env whole) (TP X pins σ Q) X.xe s
theorem PW.pt {X : Cx} {e : Expr} {t : TT} (h : PW X e t) : PT X e t := h _
def PA (X : Cx) (es : List Expr) (t : TA) : Prop :=
  ∀ (pos : Pos) (pins : List (Addr × Obj)) (s : Shared) (σ : St) (H : Hp) (Q : List V → Hp → Prop), Inv X pins σ H s → t σ H Q → wpAny (model X.prog X.w) X.A (spliced (backTo pos (starEach es X.env))) (AP X pins σ Q) X.xe s
def PS (X : Cx) (st : Stmt) (t : TS) : Prop :=
  ∀ (pins : List (Addr × Obj)) (s : Shared) (σ : St) (H : Hp) (D : Ends), Inv X pins σ H s → t D σ H → wpAny (model X.prog X.w) X.A (exec st X.env) (SP X pins D) X.xe s
def PSs (X : Cx) (st : List Stmt) (t : TS) : Prop :=
  ∀ (pins : List (Addr × Obj)) (s : Shared) (σ : St) (H : Hp) (D : Ends), Inv X pins σ H s → t D σ H → wpAny (model X.prog X.w) X.A (execs st X.env) (SP X pins D) X.xe s
theorem thn {α : Type} {t : Sem α} {Q Q' : α → Shared → Prop} {M : Model} {A : Around} {E : Value → Shared → Prop} {s : Shared} (h : wpAny M A t Q E s) (hQ : ∀ a s, Q a s → Q' a s) : wpAny M A t Q' E s := wpAny_mono h hQ fun _ _ x => x
end L2
namespace L2
open PySem PySem.Spec PyProof.Rows
section
variable {X : Cx}
def tVar (i : Nat) : TE := fun σ H Q => ∃ v, σ[i]? = some (some v) ∧ Q v H
def tC (v : V) : TE := fun _ H Q => Q v H
theorem pe_var {i : Nat} {x : Str} {pos : Pos} (hN : X.N[i]? = some x) (hv : Vis X.env.scope x) (hd : (x == ("__debug__" : Str)) = false := by decide) (hcd : (x == ("__classdict__" : Str)) = false := by decide) : PE X (.Name x pos) (tVar i) := by
  intro pins s σ H Q I h
  obtain ⟨v, e, h⟩ := h
  obtain ⟨m, hn, hl⟩ := I.loc
  obtain ⟨u, r, l⟩ := hl i x v hN e hv
  have fin : EP X pins σ Q u s := ⟨v, H, I, r, h⟩
  rcases l with ⟨hk, hm⟩ | ⟨hk, c, hc, hcell⟩
  · exact wpAny_Name (wpAny_loadName_local I.ok.kind hk hn hm fin) hd
  · rcases hk with hk | hk
    · exact wpAny_Name (wpAny_loadName_cell I.ok.kind hk hc hcell fin) hd
    · exact wpAny_Name (wpAny_loadName_free I.ok.kind hk hc hcell fin hcd) hd
theorem pe_int {i j pos} : PE X (.Constant (.int i) j pos) (tC (.int i)) := fun _ _ _ H _ I h => wpAny_Constant_int ⟨.int i, H, I.tok _, ⟨_, rfl⟩, h⟩
theorem pe_bl {b j pos} : PE X (.Constant (.bool b) j pos) (tC (.bl b)) := fun _ _ _ H _ I h => Constant_bool ⟨.bl b, H, I, rfl, h⟩
def Gl (X : Cx) (x : Str) : Prop := X.env.kindOf x = some .globalImplicit
theorem ld_glob {E : Value → Shared → Prop} {pins : List (Addr × Obj)} {s : Shared} {σ : St} {H : Hp} {x : Str} {u : Value} {pos : Pos} {Q : Value → Shared → Prop} (I : Inv X pins σ H s) (hg : Gl X x) (hm : X.mg x = some u) (h : Q u s)
    (hd : (x == ("__debug__" : Str)) = false := by decide) : wpAny (model X.prog X.w) X.A (eval (.Name x pos) X.env) Q E s :=
  Calls.Name_function_global I.ok.kind hg (Calls.loadGlobal_global (by rw [I.ok.glob]; exact I.mod.glob.keeps I.bk) hm h) hd
theorem ld_blt {E : Value → Shared → Prop} {pins : List (Addr × Obj)} {s : Shared} {σ : St} {H : Hp} {x : Str} {u : Value} {pos : Pos} {Q : Value → Shared → Prop} (I : Inv X pins σ H s) (hg : Gl X x) (hm : X.mg x = none) (hv : bootBuiltins x = some u) (h : Q u s)
    (hn : x ≠ "__name__" := by decide) (hd : (x == ("__debug__" : Str)) = false := by decide) : wpAny (model X.prog X.w) X.A (eval (.Name x pos) X.env) Q E s := by
  obtain ⟨mb, h1, h2⟩ := I.mod.blt
  exact Calls.Name_function_global I.ok.kind hg (Calls.loadGlobal_builtin (by rw [I.ok.glob]; exact I.mod.glob.keeps I.bk) hm (by rw [I.ok.blt]; exact h1.keeps I.bk) ((h2 x hn).trans hv) h) hd
theorem pe_glob {x : Str} {v : V} {u : Value} {pos : Pos} (hg : Gl X x) (hm : X.mg x = some u) (r : RelV v u) (hd : (x == ("__debug__" : Str)) = false := by decide) : PE X (.Name x pos) (tC v) :=
  fun _ _ _ H _ I h => ld_glob I hg hm ⟨v, H, I, r, h⟩ hd
theorem pe_bltn {x : Str} {v : V} {u : Value} {pos : Pos} (hg : Gl X x) (hm : X.mg x = none) (hv : bootBuiltins x = some u) (r : RelV v u) (hn : x ≠ "__name__" := by decide) (hd : (x == ("__debug__" : Str)) = false := by decide) : PE X (.Name x pos) (tC v) :=
  fun _ _ _ H _ I h => ld_blt I hg hm hv ⟨v, H, I, r, h⟩ hn hd
variable {a b : Expr} {ta tb : TE} {pos : Pos}
def tB (t : TE) : TT := fun σ H Q => t σ H fun x H1 => ∃ c, x = .bl c ∧ Q c H1
theorem pt_val {e : Expr} {t : TE} (h : PE X e t) (he : ∀ whole, isTrue e X.env whole = (do let v ← whole; standAt e.pos; holding [v] (truthy v)) := by intro _; rfl) : PT X e (tB t) := by
  intro pins s σ H Q I hw
  refine isTrue_plain (thn (h pins s σ H _ I hw) fun v s1 ⟨x, H1, I1, r1, q1⟩ => ?_) (he _)
  obtain ⟨d, rfl, q⟩ := q1
  cases r1
  exact wpAny_truthy_bool ⟨H1, I1, q⟩
variable {tA tB' : TT} {rest : List Expr}
def tOr (t u : TT) : TT := fun σ H Q => t σ H fun c H1 => if c = true then Q true H1 else u σ H1 Q
def tNot (t : TT) : TT := fun σ H Q => t σ H fun c H1 => Q (!c) H1
theorem pw_or1 (ha : PT X a tA) : PW X (.BoolOp .Or [a] pos) tA := by
  intro wh pins s σ H Q I h
  refine isTrue_or (thn (ha pins s σ H Q I h) fun c s1 e => ?_)
  cases c with
  | false => exact isTrue_or_nil e
  | true => exact e
theorem pw_or (ha : PT X a tA) (hb : PW X (.BoolOp .Or (b :: rest) pos) tB') : PW X (.BoolOp .Or (a :: b :: rest) pos) (tOr tA tB') := by
  intro wh pins s σ H Q I h
  refine isTrue_or (thn (ha pins s σ H _ I h) fun c s1 ⟨H1, I1, q1⟩ => ?_)
  cases c with
  | true => exact ⟨H1, I1, q1⟩
  | false => exact hb wh pins s1 σ H1 Q I1 q1
theorem pt_not (ha : PT X a tA) : PT X (.UnaryOp .Not a pos) (tNot tA) := by
  intro pins s σ H Q I h
  exact isTrue_not (ha pins s σ H (fun c H1 => Q (!c) H1) I h)
def tAndV (ta tb : TE) : TE := fun σ H Q => ta σ H fun x H1 => ∃ c, x = .bl c ∧ if c = true then tb σ H1 Q else Q (.bl false) H1
def tNotV (ta : TE) : TE := fun σ H Q => ta σ H fun x H1 => ∃ c, x = .bl c ∧ Q (.bl (!c)) H1
theorem pe_one {op} {t : TE} (h : PE X a t) : PE X (.BoolOp op [a] pos) t := fun pins s σ H Q I hw => BoolOp_one (h pins s σ H Q I hw)
theorem pe_and (ha : PE X a ta) (hb : PE X (.BoolOp .And (b :: rest) pos) tb) : PE X (.BoolOp .And (a :: b :: rest) pos) (tAndV ta tb) := by
  intro pins s σ H Q I h
  refine BoolOp_and (thn (ha pins s σ H _ I h) fun v s1 ⟨x, H1, I1, r1, q1⟩ => ?_)
  obtain ⟨c, rfl, q1⟩ := q1
  cases r1
  refine wpAny_truthy_bool ?_
  cases c with
  | true => exact hb pins s1 σ H1 Q I1 q1
  | false => exact ⟨.bl false, H1, I1, rfl, q1⟩
theorem pe_not (ha : PE X a ta) : PE X (.UnaryOp .Not a pos) (tNotV ta) := by
  intro pins s σ H Q I h
  refine UnaryOp_ (thn (ha pins s σ H _ I h) fun v s1 ⟨x, H1, I1, r1, q1⟩ => ?_)
  obtain ⟨c, rfl, q1⟩ := q1
  cases r1
  exact not_of (wpAny_truthy_bool ⟨.bl (!c), H1, I1, rfl, q1⟩)
end
end L2
namespace L2
open PySem PySem.Spec PyProof.Rows
def SqL (K : PySem.W.Frag) (H : Hp) (a : Addr) (xs : List V) : Prop :=
  Rd H a (.lst xs) ∨
    ∃ (o : Obj) (its : Array Value) (n : Nat), K.lookup a = some o ∧ o.cls = .type "list" ∧ o.dict = none ∧ o.data = .seq its n ∧ its.size ≤ sizeLine ∧ Vals xs its.toList
def SqT (K : PySem.W.Frag) (H : Hp) (a : Addr) (xs : List V) : Prop :=
  Rd H a (.tup xs) ∨
    ∃ (o : Obj) (its : Array Value) (n : Nat), K.lookup a = some o ∧ o.cls = .type "tuple" ∧ o.data = .seq its n ∧ its.size ≤ sizeLine ∧ Vals xs its.toList
def absV : Value → Option V
  | .none => some .non
  | .bool b => some (.bl b)
  | .int i _ => some (.int i)
  | .str x _ => some (.str x)
  | .bytes b _ => some (.byt b)
  | .float b _ => some (.flt b)
  | .ref a => some (.ref a)
  | .type n => some (.ty n)
  | _ => none
theorem RelV.abs {x : V} {u : Value} (r : RelV x u) : absV u = some x := by
  cases x with
  | non => cases r; rfl
  | bl _ => cases r; rfl
  | int _ => obtain ⟨t, rfl⟩ := r; rfl
  | str _ => obtain ⟨t, rfl⟩ := r; rfl
  | byt _ => obtain ⟨t, rfl⟩ := r; rfl
  | flt _ => obtain ⟨t, rfl⟩ := r; rfl
  | ref _ => cases r; rfl
  | ty _ => cases r; rfl
theorem RelV.inj {x y : V} {u : Value} (r : RelV x u) (q : RelV y u) : x = y := Option.some.inj (r.abs.symm.trans q.abs)
theorem Vals.inj : ∀ {xs ys : List V} {us : List Value}, Vals xs us → Vals ys us → xs = ys
  | _, _, _, .nil, .nil => rfl
  | _, _, _, .cons r t, .cons r' t' => by rw [r.inj r', Vals.inj t t']
section
variable {X : Cx} {pins : List (Addr × Obj)} {σ : St} {H : Hp} {s : Shared} {a : Addr} {xs ys : List V}
theorem SqL.of {K : PySem.W.Frag} (h : H a = some (.lst xs)) : SqL K H a xs := .inl (.inl h)
theorem SqT.of {K : PySem.W.Frag} (h : H a = some (.tup xs)) : SqT K H a xs := .inl (.inl h)
theorem Inv.list (I : Inv X pins σ H s) (h : SqL X.K H a xs) : ∃ its : List Value, Vals xs its ∧ PlainL s.heap a its.toArray ∧ xs.length ≤ sizeLine := by
  rcases h with h | ⟨o, its, n, hk, hc, hd, hs, hz, r⟩
  · obtain ⟨z, its, n, r, e⟩ := h.ok I.hok
    exact ⟨its, r, ⟨_, n, e, rfl, rfl, rfl⟩, z⟩
  · refine ⟨its.toList, r, ⟨o, n, I.kIn a o hk, hc, hd, by simpa using hs⟩, ?_⟩
    have e := r.length
    simp only [Array.length_toList] at e
    omega
theorem Inv.tuple (I : Inv X pins σ H s) (h : SqT X.K H a xs) : ∃ its : List Value, Vals xs its ∧ IsTup s.heap a its.toArray ∧ xs.length ≤ sizeLine := by
  rcases h with h | ⟨o, its, n, hk, hc, hs, hz, r⟩
  · obtain ⟨z, its, r, p⟩ := h.ok I.hok
    exact ⟨its, r, p, z⟩
  · refine ⟨its.toList, r, ⟨o, I.kIn a o hk, hc, n, by simpa using hs⟩, ?_⟩
    have e := r.length
    simp only [Array.length_toList] at e
    omega
theorem Inv.list_inj (I : Inv X pins σ H s) (h : SqL X.K H a xs) (h' : SqL X.K H a ys) : xs = ys := by
  obtain ⟨its, r, ⟨o, n, e, _, _, d⟩, _⟩ := I.list h
  obtain ⟨its', r', ⟨o', n', e', _, _, d'⟩, _⟩ := I.list h'
  rw [e] at e'; cases e'
  rw [d] at d'
  injection d' with d1 _
  have : its = its' := by simpa using congrArg Array.toList d1
  subst this
  exact r.inj r'
theorem Inv.tuple_inj (I : Inv X pins σ H s) (h : SqT X.K H a xs) (h' : SqT X.K H a ys) : xs = ys := by
  obtain ⟨its, r, ⟨o, e, _, n, d⟩, _⟩ := I.tuple h
  obtain ⟨its', r', ⟨o', e', _, n', d'⟩, _⟩ := I.tuple h'
  rw [e] at e'; cases e'
  rw [d] at d'
  injection d' with d1 _
  have : its = its' := by simpa using congrArg Array.toList d1
  subst this
  exact r.inj r'
end
abbrev Cx.wish (X : Cx) (E : Value → Shared → Prop) : Cx := { X with xe := E }
abbrev Cx.nox (X : Cx) : Cx := X.wish fun _ _ => False
theorem Cx.Ok.wish {X : Cx} (ok : X.Ok) (E : Value → Shared → Prop) : (X.wish E).Ok :=
  ⟨ok.mod, ok.kind, ok.glob, ok.blt, ok.above, ok.inj, ok.has, ok.cab, ok.hd, ok.frames, ok.stk, ok.exf, ok.bs, ok.bsz, ok.noex, ok.exfs, ok.funs, ok.frf⟩
theorem Cx.Ok.unwish {X : Cx} {E : Value → Shared → Prop} (ok : (X.wish E).Ok) : X.Ok :=
  ⟨ok.mod, ok.kind, ok.glob, ok.blt, ok.above, ok.inj, ok.has, ok.cab, ok.hd, ok.frames, ok.stk, ok.exf, ok.bs, ok.bsz, ok.noex, ok.exfs, ok.funs, ok.frf⟩
section
variable {X : Cx} {pins : List (Addr × Obj)} {σ : St} {H : Hp} {s : Shared} {E : Value → Shared → Prop}
theorem Inv.wish (I : Inv X pins σ H s) (E : Value → Shared → Prop) : Inv (X.wish E) pins σ H s := ⟨I.ok.wish E, I.os, I.bare, I.base, I.loc, I.cell, I.free, I.freeC, I.pin, I.hok, I.len⟩
theorem Inv.unwish (I : Inv (X.wish E) pins σ H s) : Inv X pins σ H s := ⟨I.ok.unwish, I.os, I.bare, I.base, I.loc, I.cell, I.free, I.freeC, I.pin, I.hok, I.len⟩
theorem SP.unwish {D : Ends} {f : Flow} {s' : Shared} (h : SP (X.wish E) pins D f s') : SP X pins D f s' := by
  cases f with
  | next => obtain ⟨σ', H', I, q⟩ := h; exact ⟨σ', H', I.unwish, q⟩
  | brk => obtain ⟨σ', H', I, q⟩ := h; exact ⟨σ', H', I.unwish, q⟩
  | cont => obtain ⟨σ', H', I, q⟩ := h; exact ⟨σ', H', I.unwish, q⟩
  | ret u => obtain ⟨v, σ', H', I, r, q⟩ := h; exact ⟨v, σ', H', I.unwish, r, q⟩
theorem PE.nox {e : Expr} {t : TE} (h : PE X.nox e t) : PE X e t := fun pins s σ H Q I hw =>
  wpAny_mono (h pins s σ H Q (I.wish _) hw) (fun _ _ ⟨v, H', I', r, q⟩ => ⟨v, H', I'.unwish, r, q⟩) fun _ _ z => False.elim z
theorem PT.nox {e : Expr} {t : TT} (h : PT X.nox e t) : PT X e t := fun pins s σ H Q I hw =>
  wpAny_mono (h pins s σ H Q (I.wish _) hw) (fun _ _ ⟨H', I', q⟩ => ⟨H', I'.unwish, q⟩) fun _ _ z => False.elim z
theorem PSs.nox {st : List Stmt} {t : TS} (h : PSs X.nox st t) : PSs X st t := fun pins s σ H D I hw =>
  wpAny_mono (h pins s σ H D (I.wish _) hw) (fun _ _ q => q.unwish) fun _ _ z => False.elim z
end
section
variable {X : Cx} {st : Stmt} {rest : List Stmt} {t u : TS} {e : Expr} {te : TE} {pos : Pos}
def tNext : TS := fun D σ H => D.nx σ H
def tSeq (t u : TS) : TS := fun D σ H => t { D with nx := u D } σ H
theorem pss_nil : PSs X [] tNext := fun _ _ σ H _ I h => wpAny_execs_nil ⟨σ, H, I, h⟩
theorem pss_cons (h1 : PS X st t) (h2 : PSs X rest u) : PSs X (st :: rest) (tSeq t u) := by
  intro pins s σ H D I h
  refine wpAny_execs_cons (thn (h1 pins s σ H { D with nx := u D } I h) fun f s1 q => ?_)
  cases f with
  | next =>
    obtain ⟨σ', H', I', q⟩ := q
    exact h2 pins s1 σ' H' D I' q
  | ret v => exact q
  | brk => exact q
  | cont => exact q
theorem pss_one (h1 : PS X st t) : PSs X [st] t := by
  intro pins s σ H D I h
  refine wpAny_execs_cons (thn (h1 pins s σ H D I h) fun f s1 q => ?_)
  cases f with
  | next => exact wpAny_execs_nil q
  | ret v => exact q
  | brk => exact q
  | cont => exact q
theorem Inv.quiet {pins : List (Addr × Obj)} {σ : St} {H : Hp} {s : Shared} (I : Inv X pins σ H s) : interactive X.env = false := by simp [interactive, I.ok.kind]
def tDrop (te : TE) : TS := fun D σ H => te σ H fun _ H1 => D.nx σ H1
theorem ps_expr (he : PE X e te) (hs : swapsWith e none pos.line X.env = pure false := by rfl) : PS X (.Expr e pos) (tDrop te) := by
  intro pins s σ H D I h
  exact wpAny_Expr_any (thn (he pins s σ H _ I h) fun v s1 ⟨x, H1, I1, r1, q1⟩ => ⟨σ, H1, I1, q1⟩) I.quiet hs
def tRet (te : TE) : TS := fun D σ H => te σ H D.rt
theorem ps_ret (he : PE X e te) : PS X (.Return (some e) pos) (tRet te) := by
  intro pins s σ H D I h
  exact wpAny_Return_some (thn (he pins s σ H _ I h) fun v s1 ⟨x, H1, I1, r1, q1⟩ => ⟨x, σ, H1, I1, r1, q1⟩)
def tIfS (c : TT) (t u : TS) : TS := fun D σ H => c σ H fun b H1 => if b = true then t D σ H1 else u D σ H1
theorem ps_if {c : Expr} {a b : List Stmt} {tc : TT} (hc : PT X c tc) (ha : PSs X a t) (hb : PSs X b u) : PS X (.If c a b pos) (tIfS tc t u) := by
  intro pins s σ H D I h
  refine wpAny_If (thn (hc pins s σ H _ I h) fun d s1 ⟨H1, I1, q1⟩ => ?_)
  cases d with
  | true => exact ha pins s1 σ H1 D I1 q1
  | false => exact hb pins s1 σ H1 D I1 q1
def tNever : TS := fun _ _ _ => False
theorem ps_never : PS X st tNever := fun _ _ _ _ _ _ h => h.elim
end
abbrev TG := V → St → Hp → (St → Hp → Prop) → Prop
abbrev TGs := List V → St → Hp → (St → Hp → Prop) → Prop
def PG (X : Cx) (target : Expr) (t : TG) : Prop :=
  ∀ (pins : List (Addr × Obj)) (s : Shared) (σ : St) (H : Hp) (v : V) (u : Value) (Q : St → Hp → Prop), Inv X pins σ H s → RelV v u → t v σ H Q →
    wpAny (model X.prog X.w) X.A (assign target X.env u) (fun _ s' => ∃ σ' H', Inv X pins σ' H' s' ∧ Q σ' H') X.xe s
def PGs (X : Cx) (ts : List Expr) (t : TGs) : Prop :=
  ∀ (pins : List (Addr × Obj)) (s : Shared) (σ : St) (H : Hp) (vs : List V) (us : List Value) (Q : St → Hp → Prop), Inv X pins σ H s → Vals vs us → t vs σ H Q →
    wpAny (model X.prog X.w) X.A (assignInOrder ((assignEach ts X.env).map (·.2)) us) (fun _ s' => ∃ σ' H', Inv X pins σ' H' s' ∧ Q σ' H') X.xe s
abbrev TSet := V → V → V → Hp → (Hp → Prop) → Prop
def PSet (X : Cx) (t : TSet) : Prop :=
  ∀ (pins : List (Addr × Obj)) (s : Shared) (σ : St) (H : Hp) (o i v : V) (ov iv u : Value) (Q : Hp → Prop), Inv X pins σ H s → RelV o ov → RelV i iv → RelV v u → t o i v H Q →
    wpAny (model X.prog X.w) X.A (setItem ov iv u) (fun _ s' => ∃ H', Inv X pins σ H' s' ∧ Q H') X.xe s
abbrev TIp := V → V → Hp → VK → Prop
def PIp (X : Cx) (op : Operator) (t : TIp) : Prop :=
  ∀ (pins : List (Addr × Obj)) (s : Shared) (σ : St) (H : Hp) (x y : V) (v u : Value) (Q : VK), Inv X pins σ H s → RelV x v → RelV y u → t x y H Q →
    wpAny (model X.prog X.w) X.A (inplaceOp op v u) (EP X pins σ Q) X.xe s
section
variable {X : Cx} {pos : Pos}
def gName (i : Nat) : TG := fun v σ H Q => Q (σ.set i (some v)) H
theorem pg_name {i : Nat} {x : Str} (hN : X.N.Nodup) (hi : X.N[i]? = some x) (hx : Loc X.env.scope x) (hf : X.fn x = true ∨ X.env.scope.names.lookup x = some .local := by first | exact .inl rfl | exact .inr rfl | assumption) : PG X (.Name x pos) (gName i) := by
  intro pins s σ H v u Q I r h
  exact wpAny_assign_Name (store_ok I hN hi hx r (fun s' I' => ⟨_, H, I', h⟩) hf)
def gNil : TGs := fun vs σ H Q => vs = [] ∧ Q σ H
def gCons (t : TG) (u : TGs) : TGs := fun vs σ H Q => ∃ v r, vs = v :: r ∧ t v σ H fun σ' H' => u r σ' H' Q
theorem pgs_nil : PGs X [] gNil := by
  intro pins s σ H vs us Q I r h
  obtain ⟨e, h⟩ := h
  subst e
  cases r
  exact assignInOrder_nil ⟨σ, H, I, h⟩
theorem pgs_cons {e : Expr} {es : List Expr} {t : TG} {u : TGs} (h1 : PG X e t) (h2 : PGs X es u)
    (hs : (assignEach (e :: es) X.env).map (·.2) = assign e X.env :: (assignEach es X.env).map (·.2) := by rfl) : PGs X (e :: es) (gCons t u) := by
  intro pins s σ H vs us Q I r h
  obtain ⟨v, vr, e1, h⟩ := h
  subst e1
  cases r with
  | cons r rr =>
    rw [hs]
    refine assignInOrder_cons (thn (h1 pins s σ H _ _ _ I r h) fun _ s1 ⟨σ1, H1, I1, q1⟩ => ?_)
    exact h2 pins s1 σ1 H1 _ _ Q I1 rr q1
def gTup (K : PySem.W.Frag) (n : Nat) (t : TGs) : TG := fun v σ H Q => ∃ a xs, v = .ref a ∧ SqT K H a xs ∧ xs.length = n ∧ t xs σ H Q
theorem pg_tup {es : List Expr} {k : Nat} {t : TGs} {n : Nat} (hc : X.calm = true) (h : PGs X es t)
    (hn : (assignEach es X.env).length = n := by rfl) (hst : (assignEach es X.env).findIdx? (·.1) = none := by rfl) : PG X (.Tuple es k pos) (gTup X.K n t) := by
  intro pins s σ H v u Q I r hw
  obtain ⟨a, xs, e1, hq, hl, hw⟩ := hw
  subst e1
  cases r
  obtain ⟨its, rv, ht, hz⟩ := I.tuple hq
  refine assign_Tuple_tuple (I.ok.hd hc) ht (by simp [hn, ← hl, rv.length]) hst fun h' hx => ?_
  have I1 : Inv X pins σ H { s with heap := h' } := I.kept (t' := s.toks) fun b o e => hx b o (Nat.ne_of_lt (Heap.lt_size e)) e
  exact h pins _ σ H xs _ Q I1 (by simpa using rv) hw
def gSub (to ti : TE) (t : TSet) : TG := fun v σ H Q => to σ H fun o H1 => ti σ H1 fun i H2 => t o i v H2 fun H3 => Q σ H3
theorem pg_sub {o i : Expr} {to ti : TE} {t : TSet} (ho : PE X o to) (hi : PE X i ti) (hs : PSet X t)
    (ha : ∀ v, assign (.Subscript o i pos) X.env v = (do
      let ov ← holding [v] (eval o X.env)
      let iv ← holding [v, ov] (eval i X.env)
      standAt pos
      holding [v, ov, iv] (setItem ov iv v)
      release [v, ov, iv] []) := by intro _; rfl) : PG X (.Subscript o i pos) (gSub to ti t) := by
  intro pins s σ H v u Q I r h
  rw [ha]
  refine wpAny_bind (wpAny_holding (thn (ho pins s σ H _ I h) fun ov s1 ⟨x, H1, I1, r1, q1⟩ => ?_))
  refine wpAny_bind (wpAny_holding (thn (hi pins s1 σ H1 _ I1 q1) fun iv s2 ⟨y, H2, I2, r2, q2⟩ => ?_))
  refine wpAny_bind (wpAny_standAt (wpAny_bind (wpAny_holding (thn (hs pins s2 σ H2 x y v ov iv u _ I2 r1 r2 r q2) fun _ s3 ⟨H3, I3, q3⟩ => ?_))))
  exact wpAny_release ⟨σ, H3, I3, q3⟩
def tAsg (te : TE) (g : TG) : TS := fun D σ H => te σ H fun x H1 => g x σ H1 D.nx
theorem ps_asg {tg e : Expr} {te : TE} {g : TG} (he : PE X e te) (hg : PG X tg g) (hs : swapsWithSole [tg] e pos.line X.env = pure false := by rfl) (hw : swappedStores [tg] e X.env = pure none := by rfl)
    (h1 : (assignEach [tg] X.env).map (·.2) = [assign tg X.env] := by rfl) : PS X (.Assign [tg] e pos) (tAsg te g) := by
  intro pins s σ H D I h
  refine wpAny_Assign_stores (thn (he pins s σ H _ I h) fun v s1 ⟨x, H1, I1, r1, q1⟩ => ?_) hs hw
  rw [h1]
  exact thn (hg pins s1 σ H1 x v _ I1 r1 q1) fun _ s2 q => q
theorem ps_set {i : Nat} {x : Str} {e : Expr} {te : TE} {pos' : Pos} (hN : X.N.Nodup) (hi : X.N[i]? = some x) (hx : Loc X.env.scope x) (he : PE X e te) (hs : swapsWith e (some (.Name x pos')) pos.line X.env = pure false := by rfl) (hf : X.fn x = true ∨ X.env.scope.names.lookup x = some .local := by first | exact .inl rfl | exact .inr rfl | assumption) :
    PS X (.Assign [.Name x pos'] e pos) (tAsg te (gName i)) := by
  intro pins s σ H D I h
  refine wpAny_Assign_Name (thn (he pins s σ H _ I h) fun v s1 ⟨y, H1, I1, r1, q1⟩ => ?_) hs
  exact store_ok I1 hN hi hx r1 (fun s2 I2 => ⟨_, H1, I2, q1⟩) hf
def tPar (i j : Nat) (ta : TA) : TS := fun D σ H => ta σ H fun vs H1 => ∃ v w, vs = [v, w] ∧ D.nx ((σ.set i (some v)).set j (some w)) H1
theorem ps_par {i j : Nat} {x y : Str} {a b : Expr} {ta : TA} {px py pt : Pos} {kt k2 pt2} (hc : X.calm = true) (hN : X.N.Nodup) (hi : X.N[i]? = some x) (hj : X.N[j]? = some y) (hij : i ≠ j)
    (hx : X.env.scope.names.lookup x = some .local) (hy : X.env.scope.names.lookup y = some .local) (ha : PA X [a, b] ta)
    (hw : swappedStores [.Tuple [.Name x px, .Name y py] kt pt] (.Tuple [a, b] k2 pt2) X.env = pure (some [x, y]))
    (hs : swapsWithSole [.Tuple [.Name x px, .Name y py] kt pt] (.Tuple [a, b] k2 pt2) pos.line X.env = pure false := by rfl) :
    PS X (.Assign [.Tuple [.Name x px, .Name y py] kt pt] (.Tuple [a, b] k2 pt2) pos) (tPar i j ta) := by
  intro pins s σ H D I h
  rw [exec_Assign_arm]
  refine wpAny_bind (wpAny_standAt ?_)
  rw [hs]
  refine wpAny_bind (wpAny_pure ?_)
  rw [if_neg (by decide)]
  refine wpAny_bind (Tuple_ (thn (ha _ pins s σ H _ I h) fun us s1 ⟨vs, H1, I1, r1, q1⟩ => ?_))
  obtain ⟨v, w, e1, q1⟩ := q1
  subst e1
  obtain ⟨u1, u2, rfl, rv, rw'⟩ : ∃ u1 u2, us = [u1, u2] ∧ RelV v u1 ∧ RelV w u2 := by
    cases r1 with
    | cons p q =>
      cases q with
      | cons p' q' =>
        cases q'
        exact ⟨_, _, rfl, p, p'⟩
  refine wpAny_newObj_type ?_ (by show 2 ≤ sizeLine; decide)
  have I2 : Inv X pins σ H1 { s1 with heap := s1.heap.push { cls := .type "tuple", data := .seq [u1, u2].toArray } } := I1.kept (t' := s1.toks) fun b o e => Heap.get?_push_of_some _ e
  rw [hw]
  refine wpAny_bind (wpAny_pure ?_)
  show wpAny (model X.prog X.w) X.A (do rule "assign.swapped-stores"; let items ← unpackItems (.ref s1.heap.objs.size) 2 none; assignInOrder [fun v => bindName X.env y v, fun v => bindName X.env x v] items.reverse; pure Flow.next) _ _ _
  refine wpAny_bind (wpAny_rule (wpAny_bind (unpackItems_tuple (items := #[u1, u2]) (I.ok.hd hc) (IsTup.new s1.heap _) fun h' hx' => ?_)))
  have I3 := I2.kept (h' := h') (t' := s1.toks) fun b o e => hx' b o (Nat.ne_of_lt (Heap.lt_size e)) e
  show wpAny _ _ (assignInOrder [fun v => bindName X.env y v, fun v => bindName X.env x v] [u2, u1] >>= fun _ => pure Flow.next) _ _ _
  refine wpAny_bind (assignInOrder_cons (wpAny_bindName (store_ok I3 hN hj (.inl hy) rw' (fun s2 I4 => ?_) (.inr hy))))
  refine assignInOrder_cons (wpAny_bindName (store_ok I4 hN hi (.inl hx) rv (fun s3 I5 => assignInOrder_nil (wpAny_pure ?_)) (.inr hx)))
  rw [List.set_comm _ _ (Ne.symm hij)] at I5
  exact ⟨_, H1, I5, q1⟩
def tAugS (to ti te : TE) (tget : V → V → Hp → VK → Prop) (tip : TIp) (tset : TSet) : TS := fun D σ H => to σ H fun o H1 => ti σ H1 fun i H2 => tget o i H2 fun x H3 => te σ H3 fun y H4 => tip x y H4 fun z H5 => tset o i z H5 fun H6 => D.nx σ H6
def PGet (X : Cx) (t : V → V → Hp → VK → Prop) : Prop :=
  ∀ (pins : List (Addr × Obj)) (s : Shared) (σ : St) (H : Hp) (o i : V) (ov iv : Value) (Q : VK), Inv X pins σ H s → RelV o ov → RelV i iv → t o i H Q →
    wpAny (model X.prog X.w) X.A (getItem ov iv) (EP X pins σ Q) X.xe s
theorem ps_augS {o i e : Expr} {to ti te : TE} {tget : V → V → Hp → VK → Prop} {tip : TIp} {tset : TSet} {op : Operator} {tpos : Pos} (ho : PE X o to) (hi : PE X i ti) (hg : PGet X tget) (he : PE X e te) (hp : PIp X op tip) (hs : PSet X tset)
    (ha : ∀ ov iv new, augStore i ov iv new = (do holding [new, ov, iv] (setItem ov iv new); release [new, ov, iv] []; pure .next) := by intros; rfl) : PS X (.AugAssign (.Subscript o i tpos) op e pos) (tAugS to ti te tget tip tset) := by
  intro pins s σ H D I h
  refine wpAny_AugAssign_SubscriptAny (thn (ho pins s σ H _ I h) fun ov s1 ⟨x1, H1, I1, r1, q1⟩ => ?_) ha
  refine thn (hi pins s1 σ H1 _ I1 q1) fun iv s2 ⟨x2, H2, I2, r2, q2⟩ => ?_
  refine thn (hg pins s2 σ H2 x1 x2 ov iv _ I2 r1 r2 q2) fun old s3 ⟨x3, H3, I3, r3, q3⟩ => ?_
  refine thn (he pins s3 σ H3 _ I3 q3) fun v s4 ⟨x4, H4, I4, r4, q4⟩ => ?_
  refine thn (hp pins s4 σ H4 x3 x4 old v _ I4 r3 r4 q4) fun new s5 ⟨x5, H5, I5, r5, q5⟩ => ?_
  exact thn (hs pins s5 σ H5 x1 x2 x5 ov iv new _ I5 r1 r2 r5 q5) fun _ s6 ⟨H6, I6, q6⟩ => ⟨σ, H6, I6, q6⟩
def ipI (f : Int → Int → Int) : TIp := fun x y H Q => ∃ i j, x = .int i ∧ y = .int j ∧ Q (.int (f i j)) H
theorem ip_add : PIp X .Add (ipI fun i j => i + j) := by
  intro pins s σ H x y v u Q I r1 r2 h
  obtain ⟨i, j, e1, e2, q⟩ := h
  subst e1; subst e2
  obtain ⟨t, rfl⟩ := r1
  obtain ⟨t', rfl⟩ := r2
  exact iadd_int ⟨.int _, H, I.tok _, ⟨_, rfl⟩, q⟩
theorem ip_sub : PIp X .Sub (ipI fun i j => i - j) := by
  intro pins s σ H x y v u Q I r1 r2 h
  obtain ⟨i, j, e1, e2, q⟩ := h
  subst e1; subst e2
  obtain ⟨t, rfl⟩ := r1
  obtain ⟨t', rfl⟩ := r2
  exact isub_int ⟨.int _, H, I.tok _, ⟨_, rfl⟩, q⟩
end
section
variable {X : Cx} {pos : Pos}
def tWhile (c : TT) (tb : TS) : TS := fun D σ H => ∃ W : Nat → St → Hp → Prop, (∃ m, W m σ H) ∧ ∀ m σ H, W m σ H →
  c σ H fun b H1 => if b = true then ∃ N : St → Hp → Prop, (∀ σ' H', N σ' H' → ∃ m', m' < m ∧ W m' σ' H') ∧ tb { D with nx := N, ct := N, bk := D.nx } σ H1 else D.nx σ H1
theorem ps_while {c : Expr} {body : List Stmt} {tc : TT} {tb : TS} (hp : PassesOwn (model X.prog X.w) X.A X.env X.xe) (hc : PT X c tc) (hb : PSs X body tb) : PS X (.While c body [] pos) (tWhile tc tb) := by
  intro pins s σ H D I h
  obtain ⟨W, ⟨m0, w0⟩, turn⟩ := h
  refine wpAny_While (codeAny_whileLoop (fun n s' => ∃ σ' H', Inv X pins σ' H' s' ∧ W n σ' H') ?_ m0 ⟨σ, H, I, w0⟩)
  rintro n s1 ⟨σ1, H1, I1, w1⟩
  refine wpAny_passesOwn hp (thn (hc pins s1 σ1 H1 _ I1 (turn n σ1 H1 w1)) fun b s2 ⟨H2, I2, q2⟩ => ?_)
  cases b with
  | true =>
    obtain ⟨N, hN, q2⟩ := q2
    rw [if_pos rfl]
    refine wpAny_passesOwn hp (thn (hb pins s2 σ1 H2 _ I2 q2) fun f s3 q3 => ?_)
    cases f with
    | next =>
      obtain ⟨σ3, H3, I3, n3⟩ := q3
      obtain ⟨m', hm, w3⟩ := hN σ3 H3 n3
      exact ⟨m', hm, σ3, H3, I3, w3⟩
    | cont =>
      obtain ⟨σ3, H3, I3, n3⟩ := q3
      obtain ⟨m', hm, w3⟩ := hN σ3 H3 n3
      exact ⟨m', hm, σ3, H3, I3, w3⟩
    | brk => exact q3
    | ret v => exact q3
  | false =>
    rw [if_neg Bool.false_ne_true]
    exact wpAny_execs_nil ⟨σ1, H2, I2, q2⟩
end
structure It where
  go : Nat → Hp → Prop
  yld : Nat → Hp → V → Hp → Prop
  stop : Nat → Hp → Prop
def FpOk (X : Cx) (pins : List (Addr × Obj)) (H : Hp) (b : Addr) : Prop :=
  H b = none ∧ b ≠ X.env.locals ∧ b ∉ X.fs ∧ (b ∈ X.ex ∨ X.s_0.heap.objs.size ≤ b) ∧ (∀ x c, X.env.cells.lookup x = some c → c ≠ b) ∧ ∀ p ∈ X.pn ++ pins, p.1 ≠ b
theorem Inv.fpOk {X : Cx} {pins : List (Addr × Obj)} {σ : St} {H H' : Hp} {s : Shared} {b : Addr} (I : Inv X pins σ H s) (hb : s.heap.objs.size ≤ b) (hn : H' b = none) : FpOk X pins H' b := by
  refine ⟨hn, Nat.ne_of_gt (Nat.lt_of_lt_of_le I.lt hb), I.nofs hb, .inr (Nat.le_trans I.sz hb), fun x c e z => ?_, fun p hp z => ?_⟩
  · obtain ⟨v, q⟩ := I.cell x c e
    exact absurd (Nat.lt_of_lt_of_le q.lt (by rw [z]; exact hb)) (Nat.lt_irrefl _)
  · exact absurd (Nat.lt_of_lt_of_le (Heap.lt_size (I.pin p hp).1) (by rw [z]; exact hb)) (Nat.lt_irrefl _)
structure Turn (P : Program) (w : World) (K : PySem.W.Frag) (tg : Expr) (J : It) (fp : List Addr) (it : Addr) (tn : Nat → Heap → Prop) : Prop where
  mem : it ∈ fp
  obj : ∀ i h, tn i h → ∀ b ∈ fp, ∃ o, h.get? b = some o ∧ ∀ v, o.data ≠ .cell v
  keep : ∀ i h h', tn i h → (∀ b ∈ fp, ∀ o, h.get? b = some o → h'.get? b = some o) → tn i h'
  item : ∀ (X : Cx), X.prog = P → X.w = w → X.K = K → X.calm = true → ∀ (i : Nat) (pins : List (Addr × Obj)) (s : Shared) (σ : St) (H : Hp) (E : Value → Shared → Prop), Inv X pins σ H s → (∀ b ∈ fp, FpOk X pins H b) → tn i s.heap → J.go i H →
    wpAny (model P w) X.A (pyNext (.ref it)) (fun r s1 => ∃ u, r = some u ∧
      wpAny (model P w) X.A (letOwnedTupleGo tg (.ref it) u) (fun _ s2 => ∃ x H', Inv X pins σ H' s2 ∧ RelV x u ∧ J.yld i H x H' ∧ tn (i + 1) s2.heap ∧ ∀ b ∈ fp, H' b = none) E s1) E s
  done : ∀ (X : Cx), X.prog = P → X.w = w → X.K = K → X.calm = true → ∀ (i : Nat) (pins : List (Addr × Obj)) (s : Shared) (σ : St) (H : Hp) (E : Value → Shared → Prop), Inv X pins σ H s → (∀ b ∈ fp, FpOk X pins H b) → tn i s.heap → J.stop i H →
    wpAny (model P w) X.A (pyNext (.ref it)) (fun r s1 => r = none ∧ Inv X pins σ H s1) E s
  self : ∀ (A : Around) (i : Nat) (s : Shared) (Q : Value → Shared → Prop) (E : Value → Shared → Prop), tn i s.heap → Q (.ref it) s → wpAny (model P w) A (pyIter (.ref it)) Q E s
abbrev TI := St → Hp → (It → Hp → Prop) → Prop
def PIE (X : Cx) (pins : List (Addr × Obj)) (σ : St) (tg : Expr) (R : It → Hp → Prop) (itv : Value) (s2 : Shared) : Prop :=
  ∃ (it : Addr) (fp : List Addr) (tn : Nat → Heap → Prop) (J : It) (H' : Hp), itv = .ref it ∧ Inv X pins σ H' s2 ∧ Turn X.prog X.w X.K tg J fp it tn ∧ tn 0 s2.heap ∧ (∀ b ∈ fp, FpOk X pins H' b) ∧ R J H'
def PI (X : Cx) (tg iter : Expr) (wi : TI) : Prop :=
  ∀ (pins : List (Addr × Obj)) (s : Shared) (σ : St) (H : Hp) (R : It → Hp → Prop), Inv X pins σ H s → wi σ H R →
    wpAny (model X.prog X.w) X.A (eval iter X.env) (fun v s1 => wpAny (model X.prog X.w) X.A (pyIter v) (PIE X pins σ tg R) X.xe s1) X.xe s
theorem go_of {M : Model} {A : Around} {E : Value → Shared → Prop} {s : Shared} {tg : Expr} {it : Addr} {u : Value} {o : Obj} {n : String} {vs : Array Value} {Q : Unit → Shared → Prop} (ho : s.heap.get? it = some o) (hc : o.cls = .type n) (hd : o.data = .fields vs)
    (hn : ["enumerate", "zip", "dict_itemiterator", "dict_reverseitemiterator", "odict_iterator", "itertools.zip_longest", "itertools.pairwise"].contains n = false) (hQ : Q () s) : wpAny M A (letOwnedTupleGo tg (.ref it) u) Q E s := by
  unfold letOwnedTupleGo
  cases tg <;> first
    | exact wpAny_pure hQ
    | (cases u <;> first
        | exact wpAny_pure hQ
        | (refine wpAny_bind (wpAny_load ho ?_)
           rw [hc, hd]
           show wpAny M A (if (["enumerate", "zip", "dict_itemiterator", "dict_reverseitemiterator", "odict_iterator", "itertools.zip_longest", "itertools.pairwise"].contains n && vs[0]? == some (rawInt _)) = true then _ else _) Q E s
           rw [if_neg (by intro h; rw [hn, Bool.false_and] at h; cases h)]
           exact wpAny_pure hQ))
def Itl (K : PySem.W.Frag) (a : Addr) : It :=
  ⟨fun i H => ∃ xs x, SqL K H a xs ∧ xs[i]? = some x, fun i H x H' => H' = H ∧ ∀ xs, SqL K H a xs → xs[i]? = some x, fun i H => ∃ xs, SqL K H a xs ∧ xs.length ≤ i⟩
def Itt (K : PySem.W.Frag) (a : Addr) : It :=
  ⟨fun i H => ∃ xs x, SqT K H a xs ∧ xs[i]? = some x, fun i H x H' => H' = H ∧ ∀ xs, SqT K H a xs → xs[i]? = some x, fun i H => ∃ xs, SqT K H a xs ∧ xs.length ≤ i⟩
def Itr (lo : Int) (n : Nat) : It := ⟨fun i _ => i < n, fun i H x H' => H' = H ∧ x = .int (lo + i), fun i _ => n ≤ i⟩
theorem turn_list {P : Program} {w : World} {K : PySem.W.Frag} {tg : Expr} (a it : Addr) : Turn P w K tg (Itl K a) [it] it (fun i h => h.IsListIter it a i) where
  mem := by simp
  obj := fun i h st b hb => by
    have e : b = it := by simpa using hb
    subst e
    obtain ⟨o, e, c, d⟩ := st
    exact ⟨o, e, fun v z => by rw [d] at z; cases z⟩
  keep := fun i h h' st k => st.at fun o e => k it (by simp) o e
  item := by
    intro X hP hw hK hc i pins s σ H E I hf st hg
    subst hP hw hK
    obtain ⟨xs, x, hq, hx⟩ := hg
    obtain ⟨its, rv, p, hz⟩ := I.list hq
    obtain ⟨u, hu, ru⟩ := rv.get hx
    obtain ⟨f0, f1, f2, f3, f4, f5⟩ := hf it (by simp)
    refine wpAny_pyNext_list_item st p.isList (x := u) (by simpa using hu) fun h' st' sb => ?_
    have I1 : Inv X pins σ H { s with heap := h' } := I.turned (t' := s.toks) (fun b o hb e => (sb.2 b hb).trans e) f0 f1 f3 f4 f5
    obtain ⟨o, e, c, d⟩ := id st'
    exact ⟨u, rfl, go_of (s := { s with heap := h' }) e c d (by decide) ⟨x, H, I1, ru, ⟨rfl, fun ys hy => by rw [I.list_inj hy hq]; exact hx⟩, st', fun b hb => (hf b hb).1⟩⟩
  done := by
    intro X hP hw hK hc i pins s σ H E I hf st hg
    subst hP hw hK
    obtain ⟨xs, hq, hx⟩ := hg
    obtain ⟨its, rv, p, hz⟩ := I.list hq
    obtain ⟨f0, f1, f2, f3, f4, f5⟩ := hf it (by simp)
    have hl := rv.length
    exact wpAny_pyNext_list_end (I.ok.hd hc) st p.isList (by simp; omega) fun h' eb => ⟨rfl, I.turned (t' := s.toks) (fun b o hb e => eb b o hb e) f0 f1 f3 f4 f5⟩
  self := fun _ _ _ _ _ st h => wpAny_pyIter_listiter st h
theorem turn_tuple {P : Program} {w : World} {K : PySem.W.Frag} {tg : Expr} (a it : Addr) : Turn P w K tg (Itt K a) [it] it (fun i h => h.IsTupleIter it a i) where
  mem := by simp
  obj := fun i h st b hb => by
    have e : b = it := by simpa using hb
    subst e
    obtain ⟨o, e, c, d⟩ := st
    exact ⟨o, e, fun v z => by rw [d] at z; cases z⟩
  keep := fun i h h' st k => st.at fun o e => k it (by simp) o e
  item := by
    intro X hP hw hK hc i pins s σ H E I hf st hg
    subst hP hw hK
    obtain ⟨xs, x, hq, hx⟩ := hg
    obtain ⟨its, rv, p, hz⟩ := I.tuple hq
    obtain ⟨u, hu, ru⟩ := rv.get hx
    obtain ⟨f0, f1, f2, f3, f4, f5⟩ := hf it (by simp)
    refine wpAny_pyNext_tuple_item st (show s.heap.IsTuple a its.toArray from p) (x := u) (by simpa using hu) fun h' st' sb => ?_
    have I1 : Inv X pins σ H { s with heap := h' } := I.turned (t' := s.toks) (fun b o hb e => (sb.2 b hb).trans e) f0 f1 f3 f4 f5
    obtain ⟨o, e, c, d⟩ := id st'
    exact ⟨u, rfl, go_of (s := { s with heap := h' }) e c d (by decide) ⟨x, H, I1, ru, ⟨rfl, fun ys hy => by rw [I.tuple_inj hy hq]; exact hx⟩, st', fun b hb => (hf b hb).1⟩⟩
  done := by
    intro X hP hw hK hc i pins s σ H E I hf st hg
    subst hP hw hK
    obtain ⟨xs, hq, hx⟩ := hg
    obtain ⟨its, rv, p, hz⟩ := I.tuple hq
    obtain ⟨f0, f1, f2, f3, f4, f5⟩ := hf it (by simp)
    have hl := rv.length
    exact wpAny_pyNext_tuple_end (I.ok.hd hc) st (show s.heap.IsTuple a its.toArray from p) (by simp; omega) fun h' eb => ⟨rfl, I.turned (t' := s.toks) (fun b o hb e => eb b o hb e) f0 f1 f3 f4 f5⟩
  self := fun _ _ _ _ _ st h => wpAny_pyIter_tupleiter st h
theorem turn_range {P : Program} {w : World} {K : PySem.W.Frag} {tg : Expr} (it : Addr) (lo : Int) (n : Nat) : Turn P w K tg (Itr lo n) [it] it (fun i h => IsRangeIter h it (lo + (i : Nat) * 1) ((n : Int) - (i : Nat)) 1) where
  mem := by simp
  obj := fun i h st b hb => by
    have e : b = it := by simpa using hb
    subst e
    exact ⟨_, st, fun v z => by
      have z' : Data.fields _ = Data.cell v := z
      cases z'⟩
  keep := fun i h h' st k => k it (by simp) _ st
  item := by
    intro X hP hw hK hc i pins s σ H E I hf st hg
    subst hP hw hK
    obtain ⟨f0, f1, f2, f3, f4, f5⟩ := hf it (by simp)
    have W := Walks.range (prog := X.prog) (w := X.w) (I.ok.hd hc) it lo 1 n
    refine W.item i s _ _ hg st fun v h' tk hv st' kk => ?_
    obtain ⟨t, rfl⟩ := hv
    have I1 : Inv X pins σ H { s with heap := h', toks := tk } := I.turned (fun b o hb e => kk b o (by simpa using hb) e) f0 f1 f3 f4 f5
    refine ⟨_, rfl, go_of (s := { s with heap := h', toks := tk }) (n := "range_iterator") st' rfl rfl (by decide) ⟨.int (lo + i), H, I1, ⟨t, ?_⟩, ⟨rfl, rfl⟩, st', fun b hb => (hf b hb).1⟩⟩
    rw [Int.mul_one]
  done := by
    intro X hP hw hK hc i pins s σ H E I hf st hg
    subst hP hw hK
    obtain ⟨f0, f1, f2, f3, f4, f5⟩ := hf it (by simp)
    exact wpAny_pyNext_range_end (I.ok.hd hc) st (by have : n ≤ i := hg; omega) fun h' eb => ⟨rfl, I.turned (t' := s.toks) (fun b o hb e => eb b o hb e) f0 f1 f3 f4 f5⟩
  self := fun _ _ _ _ _ st h => wpAny_pyIter_rangeiter st h
end L2
namespace L2
open PySem PySem.Spec PyProof.Rows
section
variable {X : Cx} {tg : Expr}
def iList (K : PySem.W.Frag) (tl : TE) : TI := fun σ H R => tl σ H fun x H1 => ∃ a, x = .ref a ∧ (∃ xs, SqL K H1 a xs) ∧ R (Itl K a) H1
def iTup (K : PySem.W.Frag) (tl : TE) : TI := fun σ H R => tl σ H fun x H1 => ∃ a, x = .ref a ∧ (∃ xs, SqT K H1 a xs) ∧ R (Itt K a) H1
theorem pi_list {l : Expr} {tl : TE} (hl : PE X l tl) : PI X tg l (iList X.K tl) := by
  intro pins s σ H R I h
  refine thn (hl pins s σ H _ I h) fun v s1 ⟨x, H1, I1, r1, q1⟩ => ?_
  obtain ⟨a, e, ⟨xs, hq⟩, q⟩ := q1
  subst e
  cases r1
  obtain ⟨its, rv, p, hz⟩ := I1.list hq
  refine wpAny_pyIter_list p.isList ?_
  refine ⟨s1.heap.objs.size, [s1.heap.objs.size], _, _, H1, rfl, I1.kept (t' := s1.toks) fun b o e => Heap.get?_push_of_some _ e, turn_list a _, ⟨_, Heap.get?_push_size _ rfl, rfl, rfl⟩, fun b hb => ?_, q⟩
  have e : b = s1.heap.objs.size := by simpa using hb
  subst e
  exact I1.fpOk (Nat.le_refl _) (I1.hok.fresh (Nat.le_refl _))
theorem pi_tup {l : Expr} {tl : TE} (hl : PE X l tl) : PI X tg l (iTup X.K tl) := by
  intro pins s σ H R I h
  refine thn (hl pins s σ H _ I h) fun v s1 ⟨x, H1, I1, r1, q1⟩ => ?_
  obtain ⟨a, e, ⟨xs, hq⟩, q⟩ := q1
  subst e
  cases r1
  obtain ⟨its, rv, p, hz⟩ := I1.tuple hq
  refine wpAny_pyIter_tuple (show s1.heap.IsTuple a its.toArray from p) ?_
  refine ⟨s1.heap.objs.size, [s1.heap.objs.size], _, _, H1, rfl, I1.kept (t' := s1.toks) fun b o e => Heap.get?_push_of_some _ e, turn_tuple a _, ⟨_, Heap.get?_push_size _ rfl, rfl, rfl⟩, fun b hb => ?_, q⟩
  have e : b = s1.heap.objs.size := by simpa using hb
  subst e
  exact I1.fpOk (Nat.le_refl _) (I1.hok.fresh (Nat.le_refl _))
theorem range_it {pins : List (Addr × Obj)} {σ : St} {H : Hp} {s : Shared} {R : It → Hp → Prop} {E : Value → Shared → Prop} {lo hi : Int} {t u v : Tok} {tk : Nat} (I : Inv X pins σ H s) (h1 : -(2 ^ 62) ≤ lo) (h2 : lo < 2 ^ 62) (h3 : -(2 ^ 62) ≤ hi) (h4 : hi < 2 ^ 62)
    (q : R (Itr lo (hi - lo).toNat) H) : wpAny (model X.prog X.w) X.A (pyIter (.ref s.heap.objs.size)) (PIE X pins σ tg R) E { s with heap := s.heap.push { cls := .type "range", data := .fields #[.int lo t, .int hi u, .int 1 v] }, toks := tk } := by
  refine wpAny_pyIter_range (IsRange.new ..) (small_one h1 h2 h3 h4) ?_
  have I1 : Inv X pins σ H { s with heap := s.heap.push { cls := .type "range", data := .fields #[.int lo t, .int hi u, .int 1 v] }, toks := tk } := I.kept fun b o e => Heap.get?_push_of_some _ e
  refine ⟨(s.heap.push { cls := .type "range", data := .fields #[.int lo t, .int hi u, .int 1 v] }).objs.size, [(s.heap.push { cls := .type "range", data := .fields #[.int lo t, .int hi u, .int 1 v] }).objs.size], _, _, H, rfl,
    I1.kept (t' := tk) fun b o e => Heap.get?_push_of_some _ e, turn_range _ lo (hi - lo).toNat, ?_, fun b hb => ?_, q⟩
  · have e1 : lo + ((0 : Nat) : Int) * 1 = lo := by simp
    have e2 : (((hi - lo).toNat : Nat) : Int) - ((0 : Nat) : Int) = Builtin.Range.rangeSize lo hi 1 := by rw [rangeSize_one]; split <;> omega
    show IsRangeIter _ _ (lo + ((0 : Nat) : Int) * 1) ((((hi - lo).toNat : Nat) : Int) - ((0 : Nat) : Int)) 1
    rw [e1, e2]
    exact Heap.get?_push_size _ rfl
  · have e : b = (s.heap.push { cls := .type "range", data := .fields #[.int lo t, .int hi u, .int 1 v] }).objs.size := by simpa using hb
    subst e
    exact I1.fpOk (Nat.le_refl _) (I1.hok.fresh (Nat.le_refl _))
def iRng1 (ta : TA) : TI := fun σ H R => ta σ H fun vs H1 => ∃ j : Int, vs = [.int j] ∧ -(2 ^ 62) ≤ j ∧ j < 2 ^ 62 ∧ R (Itr 0 j.toNat) H1
theorem pi_range1 {a : Expr} {ta : TA} {p pos : Pos} (hg : Gl X "range") (hm : X.mg "range" = none) (ha : PA X [a] ta) (hs : starEach [a] X.env = [(false, eval a X.env)] := by rfl) : PI X tg (.Call (.Name "range" p) [a] [] pos) (iRng1 ta) := by
  intro pins s σ H R I h
  refine Call_ (ld_blt I hg hm boot_range (PyProof.Rows.callWith_type1 (thn (ha pos pins s σ H _ I h) fun us s1 ⟨vs, H1, I1, r1, q1⟩ => ?_) hs rfl))
  obtain ⟨j, e, q1, q2, q⟩ := q1
  subst e
  cases r1 with
  | cons r rr =>
    cases rr
    obtain ⟨t, rfl⟩ := r
    exact call_range_1 (range_it I1 (by omega) (by omega) q1 q2 (by simpa using q))
def tFor (wi : TI) (g : TG) (tb : TS) : TS := fun D σ H => wi σ H fun J H1 => ∃ W : Nat → Nat → St → Hp → Prop, (∃ m, W 0 m σ H1) ∧ ∀ i m σ H, W i m σ H →
  (J.stop i H ∧ D.nx σ H) ∨ (J.go i H ∧ ∃ N : St → Hp → Prop, (∀ σ' H', N σ' H' → ∃ m', m' < m ∧ W (i + 1) m' σ' H') ∧ ∀ x H', J.yld i H x H' → g x σ H' fun σ2 H2 => tb { D with nx := N, ct := N, bk := D.nx } σ2 H2)
def pinsAt (fp : List Addr) (h : Heap) : List (Addr × Obj) := fp.filterMap fun b => (h.get? b).map fun o => (b, o)
theorem mem_pinsAt {fp : List Addr} {h : Heap} {b : Addr} {o : Obj} (hb : b ∈ fp) (e : h.get? b = some o) : (b, o) ∈ pinsAt fp h := List.mem_filterMap.mpr ⟨b, hb, by rw [e]; rfl⟩
theorem of_pinsAt {fp : List Addr} {h : Heap} {p : Addr × Obj} (hp : p ∈ pinsAt fp h) : p.1 ∈ fp ∧ h.get? p.1 = some p.2 := by
  obtain ⟨b, hb, e⟩ := List.mem_filterMap.mp hp
  cases q : h.get? b with
  | none => rw [q] at e; cases e
  | some o =>
    rw [q] at e
    have e' : (b, o) = p := Option.some.inj e
    subst e'
    exact ⟨hb, q⟩
theorem Inv.pinned {pins : List (Addr × Obj)} {σ : St} {H : Hp} {s : Shared} {fp : List Addr} (I : Inv X pins σ H s) (hf : ∀ b ∈ fp, FpOk X pins H b) (ho : ∀ b ∈ fp, ∃ o, s.heap.get? b = some o ∧ ∀ v, o.data ≠ .cell v) : Inv X (pins ++ pinsAt fp s.heap) σ H s :=
  I.pins_of fun p hp => (List.mem_append.mp hp).elim (fun z => I.pin p (List.mem_append_right _ z)) fun z => by
    obtain ⟨hb, e⟩ := of_pinsAt z
    obtain ⟨f0, f1, f2, _⟩ := hf p.1 hb
    obtain ⟨o, e', d⟩ := ho p.1 hb
    rw [e] at e'; cases e'
    exact ⟨e, f0, f1, f2, d⟩
theorem Inv.unpinned {pins pl : List (Addr × Obj)} {σ : St} {H : Hp} {s : Shared} (I : Inv X (pins ++ pl) σ H s) : Inv X pins σ H s := I.pins_of fun p hp => I.pin p (List.mem_append_right _ (List.mem_append_left _ hp))
theorem ps_for {iter : Expr} {body : List Stmt} {wi : TI} {g : TG} {tb : TS} {pos : Pos} (hp : PassesOwn (model X.prog X.w) X.A X.env X.xe) (hc : X.calm = true) (hi : PI X tg iter wi) (hg : PG X tg g) (hb : PSs X body tb)
    (hs : ∀ x, foldedSetIterable iter X.env x = pure x := by intro _; rfl) : PS X (.For tg iter body [] pos) (tFor wi g tb) := by
  intro pins s σ H D I h
  refine wpAny_For (thn (hi pins s σ H _ I h) fun v s1 h1 => thn h1 fun itv s2 h2 => ?_) hs
  obtain ⟨it, fp, tn, J, H2, e, I2, T, st2, f2, W, ⟨m0, w0⟩, turn⟩ := h2
  subst e
  -- what stays true of the iterator's objects through the loop
  have stat : ∀ {H' : Hp}, (∀ b ∈ fp, H' b = none) → ∀ b ∈ fp, FpOk X pins H' b := fun hn b hb => ⟨hn b hb, (f2 b hb).2⟩
  refine codeAny_forLoop_any (fun n s' => ∃ i σ' H', Inv X pins σ' H' s' ∧ tn i s'.heap ∧ (∀ b ∈ fp, H' b = none) ∧ W i n σ' H') ?_ m0 ⟨0, σ, H2, I2, st2, fun b hb => (f2 b hb).1, w0⟩
  rintro n s3 ⟨i, σ3, H3, I3, st3, fr3, w3⟩
  rcases turn i n σ3 H3 w3 with ⟨stop, qn⟩ | ⟨go, N, hN, step⟩
  · refine wpAny_passesOwn hp (thn (T.done X rfl rfl rfl hc i pins s3 σ3 H3 X.xe I3 (stat fr3) st3 stop) fun r s4 ⟨hr, I4⟩ => ?_)
    subst hr
    exact wpAny_execs_nil ⟨σ3, H3, I4, qn⟩
  · refine wpAny_passesOwn hp (thn (T.item X rfl rfl rfl hc i pins s3 σ3 H3 X.xe I3 (stat fr3) st3 go) fun r s4 ⟨u, hr, h4⟩ => ?_)
    subst hr
    refine wpAny_passesOwn hp (thn h4 fun _ s5 ⟨x, H5, I5, r5, y5, st5, fr5⟩ => ?_)
    have I5' := I5.pinned (stat fr5) (T.obj _ _ st5)
    refine wpAny_passesOwn hp (thn (hg _ s5 σ3 H5 x u _ I5' r5 (step x H5 y5)) fun _ s6 ⟨σ6, H6, I6, q6⟩ => ?_)
    refine wpAny_passesOwn hp (thn (hb _ s6 σ6 H6 _ I6 q6) fun f s7 q7 => ?_)
    have again : ∀ {σ7 : St} {H7 : Hp}, Inv X (pins ++ pinsAt fp s5.heap) σ7 H7 s7 → N σ7 H7 → ∃ m, m < n ∧ ∃ i σ' H', Inv X pins σ' H' s7 ∧ tn i s7.heap ∧ (∀ b ∈ fp, H' b = none) ∧ W i m σ' H' := fun {σ7 H7} I7 n7 => by
      obtain ⟨m', hm, w7⟩ := hN σ7 H7 n7
      refine ⟨m', hm, i + 1, σ7, H7, I7.unpinned, T.keep _ _ _ st5 fun b hb o e => (I7.pin (b, o) (List.mem_append_right _ (List.mem_append_right _ (mem_pinsAt hb e)))).1, fun b hb => ?_, w7⟩
      obtain ⟨o, e, d⟩ := T.obj _ _ st5 b hb
      exact (I7.pin (b, o) (List.mem_append_right _ (List.mem_append_right _ (mem_pinsAt hb e)))).2.1
    cases f with
    | next => obtain ⟨σ7, H7, I7, n7⟩ := q7; exact again I7 n7
    | cont => obtain ⟨σ7, H7, I7, n7⟩ := q7; exact again I7 n7
    | brk => obtain ⟨σ7, H7, I7, q7⟩ := q7; exact ⟨σ7, H7, I7.unpinned, q7⟩
    | ret v => obtain ⟨x7, σ7, H7, I7, r7, q7⟩ := q7; exact ⟨x7, σ7, H7, I7.unpinned, r7, q7⟩
end
end L2
namespace L2
open PySem PySem.Spec PyProof.Rows
abbrev R2 := V → V → Hp → VK → Prop
def OpR (X : Cx) (f : Value → Value → Sem Value) (r : R2) : Prop :=
  ∀ (pins : List (Addr × Obj)) (s : Shared) (σ : St) (H : Hp) (x y : V) (v u : Value) (Q : VK), Inv X pins σ H s → RelV x v → RelV y u → r x y H Q →
    wpAny (model X.prog X.w) X.A (f v u) (EP X pins σ Q) X.xe s
def UnR (X : Cx) (f : Value → Sem Value) (r : V → Hp → VK → Prop) : Prop :=
  ∀ (pins : List (Addr × Obj)) (s : Shared) (σ : St) (H : Hp) (x : V) (v : Value) (Q : VK), Inv X pins σ H s → RelV x v → r x H Q →
    wpAny (model X.prog X.w) X.A (f v) (EP X pins σ Q) X.xe s
def CallR (X : Cx) (f : Value) (r : List V → Hp → VK → Prop) : Prop :=
  ∀ (pins : List (Addr × Obj)) (s : Shared) (σ : St) (H : Hp) (xs : List V) (us : List Value) (Q : VK), Inv X pins σ H s → Vals xs us → r xs H Q →
    wpAny (model X.prog X.w) X.A (call f us) (EP X pins σ Q) X.xe s
def tOp (r : R2) (ta tb : TE) : TE := fun σ H Q => ta σ H fun x H1 => tb σ H1 fun y H2 => r x y H2 Q
def tUn (r : V → Hp → VK → Prop) (ta : TE) : TE := fun σ H Q => ta σ H fun x H1 => r x H1 Q
def rI (C : Int → Int → Prop) (g : Int → Int → V) : R2 := fun x y H Q => ∃ i j, x = .int i ∧ y = .int j ∧ C i j ∧ Q (g i j) H
def rI0 (g : Int → Int → V) : R2 := fun x y H Q => ∃ i j, x = .int i ∧ y = .int j ∧ Q (g i j) H
def rU (g : Int → V) : V → Hp → VK → Prop := fun x H Q => ∃ i, x = .int i ∧ Q (g i) H
section
variable {X : Cx} {a b c : Expr} {ta tb tc : TE} {pos : Pos}
theorem binT (ha : PE X a ta) (hb : PE X b tb) {pins : List (Addr × Obj)} {s : Shared} {σ : St} {H : Hp} {R : V → V → Hp → Prop} (I : Inv X pins σ H s)
    (h : ta σ H fun x H1 => tb σ H1 fun y H2 => R x y H2) {Q : Value → Shared → Prop} {f : Value → Value → Sem Value}
    (hf : ∀ v u s2 x y H2, Inv X pins σ H2 s2 → RelV x v → RelV y u → R x y H2 → wpAny (model X.prog X.w) X.A (f v u) Q X.xe s2) :
    wpAny (model X.prog X.w) X.A (eval a X.env) (fun v s₁ => wpAny (model X.prog X.w) X.A (eval b X.env) (fun u s₂ => wpAny (model X.prog X.w) X.A (f v u) Q X.xe s₂) X.xe s₁) X.xe s := by
  refine thn (ha pins s σ H _ I h) fun v s1 ⟨x, H1, I1, r1, q1⟩ => ?_
  refine thn (hb pins s1 σ H1 _ I1 q1) fun u s2 ⟨y, H2, I2, r2, q2⟩ => ?_
  exact hf v u s2 x y H2 I2 r1 r2 q2
theorem pe_op {op : Operator} {r : R2} (ho : OpR X (binaryOp op) r) (ha : PE X a ta) (hb : PE X b tb) : PE X (.BinOp a op b pos) (tOp r ta tb) := by
  intro pins s σ H Q I h
  exact wpAny_BinOp (binT ha hb I h fun v u s2 x y H2 I2 rx ry q => ho pins s2 σ H2 x y v u Q I2 rx ry q)
theorem pe_un {op : UnaryOp} {r : V → Hp → VK → Prop} (ho : UnR X (unaryOp op) r) (ha : PE X a ta) : PE X (.UnaryOp op a pos) (tUn r ta) := by
  intro pins s σ H Q I h
  exact UnaryOp_ (thn (ha pins s σ H _ I h) fun v s1 ⟨x, H1, I1, r1, q1⟩ => ho pins s1 σ H1 x v Q I1 r1 q1)
theorem opI {f : Value → Value → Sem Value} {C : Int → Int → Prop} {g : Int → Int → Int}
    (rule : ∀ (i j : Int) (t u : Tok) (s : Shared) (Q : Value → Shared → Prop) (E : Value → Shared → Prop), C i j → Q (.int (g i j) s.toks) { s with toks := s.toks + 1 } → wpAny (model X.prog X.w) X.A (f (.int i t) (.int j u)) Q E s) :
    OpR X f (rI C fun i j => .int (g i j)) := by
  intro pins s σ H x y v u Q I rx ry h
  obtain ⟨i, j, rfl, rfl, hc, q⟩ := h
  obtain ⟨t, rfl⟩ := rx
  obtain ⟨t', rfl⟩ := ry
  exact rule i j t t' s _ _ hc ⟨.int (g i j), H, I.tok _, ⟨_, rfl⟩, q⟩
theorem opI0 {f : Value → Value → Sem Value} {g : Int → Int → Int}
    (rule : ∀ (i j : Int) (t u : Tok) (s : Shared) (Q : Value → Shared → Prop) (E : Value → Shared → Prop), Q (.int (g i j) s.toks) { s with toks := s.toks + 1 } → wpAny (model X.prog X.w) X.A (f (.int i t) (.int j u)) Q E s) :
    OpR X f (rI0 fun i j => .int (g i j)) := by
  intro pins s σ H x y v u Q I rx ry h
  obtain ⟨i, j, rfl, rfl, q⟩ := h
  obtain ⟨t, rfl⟩ := rx
  obtain ⟨t', rfl⟩ := ry
  exact rule i j t t' s _ _ ⟨.int (g i j), H, I.tok _, ⟨_, rfl⟩, q⟩
theorem opB0 {f : Value → Value → Sem Value} {g : Int → Int → Bool}
    (rule : ∀ (i j : Int) (t u : Tok) (s : Shared) (Q : Value → Shared → Prop) (E : Value → Shared → Prop), Q (.bool (g i j)) s → wpAny (model X.prog X.w) X.A (f (.int i t) (.int j u)) Q E s) :
    OpR X f (rI0 fun i j => .bl (g i j)) := by
  intro pins s σ H x y v u Q I rx ry h
  obtain ⟨i, j, rfl, rfl, q⟩ := h
  obtain ⟨t, rfl⟩ := rx
  obtain ⟨t', rfl⟩ := ry
  exact rule i j t t' s _ _ ⟨.bl (g i j), H, I, rfl, q⟩
def CDivN (i j : Int) : Prop := j ≠ 0 ∧ j.natAbs < 1073741824
def CPow (i j : Int) : Prop := 0 ≤ j ∧ j ≤ 1000000 ∧ i.natAbs < 2 ^ 64
def CMul (i j : Int) : Prop := (-(2 ^ 64) < i ∧ i < 2 ^ 64) ∨ (-(2 ^ 64) < j ∧ j < 2 ^ 64)
theorem CMul.ok {i j : Int} (h : CMul i j) : IntMulOk i j := by
  rcases h with ⟨h1, h2⟩ | ⟨h1, h2⟩
  · exact .of_left (intBits_le_64 h1 h2)
  · exact .of_right (intBits_le_64 h1 h2)
theorem op_add : OpR X (binaryOp .Add) (rI0 fun i j => .int (i + j)) := opI0 fun _ _ _ _ _ _ _ q => add_int q
theorem op_sub : OpR X (binaryOp .Sub) (rI0 fun i j => .int (i - j)) := opI0 fun _ _ _ _ _ _ _ q => sub_int q
theorem op_fdivN : OpR X (binaryOp .FloorDiv) (rI CDivN fun i j => .int (i.fdiv j)) := opI fun _ _ _ _ _ _ _ hc q => floordiv_int hc.1 q (.inl (PyProof.noPylong_small hc.2))
theorem op_modN : OpR X (binaryOp .Mod) (rI (fun _ j => j ≠ 0) fun i j => .int (i.fmod j)) := opI fun _ _ _ _ _ _ _ hc q => mod_int' hc q
theorem op_pow : OpR X (binaryOp .Pow) (rI CPow fun i j => .int (i ^ j.toNat)) := opI fun _ _ _ _ _ _ _ hc q => pow_int_small hc.1 hc.2.1 hc.2.2 q
theorem unI {f : Value → Sem Value} {g : Int → Int}
    (rule : ∀ (i : Int) (t : Tok) (s : Shared) (Q : Value → Shared → Prop) (E : Value → Shared → Prop), Q (.int (g i) s.toks) { s with toks := s.toks + 1 } → wpAny (model X.prog X.w) X.A (f (.int i t)) Q E s) :
    UnR X f (rU fun i => .int (g i)) := by
  intro pins s σ H x v Q I rx h
  obtain ⟨i, rfl, q⟩ := h
  obtain ⟨t, rfl⟩ := rx
  exact rule i t s _ _ ⟨.int (g i), H, I.tok _, ⟨_, rfl⟩, q⟩
theorem un_neg : UnR X (unaryOp .USub) (rU fun i => .int (-i)) := unI fun _ _ _ _ _ q => neg_int q
end
section
variable {X : Cx} {a b c : Expr} {ta tb tc : TE} {pos : Pos}
theorem op_lt : OpR X (compareOp .Lt) (rI0 fun i j => .bl (decide (i < j))) := opB0 fun _ _ _ _ _ _ _ q => lt_int q
theorem op_le : OpR X (compareOp .LtE) (rI0 fun i j => .bl (decide (i ≤ j))) := opB0 fun _ _ _ _ _ _ _ q => le_int q
theorem op_ge : OpR X (compareOp .GtE) (rI0 fun i j => .bl (decide (j ≤ i))) := opB0 fun _ _ _ _ _ _ _ q => ge_int q
theorem OpR.or {f : Value → Value → Sem Value} {r r' : R2} (h : OpR X f r) (h' : OpR X f r') : OpR X f (fun x y H Q => r x y H Q ∨ r' x y H Q) := by
  intro pins s σ H x y v u Q I rx ry q
  rcases q with q | q
  · exact h pins s σ H x y v u Q I rx ry q
  · exact h' pins s σ H x y v u Q I rx ry q
theorem nomark (b : Expr) {op : CmpOp} (h : op ≠ .In := by decide) (h2 : op ≠ .NotIn := by decide) : behindInMarks op b = false := by
  have e1 : (op == CmpOp.In) = false := by cases op <;> first | rfl | exact absurd rfl h
  have e2 : (op == CmpOp.NotIn) = false := by cases op <;> first | rfl | exact absurd rfl h2
  cases b <;> simp [behindInMarks, e1, e2]
theorem pe_cmpR {op : CmpOp} {r : R2} (ho : OpR X (compareOp op) r) (ha : PE X a ta) (hb : PE X b tb) (hm : behindInMarks op b = false) : PE X (.Compare a [op] [b] pos) (tOp r ta tb) := by
  intro pins s σ H Q I h
  exact wpAny_Compare1 (binT ha hb I h fun v u s2 x y H2 I2 rx ry q => ho pins s2 σ H2 x y v u Q I2 rx ry q) hm
def tTest (t : TE) : TT := fun σ H Q => t σ H fun x H' => ∃ k, x = .bl k ∧ Q k H'
theorem pt_cmpR {op : CmpOp} {r : R2} (ho : OpR X (compareOp op) r) (ha : PE X a ta) (hb : PE X b tb) (hm : behindInMarks op b = false) : PT X (.Compare a [op] [b] pos) (tTest (tOp r ta tb)) := by
  intro pins s σ H Q I h
  refine wpAny_isTrue_Compare1 (thn (ha pins s σ H _ I h) fun v s1 ⟨x, H1, I1, r1, q1⟩ => thn (hb pins s1 σ H1 _ I1 q1) fun u s2 ⟨y, H2, I2, r2, q2⟩ =>
    thn (ho pins s2 σ H2 x y v u _ I2 r1 r2 q2) fun c s3 ⟨z, H3, I3, r3, k, e, q3⟩ => ?_) hm
  subst e
  cases r3
  exact wpAny_truthy_bool ⟨H3, I3, q3⟩
def tChain (r r' : R2) (ta tb tc : TE) : TE := fun σ H Q => ta σ H fun x H1 => tb σ H1 fun y H2 => r x y H2 fun z H3 => ∃ k, z = .bl k ∧
  (if k = true then tc σ H3 fun w' H4 => r' y w' H4 Q else Q (.bl false) H3)
theorem pe_chain {op op' : CmpOp} {r r' : R2} (ho : OpR X (compareOp op) r) (ho' : OpR X (compareOp op') r') (ha : PE X a ta) (hb : PE X b tb) (hc : PE X c tc)
    (hm : lastMarks [op, op'] [b, c] = false := by with_unfolding_all rfl) : PE X (.Compare a [op, op'] [b, c] pos) (tChain r r' ta tb tc) := by
  intro pins s σ H Q I h
  refine Compare_chain (thn (ha pins s σ H _ I h) fun v s1 ⟨x, H1, I1, r1, q1⟩ => chain_link (thn (hb pins s1 σ H1 _ I1 q1) fun u s2 ⟨y, H2, I2, r2, q2⟩ =>
    thn (ho pins s2 σ H2 x y v u _ I2 r1 r2 q2) fun d s3 ⟨z, H3, I3, r3, k, e, q3⟩ => ?_)) hm
  subst e
  cases r3
  refine wpAny_truthy_bool ?_
  cases k with
  | false => exact ite_ff ⟨.bl false, H3, I3, rfl, q3⟩
  | true => exact ite_tt (chain_last (thn (hc pins s3 σ H3 _ I3 q3) fun w' s4 ⟨z', H4, I4, r4, q4⟩ => ho' pins s4 σ H4 y z' u w' Q I4 r2 r4 q4))
theorem line63 : (sizeLine : Nat) < 2 ^ 63 := by rw [sizeLine_eq]; decide
theorem vals1 {x : V} {us : List Value} (r : Vals [x] us) : ∃ u, us = [u] ∧ RelV x u := by
  cases r with
  | cons r1 r2 => cases r2; exact ⟨_, rfl, r1⟩
end
end L2
namespace L2
open PySem PySem.Spec PyProof.Rows
structure ObjM (h : Heap) (x dx C : Addr) (mA : Str → Option Value) : Prop where
  obj : h.get? x = some (PySem.W.instObj C dx)
  ns : h.Ns1 dx mA
  ne : dx ≠ x
theorem lookIn_ns {h : Heap} {dx : Addr} {mA : Str → Option Value} (n : h.Ns1 dx mA) : ∃ od, h.get? dx = some od ∧ ∀ name, PySem.W.lookIn name od = some (mA name) := by
  obtain ⟨o, es, ep, ho, hd, hk, _, hm⟩ := n
  refine ⟨o, ho, fun name => ?_⟩
  have e := hm name
  unfold nsFind findBy at e
  rw [← Array.find?_toList] at e
  unfold PySem.W.lookIn
  rw [hd]
  dsimp only
  split
  · rename_i y q
    rw [q] at e
    exact congrArg some e
  · rename_i q
    rw [q] at e
    have a : es.toList.any (·.refKey) = false := by
      rw [List.any_eq_false]
      intro y hy
      obtain ⟨z, t, hkey⟩ := hk y (Array.mem_toList_iff.mp hy)
      simp [DictEntry.refKey, hkey]
    have a' : ¬ es.toList.any (·.refKey) = true := by rw [a]; exact Bool.false_ne_true
    rw [if_neg a']
    exact congrArg some e
theorem ObjM.look {h : Heap} {x dx C : Addr} {mA : Str → Option Value} (I : ObjM h x dx C mA) : ∃ od, PySem.W.InstAt h x (PySem.W.instObj C dx) C (some od) ∧ ∀ name, PySem.W.lookIn name od = some (mA name) :=
  let ⟨od, ho, hl⟩ := lookIn_ns I.ns
  ⟨od, ⟨I.obj, rfl, rfl, ho⟩, hl⟩
section
variable {prog : Program} {w : World} {A : Around} {E : Value → Shared → Prop} {s : Shared} {K : PySem.W.Frag} {x dx C f : Addr} {mA : Str → Option Value} {name : Str} {v : Value}
end
section
variable {P : Program} {w : World} {H H' : Hp} {h h' : Heap} {a C dx : Addr} {fs fs' : List (Str × V)}
end
structure Cls (K : PySem.W.Frag) (C : Addr) : Prop where
  pg : PySem.W.plainGet K C Str.empty = true
  hd : PySem.W.hasDictIn K C = true
  po : PySem.W.plainOver K C = true
  sa : PySem.W.findIn K (.ref C) "__setattr__" = some (some (.builtin "object.__setattr__"))
theorem Cls.get {K : PySem.W.Frag} {C : Addr} (c : Cls K C) (f : Str) : PySem.W.plainGet K C f = true := c.pg
section
variable {X : Cx} {pins : List (Addr × Obj)} {σ : St} {H : Hp} {s : Shared} {a C dx : Addr} {fs : List (Str × V)} {f : Str} {v : V} {A : Around} {E : Value → Shared → Prop}
end
section
variable {X : Cx} {o e value : Expr} {f : Str} {pos pos' tpos : Pos} {ta tv : TE}
end
section
variable {X : Cx} {pins : List (Addr × Obj)} {σ : St} {H : Hp} {s : Shared} {A : Around} {E : Value → Shared → Prop} {Q : Value → Shared → Prop} {c : Value} {b : Bool}
end
end L2
namespace L2
open PySem PySem.Spec PyProof.Rows
structure Room (k : Nat) (A : Around) : Prop where
  hd : A.handled = none
  dp : A.depth + 3 * k + 5 < recursionLimit
  un : A.units + 16 * k + 200 < cLine
theorem Room.mono {j k : Nat} {A : Around} (r : Room k A) (h : j ≤ k) : Room j A := ⟨r.hd, by have := r.dp; omega, by have := r.un; omega⟩
theorem Room.deeper {k : Nat} {A : Around} (r : Room (k + 1) A) (env : Env) : Room k (A.deeper env) :=
  ⟨r.hd, by have := r.dp; show A.depth + 1 + 3 * k + 5 < _; omega, by have := r.un; show A.units + 3 + 16 * k + 200 < _; omega⟩
theorem Room.in1 {k : Nat} {A : Around} (r : Room (k + 1) A) : Room k A.in1 :=
  ⟨r.hd, by have := r.dp; show A.depth + 3 * k + 5 < _; omega, by have := r.un; show A.units + 1 + 16 * k + 200 < _; omega⟩
theorem Room.depth {k : Nat} {A : Around} (r : Room k A) : A.depth < recursionLimit := by have := r.dp; omega
theorem Room.units {k : Nat} {A : Around} (r : Room k A) : A.units + 64 < cLine := by have := r.un; omega
def tNil : TA := fun _ H Q => Q [] H
def tCons (ta : TE) (tr : TA) : TA := fun σ H Q => ta σ H fun x H1 => tr σ H1 fun xs H2 => Q (x :: xs) H2
section
variable {X : Cx} {e : Expr} {es : List Expr} {te : TE} {t : TA} {pos : Pos}
theorem pa_nil : PA X [] tNil := fun _ _ _ _ H Q I h => Calls.spliced_nil ⟨[], H, I, .nil, h⟩
theorem pa_cons (ha : PE X e te) (hr : PA X es t) (hs : starEach (e :: es) X.env = (false, eval e X.env) :: starEach es X.env := by rfl) : PA X (e :: es) (tCons te t) := by
  intro pos pins s σ H Q I h
  rw [hs]
  show wpAny _ _ (spliced ((false, eval e X.env) :: backTo pos (starEach es X.env))) _ _ s
  refine Calls.spliced_cons (thn (ha pins s σ H _ I h) fun u s1 ⟨x, H1, I1, r1, q1⟩ => ?_)
  exact thn (hr pos pins s1 σ H1 _ I1 q1) fun us s2 ⟨xs, H2, I2, r2, q2⟩ => ⟨x :: xs, H2, I2, .cons r1 r2, q2⟩
def tTup (t : TA) : TE := fun σ H Q => t σ H fun xs H1 => xs.length ≤ sizeLine ∧ ∀ p, H1 p = none → Q (.ref p) (upd H1 p (.tup xs))
def tLst (t : TA) : TE := fun σ H Q => t σ H fun xs H1 => xs.length ≤ sizeLine ∧ ∀ p, H1 p = none → Q (.ref p) (upd H1 p (.lst xs))
theorem pe_tup {x1} (h : PA X es t) : PE X (.Tuple es x1 pos) (tTup t) := by
  intro pins s σ H Q I hq
  refine wpAny_Tuple_spliced (thn (h pos pins s σ H _ I hq) fun us s1 ⟨xs, H1, I1, r, z, q⟩ => ⟨by rw [← r.length]; exact z, ?_⟩)
  have hf : H1 s1.heap.objs.size = none := I1.hok.fresh (Nat.le_refl _)
  refine ⟨.ref s1.heap.objs.size, upd H1 s1.heap.objs.size (.tup xs), I1.laid (t' := s1.toks) (fun b u e => Heap.get?_push_of_some _ e) (Nat.le_refl _) ?_, rfl, q _ hf⟩
  exact ⟨z, us, r, ⟨_, Heap.get?_push_size _ rfl, rfl, _, rfl⟩⟩
theorem pe_lst (h : PA X es t) : PE X (.List es pos) (tLst t) := by
  intro pins s σ H Q I hq
  refine wpAny_List_spliced (thn (h pos pins s σ H _ I hq) fun us s1 ⟨xs, H1, I1, r, z, q⟩ => ⟨by rw [← r.length]; exact z, ?_⟩)
  have hf : H1 s1.heap.objs.size = none := I1.hok.fresh (Nat.le_refl _)
  refine ⟨.ref s1.heap.objs.size, upd H1 s1.heap.objs.size (.lst xs), I1.laid (t' := s1.toks) (fun b u e => Heap.get?_push_of_some _ e) (Nat.le_refl _) ?_, rfl, q _ hf⟩
  exact ⟨z, us, 0, r, Heap.get?_push_size _ rfl⟩
end
abbrev Sp := List V → Hp → VK → XK → Prop
abbrev CXT := List Env → Hp → Shared → XK → Value → Shared → Prop
structure Env0 (P : Program) (w : World) (K : PySem.W.Frag) (mg : Str → Option Value) (base : Heap) (A : Around) (outer : List Env) (s : Shared) (H : Hp) : Prop where
  frames : A.frames = some outer
  mod : Mod K mg base
  bs : ∀ b o, base.get? b = some o → s.heap.get? b = some o ∧ H b = none
  bsz : base.objs.size ≤ s.heap.objs.size
  funs : s.heap.FunFrames base outer
  frf : ∀ b ∈ frs outer, H b = none
  hok : HOk P w H s.heap
  bare : AllBare s.gens
def CE (outer : List Env) (P : Program) (w : World) (H : Hp) (s : Shared) (Q : VK) (u : Value) (s' : Shared) : Prop :=
  ∃ v H', s'.os = s.os ∧ AllBare s'.gens ∧ Un (frs outer) [] H H' s.heap s'.heap ∧ HOk P w H' s'.heap ∧ RelV v u ∧ Q v H'
def CR (CX : CXT) (outer : List Env) (P : Program) (w : World) (H : Hp) (s : Shared) (Q : VK) (E : XK) (r : Result) (s' : Shared) : Prop :=
  match r with
  | .ok (.ret u) => CE outer P w H s Q u s'
  | .ok _ => False
  | .error e => CX outer H s E e s'
structure FnOk (P : Program) (w : World) (K : PySem.W.Frag) (mg : Str → Option Value) (base : Heap) (CX : CXT) (k : Nat) (f : Addr) (fd : FuncData) (ps : List Str) (sp : Sp) : Prop where
  len : ∀ vs H Q E, sp vs H Q E → vs.length = ps.length
  run : ∀ (A : Around) (outer : List Env) (s : Shared) (H : Hp) (args : Args) (us : List Value) (vs : List V) (Q : VK) (E : XK), Room k A → Env0 P w K mg base A outer s H → BindsTo s fd args (ps.zip us) → Vals vs us → sp vs H Q E →
    codeAny (model P w) A (.call (.ref f) args) (CR CX outer P w H s Q E) s
theorem FnOk.mono {P : Program} {w : World} {K : PySem.W.Frag} {mg : Str → Option Value} {base : Heap} {CX : CXT} {j k : Nat} {f : Addr} {fd : FuncData} {ps : List Str} {sp : Sp} (F : FnOk P w K mg base CX j f fd ps sp) (h : j ≤ k) :
    FnOk P w K mg base CX k f fd ps sp := ⟨F.len, fun A outer s H args us vs Q E hr => F.run A outer s H args us vs Q E (hr.mono h)⟩
theorem FnOk.imp {P : Program} {w : World} {K : PySem.W.Frag} {mg : Str → Option Value} {base : Heap} {CX : CXT} {k : Nat} {f : Addr} {fd : FuncData} {ps : List Str} {sp sp' : Sp} (F : FnOk P w K mg base CX k f fd ps sp)
    (h : ∀ vs H Q E, sp' vs H Q E → sp vs H Q E) : FnOk P w K mg base CX k f fd ps sp' :=
  ⟨fun vs H Q E q => F.len vs H Q E (h _ _ _ _ q), fun A outer s H args us vs Q E hr he hb hv hs => F.run A outer s H args us vs Q E hr he hb hv (h _ _ _ _ hs)⟩
theorem Env0.in1 {P : Program} {w : World} {K : PySem.W.Frag} {mg : Str → Option Value} {base : Heap} {A : Around} {outer : List Env} {s : Shared} {H : Hp} (e : Env0 P w K mg base A outer s H) :
    Env0 P w K mg base A.in1 outer s H := ⟨e.frames, e.mod, e.bs, e.bsz, e.funs, e.frf, e.hok, e.bare⟩
section
variable {X : Cx} {pins : List (Addr × Obj)} {σ : St} {H : Hp} {s s' : Shared}
theorem Inv.env0 (I : Inv X pins σ H s) : Env0 X.prog X.w X.K X.mg X.base X.A X.stack s H :=
  ⟨I.ok.frames, I.ok.mod, I.bs, Nat.le_trans I.ok.bsz I.sz, I.stack, I.stkFree, I.hok, I.bare⟩
theorem Inv.after {Q : VK} {u : Value} (I : Inv X pins σ H s) (h : CE X.stack X.prog X.w H s Q u s') : EP X pins σ Q u s' := by
  obtain ⟨v, H', os, bare, un, hok, r, q⟩ := h
  obtain ⟨hh, g, d, t, os'⟩ := s'
  obtain rfl : os' = s.os := os
  exact ⟨v, H', I.call (h' := hh) (g' := g) (d' := d) (t' := t) (ch := []) un hok bare (fun b z => absurd z (by simp)), r, q⟩
end
def tCall (sp : Sp) (dvs : List V) (E : XK) (t : TA) : TE := fun σ H Q => t σ H fun vs H1 => sp (vs ++ dvs) H1 Q E
def Binds (K : PySem.W.Frag) (fd : FuncData) (ps : List Str) (ds : List Value) : Prop :=
  ∀ (s : Shared) (us : List Value), K.In s.heap → (us ++ ds).length = ps.length → BindsTo s fd ⟨us, []⟩ (ps.zip (us ++ ds))
theorem Binds.all {K : PySem.W.Frag} {fd : FuncData} {ps : List Str} (h : ∀ us : List Value, us.length = ps.length → bindArgs fd ⟨us, []⟩ = pure (ps.zip us)) : Binds K fd ps [] := fun s us _ hl => by
  rw [List.append_nil] at hl ⊢
  exact .of_eq (h us hl)
def Passes (CX : CXT) (X : Cx) (E : XK) : Prop := ∀ (pins : List (Addr × Obj)) (σ : St) (H : Hp) (s : Shared) (e : Value) (s' : Shared), Inv X pins σ H s → CX X.stack H s E e s' → X.xe e s'
section
variable {X : Cx} {CX : CXT} {k : Nat} {f C : Addr} {fd : FuncData} {ps : List Str} {sp : Sp} {dvs : List V} {ds : List Value} {E : XK} {x m : Str} {p pos apos : Pos} {e o : Expr} {es : List Expr} {ta : TE} {t : TA}
theorem run_fn {pins : List (Addr × Obj)} {σ : St} {H : Hp} {s : Shared} {Q : VK} {us : List Value} {vs : List V} (F : FnOk X.prog X.w X.K X.mg X.base CX k f fd ps sp) (hr : Room k X.A) (hb : Binds X.K fd ps ds) (hd : Vals dvs ds) (hx : Passes CX X E)
    (I : Inv X pins σ H s) (r : Vals vs us) (h : sp (vs ++ dvs) H Q E) : wpAny (model X.prog X.w) X.A (call (.ref f) us) (EP X pins σ Q) X.xe s := by
  have r2 : Vals (vs ++ dvs) (us ++ ds) := r.append hd
  have hl : (us ++ ds).length = ps.length := by rw [← r2.length]; exact F.len _ _ _ _ h
  refine wpAny_call (codeAny_mono (F.run X.A X.stack s H ⟨us, []⟩ (us ++ ds) (vs ++ dvs) Q E hr I.env0 (hb s us I.kIn hl) r2 h) fun r s' hq => ?_)
  cases r with
  | error e => exact hx pins σ H s e s' I hq
  | ok fl =>
    cases fl with
    | ret u => exact I.after hq
    | next => exact False.elim hq
    | brk => exact False.elim hq
    | cont => exact False.elim hq
theorem pe_call (F : FnOk X.prog X.w X.K X.mg X.base CX k f fd ps sp) (hr : Room k X.A) (hg : Gl X x) (hm : X.mg x = some (.ref f)) (hk : PySem.W.keepIn X.K (.ref f) = true) (hb : Binds X.K fd ps ds) (hd : Vals dvs ds) (hx : Passes CX X E)
    (ha : PA X (e :: es) t) (hdb : (x == ("__debug__" : Str)) = false := by decide) (he : starEach (e :: es) X.env = (false, eval e X.env) :: starEach es X.env := by rfl) (hpl : (backTo pos (starEach es X.env)).any (·.1) = false := by rfl) :
    PE X (.Call (.Name x p) (e :: es) [] pos) (tCall sp dvs E t) := by
  intro pins s σ H Q I h
  refine wpAny_Call_Name_kw (ld_glob I hg hm ?_ hdb)
  refine PySem.W.callWith_K (h₀ := X.base) I.ok.mod.kin hk (thn (ha pos pins s σ H _ I h) fun us s1 ⟨vs, H1, I1, r, q⟩ => ⟨I1.kIn, ?_⟩) he hpl
  exact run_fn F hr hb hd hx I1 r q
end
section
variable {X : Cx} {CX : CXT} {k : Nat} {f C : Addr} {fd : FuncData} {ps ks : List Str} {sp : Sp} {E : XK} {x m : Str} {p pos apos kpos : Pos} {e o : Expr} {es : List Expr} {kws : List Keyword} {te ta : TE} {t tk : TA} {nm : Option Str}
variable {g : List Value → List Value → List Value} {gV : List V → List V → List V}
end
structure FnScope (N P : List Str) (sc : Scope) : Prop where
  kind : sc.kind = .function
  co : sc.isCoroutine = false
  gen : sc.isGenerator = false
  nd : N.Nodup
  pre : N.take P.length = P
  par : ∀ x ∈ P, sc.names.lookup x = some .local ∨ sc.names.lookup x = some .cell
  nofree : ∀ y ∈ sc.names, y.2 ≠ .free
theorem bindL_out {kindOf : Str → Option NameKind} {x : Str} : ∀ {binds : List (Str × Value)} {m : Str → Option Value}, (∀ v, (x, v) ∉ binds) → bindL kindOf binds m x = m x
  | [], _, _ => rfl
  | (n, v) :: r, m, h => by
    unfold bindL
    rw [bindL_out fun w hw => h w (List.mem_cons_of_mem _ hw)]
    split
    · have : x ≠ n := by rintro rfl; exact h v List.mem_cons_self
      simp [this]
    · rfl
theorem bindC_out {kindOf : Str → Option NameKind} {x : Str} : ∀ {binds : List (Str × Value)} {m : Str → Option Value}, (∀ v, (x, v) ∉ binds) → bindC kindOf binds m x = m x
  | [], _, _ => rfl
  | (n, v) :: r, m, h => by
    unfold bindC
    rw [bindC_out fun w hw => h w (List.mem_cons_of_mem _ hw)]
    split
    · rfl
    · have : x ≠ n := by rintro rfl; exact h v List.mem_cons_self
      simp [this]
theorem bindL_get {kindOf : Str → Option NameKind} {x : Str} {v : Value} : ∀ {P : List Str} {vs : List Value} {i : Nat} {m : Str → Option Value}, P.Nodup → P[i]? = some x → vs[i]? = some v → kindOf x = some .local →
    bindL kindOf (P.zip vs) m x = some v
  | [], _, _, _, _, h, _, _ => by simp at h
  | _ :: _, [], _, _, _, _, h, _ => by simp at h
  | p :: P, w :: vs, 0, m, nd, h1, h2, hk => by
    simp at h1 h2; subst h1; subst h2
    show bindL kindOf ((p, w) :: P.zip vs) m p = _
    unfold bindL
    rw [bindL_out fun v hv => (List.nodup_cons.mp nd).1 (List.of_mem_zip hv).1, if_pos hk]
    simp
  | p :: P, w :: vs, i + 1, m, nd, h1, h2, hk => by
    show bindL kindOf ((p, w) :: P.zip vs) m x = _
    unfold bindL
    exact bindL_get (i := i) (List.nodup_cons.mp nd).2 (by simpa using h1) (by simpa using h2) hk
theorem bindC_get {kindOf : Str → Option NameKind} {x : Str} {v : Value} : ∀ {P : List Str} {vs : List Value} {i : Nat} {m : Str → Option Value}, P.Nodup → P[i]? = some x → vs[i]? = some v → kindOf x ≠ some .local →
    bindC kindOf (P.zip vs) m x = some v
  | [], _, _, _, _, h, _, _ => by simp at h
  | _ :: _, [], _, _, _, _, h, _ => by simp at h
  | p :: P, w :: vs, 0, m, nd, h1, h2, hk => by
    simp at h1 h2; subst h1; subst h2
    show bindC kindOf ((p, w) :: P.zip vs) m p = _
    unfold bindC
    rw [bindC_out fun v hv => (List.nodup_cons.mp nd).1 (List.of_mem_zip hv).1, if_neg hk]
    simp
  | p :: P, w :: vs, i + 1, m, nd, h1, h2, hk => by
    show bindC kindOf ((p, w) :: P.zip vs) m x = _
    unfold bindC
    exact bindC_get (i := i) (List.nodup_cons.mp nd).2 (by simpa using h1) (by simpa using h2) hk
def start (N : List Str) (vs : List V) : St := vs.map some ++ List.replicate (N.length - vs.length) none
def cxOf (CX : CXT) (P : Program) (w : World) (K : PySem.W.Frag) (mg : Str → Option Value) (base : Heap) (N : List Str) (qual : Str) (scope : Scope) (f : Addr) (cd : Value) (A : Around) (outer : List Env) (s : Shared) (H : Hp) (E : XK) : Cx where
  prog := P
  w := w
  K := K
  mg := mg
  base := base
  A := A.deeper (envOfC qual scope s.heap.objs.size f cd)
  N := N
  s_0 := s
  H_0 := H
  env := envOfC qual scope s.heap.objs.size f cd
  outer := outer
  stack := envOfC qual scope s.heap.objs.size f cd :: outer
  ex := []
  calm := true
  fn := fun _ => true
  pn := []
  xe := fun e s' => wpAny (model P w) (A.deeper (envOfC qual scope s.heap.objs.size f cd)) (leaving (envOfC qual scope s.heap.objs.size f cd) e) (fun _ s'' => CX outer H s E e s'') (fun e' s'' => CX outer H s E e' s'') s'
theorem cell_has {sc : Scope} {n : Nat} {x : Str} (h : sc.names.lookup x = some .cell) : ∃ c, (cellsFrom n sc.names []).lookup x = some c := by
  have q := PySem.W.cellsFrom_some sc.names n [] (.inl h)
  exact Option.isSome_iff_exists.mp q
theorem inv_start {CX : CXT} {P : Program} {w : World} {K : PySem.W.Frag} {mg : Str → Option Value} {base : Heap} {N ps : List Str} {qual : Str} {scope : Scope} {f : Addr} {cd : Value} {A : Around} {outer : List Env} {s s1 : Shared} {H : Hp} {E : XK} {us : List Value} {vs : List V}
    (S : FnScope N ps scope) (hd : A.handled = none) (e0 : Env0 P w K mg base A outer s H) (hl : vs.length = ps.length) (r : Vals vs us)
    (x : InCallC s s.heap.objs.size (bindL (envOfC qual scope s.heap.objs.size f cd).kindOf (ps.zip us) fun _ => none) (cellsFrom (s.heap.objs.size + 1) scope.names []) (bindC (envOfC qual scope s.heap.objs.size f cd).kindOf (ps.zip us) fun _ => none) s1) :
    Inv (cxOf CX P w K mg base N qual scope f cd A outer s H E) [] (start N vs) H s1 := by
  have hpl : ps.length ≤ N.length := by have := congrArg List.length S.pre; rw [List.length_take] at this; omega
  obtain ⟨h1, tk, rfl, hk⟩ := x.done
  have noA : ∀ b : Addr, b ∉ (cxOf CX P w K mg base N qual scope f cd A outer s H E).ex := fun b z => absurd (show b ∈ ([] : List Addr) from z) (by simp)
  refine ⟨⟨e0.mod, S.kind, rfl, rfl, Nat.le_refl _, fun y z c h1 h2 => ?_, fun y hy => ?_, fun y c _ h => ?_, fun _ => hd, Around.frames_deeper e0.frames, .inr ⟨rfl, rfl⟩, fun b z => absurd z (noA b), e0.bs, e0.bsz, fun b _ _ => noA b, fun b z => absurd z (noA b), e0.funs, e0.frf⟩,
    rfl, e0.bare, Un.kept hk, ⟨_, x.toInCall.ns, fun i y v h1 h2 h3 => ?_⟩, fun y c h => ⟨_, x.cell y c h⟩, e0.hok.fresh (Nat.le_refl _), fun y c h => ?_, fun p hp => absurd (show p ∈ ([] : List (Addr × Obj)) from hp) (by simp), e0.hok.kept hk, ?_⟩
  · exact name_of_addr x.apart (PySem.mem_of_lookup h1) (PySem.mem_of_lookup h2)
  · have hy : scope.names.lookup y = some .cell ∨ scope.names.lookup y = some .free := hy
    rcases hy with hy | hy
    · exact cell_has hy
    · exact absurd rfl (S.nofree _ (PySem.mem_of_lookup hy))
  · exact Nat.le_of_lt (x.above y c (PySem.mem_of_lookup h))
  · have hi : i < vs.length := by
      unfold start at h2
      by_cases hi : i < vs.length
      · exact hi
      · rw [List.getElem?_append_right (by simpa using hi)] at h2
        rw [List.getElem?_replicate] at h2
        split at h2 <;> cases h2
    have ha : vs[i]? = some v := by
      unfold start at h2
      rw [List.getElem?_append_left (by simpa using hi), List.getElem?_map] at h2
      cases e : vs[i]? with
      | none => rw [e] at h2; cases h2
      | some a => rw [e] at h2; cases h2; rfl
    obtain ⟨u, hu, rv⟩ := r.get ha
    have hp : ps[i]? = some y := by
      rw [← S.pre, List.getElem?_take_of_lt (by omega)]; exact h1
    have ndP : ps.Nodup := by rw [← S.pre]; exact S.nd.sublist (List.take_sublist _ _)
    refine ⟨u, rv, ?_⟩
    rcases S.par y (List.mem_of_getElem? hp) with k | k
    · exact .inl ⟨k, bindL_get ndP hp hu k⟩
    · obtain ⟨c, e⟩ := cell_has (n := s.heap.objs.size + 1) k
      refine .inr ⟨.inl k, c, e, ?_⟩
      have q := x.cell y c e
      rw [bindC_get ndP hp hu (by show scope.names.lookup y ≠ _; rw [k]; decide)] at q
      exact q
  · exact e0.hok.fresh (Nat.le_of_lt (x.above y c (PySem.mem_of_lookup h)))
  · unfold start
    show _ = N.length
    rw [List.length_append, List.length_map, List.length_replicate]
    omega
theorem fn_of {CX : CXT} {P : Program} {w : World} {K : PySem.W.Frag} {mg : Str → Option Value} {base : Heap} {k : Nat} {f : Addr} {name qual : Str} {params : Arguments} {body : List Stmt} {scope : Scope} {dV kV doc pm cdv ct oc : Value} {an od : Option Addr}
    {osl : Array (Option Value)} {N ps : List Str} {sp : Sp} (lk : K.lookup f = some ⟨oc, od, .func (PySem.W.fnOf name qual params body scope dV kV doc pm an cdv ct), osl⟩) (hcd : PySem.W.codeIn K cdv qual = true) (S : FnScope N ps scope)
    (len : ∀ vs H Q E, sp vs H Q E → vs.length = ps.length)
    (hbody : ∀ (A : Around) (outer : List Env) (s : Shared) (H : Hp) (vs : List V) (Q : VK) (E : XK), Room k (A.deeper (envOfC qual scope s.heap.objs.size f cdv)) → sp vs H Q E →
      ∃ t, PSs (cxOf CX P w K mg base N qual scope f cdv A outer s H E) body t ∧ t { nx := fun _ H' => Q .non H', rt := Q } (start N vs) H) :
    FnOk P w K mg base CX (k + 1) f (PySem.W.fnOf name qual params body scope dV kV doc pm an cdv ct) ps sp := by
  refine ⟨len, fun A outer s H args us vs Q E hr e0 hb r hsp => ?_⟩
  have hl := len _ _ _ _ hsp
  have KX : K.In s.heap := e0.mod.kin.keeps fun b o e => (e0.bs b o e).1
  have lim : s.heap.NoLimit := e0.mod.nolimit.keeps fun b o e => (e0.bs b o e).1
  have hkind : ∀ y ∈ ps.zip us, scope.names.lookup y.1 = some .local ∨ (scope.names.lookup y.1 = some .cell ∧ ((cellsFrom (s.heap.objs.size + 1) scope.names []).lookup y.1).isSome = true) := fun ⟨n, v⟩ hy => by
    rcases S.par n (List.of_mem_zip hy).1 with q | q
    · exact .inl q
    · exact .inr ⟨q, PySem.W.cellsFrom_some _ _ _ (.inl q)⟩
  refine codeAny_call_function hr.depth (KX _ _ lk) rfl S.co S.gen rfl (PySem.W.codeRec_of KX hcd) (hb _ _ _ _ ?_)
  refine wpAny_newFunctionEnv_cells S.kind hkind fun env he s1 x => ?_
  subst he
  refine ⟨lim.keeps x.toInCall.keep, codeAny_func ?_⟩
  obtain ⟨t, ht, hq⟩ := hbody A outer s H vs Q E (hr.deeper _) hsp
  have I : Inv (cxOf CX P w K mg base N qual scope f cdv A outer s H E) [] (start N vs) H s1 := inv_start S hr.hd e0 hl r x
  refine wpAny_mono (ht [] s1 (start N vs) H _ I hq) (fun fl s' hs => ?_) fun e s' hs => hs
  have fin : ∀ {σ' : St} {H' : Hp} {v : V} {u : Value}, Inv (cxOf CX P w K mg base N qual scope f cdv A outer s H E) [] σ' H' s' → RelV v u → Q v H' → CE outer P w H s Q u s' :=
    fun {σ' H' v u} J rv q => ⟨v, H', J.os, J.bare, J.base, J.hok, rv, q⟩
  cases fl with
  | ret u =>
    obtain ⟨v, σ', H', J, rv, q⟩ := hs
    exact fin J rv q
  | next =>
    obtain ⟨σ', H', J, q⟩ := hs
    exact fin (v := V.non) (u := Value.none) J rfl q
  | brk =>
    obtain ⟨_, _, _, q⟩ := hs
    exact False.elim q
  | cont =>
    obtain ⟨_, _, _, q⟩ := hs
    exact False.elim q
end L2
namespace L2
open PySem PySem.Spec PyProof.Rows
section
variable {X : Cx} {x : Str} {p pos : Pos} {e : Expr} {es : List Expr} {t : TA} {id T : String} {r : List V → Hp → VK → Prop}
def tCB (r : List V → Hp → VK → Prop) (t : TA) : TE := fun σ H Q => t σ H fun vs H1 => r vs H1 Q
theorem pe_callB (hc : CallR X (.builtin id) r) (hg : Gl X x) (hm : X.mg x = none) (hv : bootBuiltins x = some (.builtin id)) (ha : PA X (e :: es) t) (hn : x ≠ "__name__" := by decide) (hdb : (x == ("__debug__" : Str)) = false := by decide)
    (he : starEach (e :: es) X.env = (false, eval e X.env) :: starEach es X.env := by rfl) (hpl : (backTo pos (starEach es X.env)).any (·.1) = false := by rfl) : PE X (.Call (.Name x p) (e :: es) [] pos) (tCB r t) := by
  intro pins s σ H Q I h
  refine wpAny_Call_Name_kw (ld_blt I hg hm hv ?_ hn hdb)
  exact PyProof.Rows.callWith_builtin1 (thn (ha pos pins s σ H _ I h) fun us s1 ⟨vs, H1, I1, r1, q1⟩ => hc pins s1 σ H1 vs us Q I1 r1 q1) he hpl
theorem pe_callTy (hc : CallR X (.type T) r) (hg : Gl X x) (hm : X.mg x = none) (hv : bootBuiltins x = some (.type T)) (ha : PA X (e :: es) t) (hn : x ≠ "__name__" := by decide) (hdb : (x == ("__debug__" : Str)) = false := by decide)
    (he : starEach (e :: es) X.env = (false, eval e X.env) :: starEach es X.env := by rfl) (hpl : (backTo pos (starEach es X.env)).any (·.1) = false := by rfl) : PE X (.Call (.Name x p) (e :: es) [] pos) (tCB r t) := by
  intro pins s σ H Q I h
  refine wpAny_Call_Name_kw (ld_blt I hg hm hv ?_ hn hdb)
  exact PyProof.Rows.callWith_type1 (thn (ha pos pins s σ H _ I h) fun us s1 ⟨vs, H1, I1, r1, q1⟩ => hc pins s1 σ H1 vs us Q I1 r1 q1) he hpl
end
end L2
namespace HT
open PySem PyProof.Rows
section
open PySem.SeqAt
open PySem.AutoSeq1 (wpAny_loadPart')
open PySem.MeetsSeq PySem.MeetsSeq2 PySem.MeetsSeq3
end
section
variable {prog : Program} {w : World} {A : Around} {E : Value → Shared → Prop} {s : Shared}
def sIx (n d : Nat) : Option Int → Nat
  | none => d
  | some v => if v < 0 then (v + (n : Int)).toNat else min v.toNat n
theorem sIx_none (n d : Nat) : sIx n d none = d := rfl
theorem sIx_nat (n d k : Nat) : sIx n d (some (k : Int)) = min k n := by
  show (if (k : Int) < 0 then ((k : Int) + (n : Int)).toNat else min (k : Int).toNat n) = min k n
  rw [if_neg (by omega), Int.toNat_natCast]
end
end HT
namespace L2
open PySem PySem.Spec PyProof.Rows
abbrev TO := St → Hp → (Option Int → Hp → Prop) → Prop
def PO (X : Cx) (e : Option Expr) (t : TO) : Prop :=
  ∀ (pins : List (Addr × Obj)) (s : Shared) (σ : St) (H : Hp) (Q : Option Int → Hp → Prop), Inv X pins σ H s → t σ H Q →
    wpAny (model X.prog X.w) X.A (evalPart e X.env) (fun u s' => ∃ o H', Inv X pins σ H' s' ∧ IsPart u o ∧ Q o H') X.xe s
def tNoPart : TO := fun _ H Q => Q none H
def tPart (t : TE) : TO := fun σ H Q => t σ H fun x H1 => ∃ i, x = .int i ∧ Q (some i) H1
theorem intsAre_of {ns : List Int} : ∀ {us : List Value}, Vals (ns.map V.int) us → IntsAre us ns := by
  induction ns with
  | nil => intro us r; rw [List.map_nil] at r; cases r; exact .nil
  | cons n ns ih =>
    intro us r
    rw [List.map_cons] at r
    cases r with
    | cons r1 r2 =>
      obtain ⟨t, e⟩ := r1
      subst e
      exact .cons n t (ih r2)
section
variable {X : Cx} {e : Expr} {te : TE} {lo hi : Option Expr} {tl th : TO} {pos p2 : Pos}
theorem po_none : PO X none tNoPart := by
  intro pins s σ H Q I h
  rw [evalPart_none]
  exact wpAny_pure ⟨none, H, I, .none, h⟩
theorem po_some (h : PE X e te) : PO X (some e) (tPart te) := by
  intro pins s σ H Q I hw
  rw [evalPart_some]
  refine thn (h pins s σ H _ I hw) fun u s1 ⟨x, H1, I1, r1, q1⟩ => ?_
  obtain ⟨i, rfl, q⟩ := q1
  obtain ⟨t, rfl⟩ := r1
  exact ⟨some i, H1, I1, .int i t, q⟩
def SlR (X : Cx) (r : V → Option Int → Option Int → Hp → VK → Prop) : Prop :=
  ∀ (pins : List (Addr × Obj)) (s : Shared) (σ : St) (H : Hp) (x : V) (v vl vu : Value) (lo hi : Option Int) (sl : Addr) (Q : VK), Inv X pins σ H s → RelV x v → s.heap.IsSliceOf sl vl vu .none → IsPart vl lo → IsPart vu hi → r x lo hi H Q →
    ∃ T id, typeLookup (.type T) "__getitem__" = pure (some (.builtin id)) ∧ s.TypeIs v T ∧ wpAny (model X.prog X.w) X.A (getItem v (.ref sl)) (EP X pins σ Q) X.xe s
theorem SlR.or {r r' : V → Option Int → Option Int → Hp → VK → Prop} (h : SlR X r) (h' : SlR X r') : SlR X (fun x lo hi H Q => r x lo hi H Q ∨ r' x lo hi H Q) := by
  intro pins s σ H x v vl vu lo hi sl Q I rx hs pl pu q
  rcases q with q | q
  · exact h pins s σ H x v vl vu lo hi sl Q I rx hs pl pu q
  · exact h' pins s σ H x v vl vu lo hi sl Q I rx hs pl pu q
def tSl (r : V → Option Int → Option Int → Hp → VK → Prop) (te : TE) (tl th : TO) : TE := fun σ H Q => te σ H fun x H1 => tl σ H1 fun l H2 => th σ H2 fun u H3 => r x l u H3 Q
theorem pe_slice {r : V → Option Int → Option Int → Hp → VK → Prop} (hr : SlR X r) (he : PE X e te) (hl : PO X lo tl) (hu : PO X hi th) : PE X (.Subscript e (.Slice lo hi none p2) pos) (tSl r te tl th) := by
  intro pins s σ H Q I h
  refine Subscript_ (thn (he pins s σ H _ I h) fun v s1 ⟨x, H1, I1, r1, q1⟩ => ?_)
  refine wpAny_Slice (thn (hl pins s1 σ H1 _ I1 q1) fun vl s2 ⟨l, H2, I2, pl, q2⟩ => thn (hu pins s2 σ H2 _ I2 q2) fun vu s3 ⟨u, H3, I3, pu, q3⟩ => ?_)
  rw [evalPart_none]
  refine wpAny_pure ?_
  have I4 : Inv X pins σ H3 { s3 with heap := s3.heap.push { cls := .type "slice", data := .fields #[vl, vu, .none] } } := I3.kept (t' := s3.toks) fun b ob q => Heap.get?_push_of_some _ q
  obtain ⟨T, id, hT, ht, hg⟩ := hr pins { s3 with heap := s3.heap.push { cls := .type "slice", data := .fields #[vl, vu, .none] } } σ H3 x v vl vu l u s3.heap.objs.size Q I4 r1 (Heap.IsSliceOf.new ..) pl pu q3
  show wpAny (model X.prog X.w) X.A (subscriptTail e (.Slice lo hi none p2) v (.ref s3.heap.objs.size)) (EP X pins σ Q) X.xe { s3 with heap := s3.heap.push { cls := .type "slice", data := .fields #[vl, vu, .none] } }
  exact tail_any (ops := [.ref s3.heap.objs.size, v]) ht hT hg (by with_unfolding_all rfl)
def cutV (xs : List V) (lo hi : Option Int) : List V := (xs.drop (HT.sIx xs.length 0 lo)).take (HT.sIx xs.length xs.length hi - HT.sIx xs.length 0 lo)
theorem cutV_length (xs : List V) (lo hi : Option Int) : (cutV xs lo hi).length ≤ xs.length := by
  unfold cutV
  rw [List.length_take, List.length_drop]
  omega
end
end L2
namespace L2
open PySem PySem.Spec PyProof.Rows
def ixN (n : Nat) (i : Int) : Option Nat := if 0 ≤ i then (if i < n then some i.toNat else none) else if -(n : Int) ≤ i then some (i + n).toNat else none
def atI {α : Type} (xs : List α) (i : Int) : Option α := (ixN xs.length i).bind fun j => xs[j]?
theorem ixN_seq {n : Nat} {i : Int} {j : Nat} (h : ixN n i = some j) : seqIndex? i n = some j ∧ j < n ∧ -(n : Int) ≤ i ∧ i < n := by
  unfold ixN at h
  by_cases h0 : 0 ≤ i
  · rw [if_pos h0] at h
    by_cases h1 : i < n
    · rw [if_pos h1] at h
      have e : i.toNat = j := Option.some.inj h
      exact ⟨by rw [seqIndex_of h0 h1, e], by omega, by omega, h1⟩
    · rw [if_neg h1] at h; cases h
  · rw [if_neg h0] at h
    by_cases h1 : -(n : Int) ≤ i
    · rw [if_pos h1] at h
      have e : (i + n).toNat = j := Option.some.inj h
      exact ⟨by rw [seqIndex_neg (by omega) h1, e], by omega, h1, by omega⟩
    · rw [if_neg h1] at h; cases h
theorem atI_get {α : Type} {xs : List α} {i : Int} {v : α} (h : atI xs i = some v) : ∃ j, seqIndex? i xs.length = some j ∧ xs[j]? = some v ∧ j < xs.length ∧ -(xs.length : Int) ≤ i ∧ i < xs.length := by
  unfold atI at h
  cases e : ixN xs.length i with
  | none => rw [e] at h; cases h
  | some j =>
    rw [e] at h
    obtain ⟨h1, h2, h3, h4⟩ := ixN_seq e
    exact ⟨j, h1, h, h2, h3, h4⟩
theorem atI_nat {α : Type} {xs : List α} {j : Nat} {v : α} (h : xs[j]? = some v) : atI xs (j : Int) = some v := by
  have hj : j < xs.length := (List.getElem?_eq_some_iff.mp h).1
  have e : ixN xs.length (j : Int) = some j := by
    unfold ixN
    rw [if_pos (by omega), if_pos (by omega)]; simp
  unfold atI; rw [e]; exact h
def PlainIx (b : Expr) : Prop := ∀ o i, subscripted b false o i = operate [o, i] (getItem o i)
def IxR (X : Cx) (r : R2) : Prop :=
  ∀ (value slice : Expr) (pins : List (Addr × Obj)) (s : Shared) (σ : St) (H : Hp) (x y : V) (v u : Value) (Q : VK), Inv X pins σ H s → RelV x v → RelV y u → r x y H Q →
    subscripted slice false v u = operate [v, u] (getItem v u) → wpAny (model X.prog X.w) X.A (subscriptTail value slice v u) (EP X pins σ Q) X.xe s
def MtR (X : Cx) (id : String) (r : V → List V → Hp → VK → Prop) : Prop :=
  ∀ (pins : List (Addr × Obj)) (s : Shared) (σ : St) (H : Hp) (x : V) (xs : List V) (v : Value) (us : List Value) (Q : VK), Inv X pins σ H s → RelV x v → Vals xs us → r x xs H Q →
    wpAny (model X.prog X.w) X.A (call (.builtin id) (v :: us)) (EP X pins σ Q) X.xe s
section
variable {X : Cx} {a b : Expr} {ta tb : TE} {pos : Pos}
theorem IxR.or {r r' : R2} (h : IxR X r) (h' : IxR X r') : IxR X (fun x y H Q => r x y H Q ∨ r' x y H Q) := by
  intro value slice pins s σ H x y v u Q I rx ry q hs
  rcases q with q | q
  · exact h value slice pins s σ H x y v u Q I rx ry q hs
  · exact h' value slice pins s σ H x y v u Q I rx ry q hs
theorem MtR.or {id : String} {r r' : V → List V → Hp → VK → Prop} (h : MtR X id r) (h' : MtR X id r') : MtR X id (fun x xs H Q => r x xs H Q ∨ r' x xs H Q) := by
  intro pins s σ H x xs v us Q I rx rs q
  rcases q with q | q
  · exact h pins s σ H x xs v us Q I rx rs q
  · exact h' pins s σ H x xs v us Q I rx rs q
theorem pe_ix {r : R2} (hr : IxR X r) (ha : PE X a ta) (hb : PE X b tb) (hs : PlainIx b) : PE X (.Subscript a b pos) (tOp r ta tb) := by
  intro pins s σ H Q I h
  exact Subscript_ (binT ha hb I h fun v u s2 x y H2 I2 rx ry q => hr a b pins s2 σ H2 x y v u Q I2 rx ry q (hs _ _))
def rIxL (K : PySem.W.Frag) : R2 := fun x y H Q => ∃ p xs i v, x = .ref p ∧ y = .int i ∧ SqL K H p xs ∧ atI xs i = some v ∧ Q v H
def rIxT (K : PySem.W.Frag) : R2 := fun x y H Q => ∃ p xs i v, x = .ref p ∧ y = .int i ∧ SqT K H p xs ∧ atI xs i = some v ∧ Q v H
def rIxS : R2 := fun x y H Q => ∃ z i c, x = .str z ∧ y = .int i ∧ z.length ≤ sizeLine ∧ atI z.cps.toList i = some c ∧ Q (.str ⟨#[c]⟩) H
theorem ix_list : IxR X (rIxL X.K) := by
  intro value slice pins s σ H x y v u Q I rx ry h hs
  obtain ⟨p, xs, i, z, rfl, rfl, hq, he, q⟩ := h
  cases rx
  obtain ⟨t, rfl⟩ := ry
  obtain ⟨its, r, pl, hz⟩ := I.list hq
  obtain ⟨j, h1, h2, h3, h4, h5⟩ := atI_get he
  obtain ⟨w, ew, rw'⟩ := r.get h2
  have hl := r.length
  have hn := line63
  have fin : EP X pins σ Q w s := ⟨z, H, I, rw', q⟩
  by_cases h0 : 0 ≤ i
  · have hj : i.toNat = j := by
      rw [seqIndex_of h0 h5] at h1
      exact Option.some.inj h1
    exact item_listR pl.isList h0 (by omega) (by rw [hj]; simpa using ew) fin hs
  · have hj : (i + (its.toArray.size : Int)).toNat = j := by
      rw [seqIndex_neg (by omega) h4] at h1
      rw [List.size_toArray, ← hl]
      exact Option.some.inj h1
    exact subscriptTail_builtinR (x := w) pl.isList.typeIs slot_list_getitem.lookup
      (wpAny_getItem_list_neg (Q := fun r s' => r = w ∧ EP X pins σ Q r s') pl.isList (by omega) (by rw [List.size_toArray] <;> omega) (by omega) (by rw [hj]; simpa using ew) ⟨rfl, fin⟩) hs
theorem ix_tup : IxR X (rIxT X.K) := by
  intro value slice pins s σ H x y v u Q I rx ry h hs
  obtain ⟨p, xs, i, z, rfl, rfl, hq, he, q⟩ := h
  cases rx
  obtain ⟨t, rfl⟩ := ry
  obtain ⟨its, r, pl, hz⟩ := I.tuple hq
  obtain ⟨j, h1, h2, h3, h4, h5⟩ := atI_get he
  obtain ⟨w, ew, rw'⟩ := r.get h2
  have hl := r.length
  have hn := line63
  have fin : EP X pins σ Q w s := ⟨z, H, I, rw', q⟩
  exact subscriptTail_builtinR (x := w) pl.typeIs slot_tuple_getitem.lookup
    (getItem_tuple (j := j) (Q := fun r s' => r = w ∧ EP X pins σ Q r s') pl (by omega) (by omega) (by rw [List.size_toArray, ← hl]; exact h1) (by simpa using ew) ⟨rfl, fin⟩) hs
theorem ix_str : IxR X rIxS := by
  intro value slice pins s σ H x y v u Q I rx ry h hs
  obtain ⟨z, i, c, rfl, rfl, hz, he, q⟩ := h
  obtain ⟨t, rfl⟩ := rx
  obtain ⟨t', rfl⟩ := ry
  obtain ⟨j, h1, h2, h3, h4, h5⟩ := atI_get he
  have hl : z.cps.toList.length = z.length := by simp [Str.length]
  rw [hl] at h1 h4 h5
  have hn := line63
  exact tail_any (typeIs_str s z t) slot_str_getitem.lookup (getItem_str (c := c) (by
    have e1 : decide (i < -(2 ^ 63 : Int)) = false := decide_eq_false (by omega)
    have e2 : decide (i ≥ 2 ^ 63) = false := decide_eq_false (by omega)
    rw [e1, e2, Bool.or_false]) (by rw [h1]; simpa using h2) ⟨.str ⟨#[c]⟩, H, I.tok _, ⟨_, rfl⟩, q⟩) hs
def rIx (K : PySem.W.Frag) : R2 := fun x y H Q => rIxL K x y H Q ∨ rIxT K x y H Q ∨ rIxS x y H Q
theorem ix_seq : IxR X (rIx X.K) := ix_list.or (ix_tup.or ix_str)
theorem mapSeq_set (its : List Value) (n j : Nat) (u : Value) : Obj.mapSeq (·.setIfInBounds j u) { cls := .type "list", data := .seq its.toArray n } = { cls := .type "list", data := .seq (its.set j u).toArray n } := by
  simp [Obj.mapSeq]
theorem Inv.lst {pins : List (Addr × Obj)} {σ : St} {H : Hp} {s : Shared} {p : Addr} {xs : List V} (I : Inv X pins σ H s) (h : H p = some (.lst xs)) :
    ∃ (its : List Value) (n : Nat), Vals xs its ∧ s.heap.get? p = some { cls := .type "list", data := .seq its.toArray n } ∧ xs.length ≤ sizeLine := by
  obtain ⟨z, its, n, r, e⟩ := I.hok p _ h
  exact ⟨its, n, r, e, z⟩
theorem Inv.lstUpd {pins : List (Addr × Obj)} {σ : St} {H : Hp} {s : Shared} {p : Addr} {xs ys : List V} {its its' : List Value} {n n' : Nat} {f : Obj → Obj} (I : Inv X pins σ H s) (h : H p = some (.lst xs))
    (ho : s.heap.get? p = some { cls := .type "list", data := .seq its.toArray n }) (hf : f { cls := .type "list", data := .seq its.toArray n } = { cls := .type "list", data := .seq its'.toArray n' }) (r : Vals ys its') (hz : ys.length ≤ sizeLine) (t : Nat) :
    Inv X pins σ (upd H p (.lst ys)) { s with heap := s.heap.update p f, toks := t } := by
  have e : (s.heap.update p f).get? p = some { cls := .type "list", data := .seq its'.toArray n' } := by
    rw [Heap.get?_update_self f ho (by rw [hf] <;> rfl), hf]
  refine I.write (x := p) (e := p) (by rw [h]; trivial) (.inl rfl) (fun b u hb q => (Heap.get?_update_other _ _ (Ne.symm hb)).trans q) ⟨_, e⟩ ?_
  exact ⟨hz, its', n', r, e⟩
def rSetL : V → V → V → Hp → (Hp → Prop) → Prop := fun o i v H Q => ∃ p xs k j, o = .ref p ∧ i = .int k ∧ H p = some (.lst xs) ∧ ixN xs.length k = some j ∧ Q (upd H p (.lst (xs.set j v)))
theorem set_list : PSet X rSetL := by
  intro pins s σ H o i v ov iv u Q I ro ri rv h
  obtain ⟨p, xs, k, j, rfl, rfl, hp, hj, q⟩ := h
  cases ro
  obtain ⟨t, rfl⟩ := ri
  obtain ⟨its, n, r, ho, hz⟩ := I.lst hp
  obtain ⟨h1, h2, h3, h4⟩ := ixN_seq hj
  have hl := r.length
  have hn := line63
  have I' : Inv X pins σ (upd H p (.lst (xs.set j v))) { s with heap := s.heap.update p (Obj.mapSeq (·.setIfInBounds j u)) } :=
    I.lstUpd hp ho (mapSeq_set its n j u) (r.set rv j) (by rw [List.length_set]; exact hz) s.toks
  by_cases h0 : 0 ≤ k
  · have hk : k.toNat = j := by
      rw [seqIndex_of h0 h4] at h1
      exact Option.some.inj h1
    exact PySem.W.ki_setAt ho h0 (by omega) (by rw [List.size_toArray, ← hl]; exact h4) (by rw [hk]; exact ⟨_, I', q⟩)
  · have hk : (k + (its.toArray.size : Int)).toNat = j := by
      rw [seqIndex_neg (by omega) h3] at h1
      rw [List.size_toArray, ← hl]
      exact Option.some.inj h1
    exact PySem.W.ki_setBack ho (by omega) (by rw [List.size_toArray, ← hl]; exact h3) (by omega) (by rw [hk]; exact ⟨_, I', q⟩)
theorem slice_bounds (lo hi : Option Int) (n : Nat) : (sliceBounds lo hi none n).1 = ((HT.sIx n 0 lo : Nat) : Int) ∧ (sliceBounds lo hi none n).2.1 = ((HT.sIx n n hi : Nat) : Int) ∧ (sliceBounds lo hi none n).2.2 = 1 := by
  refine ⟨?_, ?_, rfl⟩
  · cases lo with
    | none => simp [sliceBounds, HT.sIx]
    | some i =>
      simp only [sliceBounds, HT.sIx, Option.getD_none, show (1 : Int) > 0 by decide, if_true]
      by_cases h : i < 0
      · simp only [h, if_true] <;> omega
      · simp only [h, if_false] <;> omega
  · cases hi with
    | none => simp [sliceBounds, HT.sIx]
    | some i =>
      simp only [sliceBounds, HT.sIx, Option.getD_none, show (1 : Int) > 0 by decide, if_true]
      by_cases h : i < 0
      · simp only [h, if_true] <;> omega
      · simp only [h, if_false] <;> omega
theorem slicePick_cut (its : List Value) (lo hi : Option Int) : slicePick its.toArray lo hi none = ((its.drop (HT.sIx its.length 0 lo)).take (HT.sIx its.length its.length hi - HT.sIx its.length 0 lo)).toArray := by
  obtain ⟨h1, h2, h3⟩ := slice_bounds lo hi its.toArray.size
  unfold slicePick
  rw [h1, h2, h3]
  simp only [sliceRange_one, pick_run, List.size_toArray] <;> rfl
def rSlL (K : PySem.W.Frag) : V → Option Int → Option Int → Hp → VK → Prop := fun x lo hi H Q => ∃ a xs, x = .ref a ∧ SqL K H a xs ∧ ∀ p, H p = none → Q (.ref p) (upd H p (.lst (cutV xs lo hi)))
theorem sl_list : SlR X (rSlL X.K) := by
  intro pins s σ H x v vl vu lo hi sl Q I rx hs pl pu h
  obtain ⟨a, xs, rfl, hx, q⟩ := h
  cases rx
  obtain ⟨its, r, ht, hz⟩ := I.list hx
  have hlen := r.length
  refine ⟨"list", _, slot_list_getitem.lookup, ht.isList.typeIs, ?_⟩
  refine wpAny_getItem_list_slice ht.isList hs pl pu .none (by simp) ?_ (by rw [List.size_toArray] <;> omega)
  rw [slicePick_cut, ← hlen]
  refine ⟨.ref s.heap.objs.size, _, I.laid (t' := s.toks) (o := .lst (cutV xs lo hi)) (fun b ob q => Heap.get?_push_of_some _ q) (Nat.le_refl _) ?_, rfl, q _ (I.hok.fresh (Nat.le_refl _))⟩
  exact ⟨Nat.le_trans (cutV_length xs lo hi) hz, _, 0, (r.drop (HT.sIx xs.length 0 lo)).take (HT.sIx xs.length xs.length hi - HT.sIx xs.length 0 lo), Heap.get?_push_size _ rfl⟩
theorem call_len_seq : CallR X (.builtin "len") (fun xs H Q => ∃ p ys, xs = [.ref p] ∧ (SqL X.K H p ys ∨ SqT X.K H p ys) ∧ Q (.int ys.length) H) := by
  intro pins s σ H xs us Q I r h
  obtain ⟨p, ys, rfl, hq, q⟩ := h
  obtain ⟨u, rfl, rx⟩ := vals1 r
  cases rx
  have hn := line63
  rcases hq with hq | hq
  · obtain ⟨its, r', pl, hz⟩ := I.list hq
    have hlen := r'.length
    exact Calls.call_len_list pl.isList (by simp only [List.size_toArray] <;> omega) ⟨.int ys.length, H, I.tok _, ⟨s.toks + 1, by rw [List.size_toArray, hlen]⟩, q⟩
  · obtain ⟨its, r', pl, hz⟩ := I.tuple hq
    have hlen := r'.length
    exact len_tuple pl (by simp only [List.size_toArray] <;> omega) ⟨.int ys.length, H, I.tok _, ⟨s.toks + 1, by rw [List.size_toArray, hlen]⟩, q⟩
theorem CallR.or {f : Value} {r r' : List V → Hp → VK → Prop} (h : CallR X f r) (h' : CallR X f r') : CallR X f (fun xs H Q => r xs H Q ∨ r' xs H Q) := by
  intro pins s σ H xs us Q I rs q
  rcases q with q | q
  · exact h pins s σ H xs us Q I rs q
  · exact h' pins s σ H xs us Q I rs q
theorem call_list_of : CallR X (.type "list") (fun xs H Q => ∃ p ys, xs = [.ref p] ∧ (SqL X.K H p ys ∨ SqT X.K H p ys) ∧ ∀ l, H l = none → Q (.ref l) (upd H l (.lst ys))) := by
  intro pins s σ H xs us Q I r h
  obtain ⟨p, ys, rfl, hq, q⟩ := h
  obtain ⟨u, rfl, rx⟩ := vals1 r
  cases rx
  have fin : ∀ (its : List Value), Vals ys its → ys.length ≤ sizeLine → ∀ (h' : Heap) (c' : Nat), (∀ b o', s.heap.get? b = some o' → h'.get? b = some o') →
      h'.get? s.heap.objs.size = some { cls := .type "list", dict := none, data := .seq its.toArray c', slots := #[] } → EP X pins σ Q (.ref s.heap.objs.size) { s with heap := h' } := fun its r' hz h' c' kp e =>
    ⟨.ref s.heap.objs.size, _, I.laid (t' := s.toks) kp (Nat.le_refl _) (show ObjOk X.prog X.w _ h' _ (.lst ys) from ⟨hz, its, c', r', e⟩), rfl, q _ (I.hok.fresh (Nat.le_refl _))⟩
  rcases hq with hq | hq
  · obtain ⟨its, r', pl, hz⟩ := I.list hq
    have hlen := r'.length
    obtain ⟨o, ho, hc, n, hd⟩ := pl.isList
    exact call_list_seq p (.inl rfl) ho hc hd (fun h' c' kp e => fin its r' hz h' c' kp e) (by simp only [List.size_toArray] <;> omega)
  · obtain ⟨its, r', pl, hz⟩ := I.tuple hq
    have hlen := r'.length
    obtain ⟨o, ho, hc, n, hd⟩ := pl
    exact call_list_seq p (.inr rfl) ho hc hd (fun h' c' kp e => fin its r' hz h' c' kp e) (by simp only [List.size_toArray] <;> omega)
def tyV (K : PySem.W.Frag) (T : String) (x : V) (H : Hp) : Prop := match x with
  | .str _ => T = "str"
  | .int _ => T = "int"
  | .ref p => (T = "list" ∧ ∃ xs, SqL K H p xs) ∨ (T = "tuple" ∧ ∃ o, K.lookup p = some o ∧ o.cls = .type "tuple" ∧ o.dict = none) ∨
      (T = "dict" ∧ ((∃ kvs, H p = some (.dK kvs)) ∨ ∃ kvs, H p = some (.dT kvs))) ∨ (T = "set" ∧ ∃ S n, H p = some (.set S n))
  | _ => False
theorem tyV_is {pins : List (Addr × Obj)} {σ : St} {H : Hp} {s : Shared} {T : String} {x : V} {v : Value} (I : Inv X pins σ H s) (r : RelV x v) (ty : tyV X.K T x H) :
    s.TypeIs v T ∧ ∀ a, v = .ref a → ∃ ob, s.heap.get? a = some ob ∧ ob.dict = none := by
  cases x with
  | str z =>
    obtain ⟨t, rfl⟩ := r
    cases (show T = "str" from ty)
    exact ⟨typeIs_str s z t, fun _ e => nomatch e⟩
  | int i =>
    obtain ⟨t, rfl⟩ := r
    cases (show T = "int" from ty)
    exact ⟨typeIs_int s i t, fun _ e => nomatch e⟩
  | ref p =>
    cases r
    rcases ty with ⟨rfl, xs, hq⟩ | ⟨rfl, o, hk, hc, hd⟩ | ⟨rfl, hk⟩ | ⟨rfl, S, n, hk⟩
    · obtain ⟨its, _, pl, _⟩ := I.list hq
      refine ⟨pl.isList.typeIs, fun a e => ?_⟩
      cases e
      obtain ⟨o, n, e, c, hd, _⟩ := pl
      exact ⟨o, e, hd⟩
    · refine ⟨⟨o, I.kIn p o hk, hc⟩, fun a e => ?_⟩
      cases e
      exact ⟨o, I.kIn _ o hk, hd⟩
    · have z : ∃ o, s.heap.get? p = some o ∧ o.ExactDict := by
        rcases hk with ⟨kvs, hk⟩ | ⟨kvs, hk⟩
        · obtain ⟨_, _, _, _, o, _, _, e, ex, _⟩ := I.hok p _ hk
          exact ⟨o, e, ex⟩
        · obtain ⟨_, _, _, _, o, _, _, e, ex, _⟩ := I.hok p _ hk
          exact ⟨o, e, ex⟩
      obtain ⟨o, e, ex⟩ := z
      refine ⟨⟨o, e, ex.1⟩, fun a e2 => ?_⟩
      cases e2
      exact ⟨o, e, ex.2.1⟩
    · obtain ⟨o, _, _, _, e, ex, _⟩ := I.hok p _ hk
      refine ⟨⟨o, e, ex.1⟩, fun a e2 => ?_⟩
      cases e2
      exact ⟨o, e, ex.2.1⟩
  | _ => exact False.elim ty
def tBM (K : PySem.W.Frag) (T : String) (r : V → List V → Hp → VK → Prop) (to : TE) (t : TA) : TE := fun σ H Q => to σ H fun x H1 => tyV K T x H1 ∧ t σ H1 fun xs H2 => r x xs H2 Q
variable {o e : Expr} {es : List Expr} {to : TE} {t : TA} {name : Str} {apos cpos : Pos} {T id : String} {r : V → List V → Hp → VK → Prop}
theorem pe_bm (pa : PlainAttrs T) (slot : Slot T name id) (hty : typeOf (.builtin id) = pure (.type "method_descriptor")) (hm : MtR X id r) (ho : PE X o to) (ha : PA X (e :: es) t)
    (hbase : attributeBase o name X.env (eval o X.env) = eval o X.env := by rfl)
    (hfew : ((backTo cpos (starEach (e :: es) X.env)).all (fun x => !x.1) && (backToKw cpos (keywordEach [] X.env)).all (fun x => x.1.isSome)
      && decide ((e :: es).length + ([] : List Keyword).length + (if ([] : List Keyword).isEmpty then 0 else 1) < 30)) = true := by rfl)
    (hline : (apos.endLine == cpos.line) = true := by rfl) (hs : starEach (e :: es) X.env = (false, eval e X.env) :: starEach es X.env := by rfl) (hplain : (backTo cpos (starEach es X.env)).any (·.1) = false := by rfl) :
    PE X (.Call (.Attribute o name apos) (e :: es) [] cpos) (tBM X.K T r to t) := by
  intro pins s σ H Q I h
  refine wpAny_Call_method_late hbase hfew hline rfl (thn (ho pins s σ H _ I h) fun v s1 ⟨x, H1, I1, r1, ty, q1⟩ => ?_)
  obtain ⟨h1, h2⟩ := tyV_is I1 r1 ty
  refine ⟨T, id, pa, slot, hty, h1, h2, ?_⟩
  have hA := ha cpos pins s1 σ H1 _ I1 q1
  rw [hs] at hA ⊢
  refine Calls.callWith_builtin (by show (false || (backTo cpos (starEach es X.env)).any (·.1)) = false; rw [hplain] <;> rfl) (Calls.evalArgs_plain ?_)
  exact thn hA fun us s2 ⟨vs, H2, I2, r2, q2⟩ => hm pins s2 σ H2 x vs v us Q I2 r1 r2 q2
end
end L2
namespace L2
open PySem PySem.Spec PyProof.Rows
def MtM (X : Cx) (id : String) (r : V → List V → Hp → VK → Prop) : Prop :=
  ∀ (pins : List (Addr × Obj)) (s : Shared) (σ : St) (H : Hp) (x : V) (xs : List V) (v : Value) (us : List Value) (Q : VK), Inv X pins σ H s → RelV x v → Vals xs us → r x xs H Q →
    wpAny (model X.prog X.w) X.A (call (.builtin id) (v :: us)) (EP X pins σ Q) X.xe s
theorem Vals.one : ∀ {x : V} {us : List Value}, Vals [x] us → ∃ u, us = [u] ∧ RelV x u
  | _, _, .cons r .nil => ⟨_, rfl, r⟩
theorem Vals.two : ∀ {x y : V} {us : List Value}, Vals [x, y] us → ∃ u v, us = [u, v] ∧ RelV x u ∧ RelV y v
  | _, _, _, .cons r (.cons q .nil) => ⟨_, _, rfl, r, q⟩
theorem Vals.zero : ∀ {us : List Value}, Vals [] us → us = []
  | _, .nil => rfl
theorem Vals.eraseIdx : ∀ {xs : List V} {us : List Value} (i : Nat), Vals xs us → Vals (xs.eraseIdx i) (us.eraseIdx i)
  | _, _, _, .nil => .nil
  | _, _, 0, .cons _ t => t
  | _, _, i + 1, .cons r t => .cons r (Vals.eraseIdx i t)
theorem Vals.reverse {xs : List V} {us : List Value} (h : Vals xs us) : Vals xs.reverse us.reverse := by
  induction h with
  | nil => exact .nil
  | cons r t ih => rw [List.reverse_cons, List.reverse_cons]; exact Vals.append ih (.cons r .nil)
theorem Vals.rep {xs : List V} {us : List Value} (h : Vals xs us) : ∀ k : Nat, Vals (List.replicate k xs).flatten (List.replicate k us).flatten
  | 0 => .nil
  | k + 1 => by
    rw [List.replicate_succ, List.replicate_succ, List.flatten_cons, List.flatten_cons]
    exact Vals.append h (Vals.rep h k)
theorem len_erase {α : Type} : ∀ (l : List α) (i : Nat), (l.eraseIdx i).length ≤ l.length
  | [], _ => Nat.le_refl _
  | _ :: _, 0 => Nat.le_succ _
  | _ :: r, i + 1 => Nat.succ_le_succ (len_erase r i)
theorem foldl_rep (its : List Value) : ∀ (k : Nat) (acc : List Value),
    List.foldl (fun x1 x2 => x1 ++ x2) acc.toArray (List.replicate k its.toArray) = (acc ++ (List.replicate k its).flatten).toArray
  | 0, acc => by simp
  | k + 1, acc => by
    have e : acc.toArray ++ its.toArray = (acc ++ its).toArray := by simp
    have e2 : (acc ++ its) ++ (List.replicate k its).flatten = acc ++ (List.replicate (k + 1) its).flatten := by
      rw [List.replicate_succ, List.flatten_cons, List.append_assoc]
    rw [← e2, ← foldl_rep its k (acc ++ its), ← e, List.replicate_succ, List.foldl_cons]
section
variable {X : Cx} {pins : List (Addr × Obj)} {σ : St} {H : Hp} {s : Shared} {l b : Addr} {xs ys zs : List V}
theorem Inv.lset {its its' : List Value} {n : Nat} {f : Array Value → Array Value} {t' : Nat} (I : Inv X pins σ H s) (hH : H l = some (.lst xs))
    (e : s.heap.get? l = some { cls := .type "list", data := .seq its.toArray n }) (hf : f its.toArray = its'.toArray) (hv : Vals ys its') (hz : ys.length ≤ sizeLine) :
    Inv X pins σ (upd H l (.lst ys)) { s with heap := s.heap.update l (Obj.mapSeq f), toks := t' } := by
  have q := PySem.IsL.update e f
  rw [hf] at q
  refine I.write (x := l) (e := l) (by rw [hH]; exact trivial) (.inl rfl) (fun b' u hb hu => (Heap.get?_update_other s.heap (Obj.mapSeq f) (Ne.symm hb)).trans hu) ⟨_, q⟩ ?_
  exact ⟨hz, its', _, hv, q⟩
theorem Inv.lnew {its : List Value} {t' : Nat} (I : Inv X pins σ H s) (hv : Vals ys its) (hz : ys.length ≤ sizeLine) :
    Inv X pins σ (upd H s.heap.objs.size (.lst ys)) { s with heap := s.heap.push { cls := .type "list", data := .seq its.toArray }, toks := t' } :=
  I.laid (fun _ _ q => Heap.get?_push_of_some _ q) (Nat.le_refl _) ⟨hz, its, 0, hv, Heap.get?_push_size _ rfl⟩
theorem Inv.fresh (I : Inv X pins σ H s) : H s.heap.objs.size = none := I.hok.fresh (Nat.le_refl _)
theorem Inv.lstM (I : Inv X pins σ H s) (hH : H l = some (.lst xs)) : xs.length ≤ sizeLine ∧ ∃ (its : List Value) (n : Nat), Vals xs its ∧ xs.length = its.length ∧ s.heap.get? l = some { cls := .type "list", data := .seq its.toArray n } := by
  obtain ⟨z, its, n, r, e⟩ := I.hok l _ hH
  exact ⟨z, its, n, r, r.length, e⟩
theorem notLongL {n : Nat} (h : n ≤ sizeLine) : Builtin.List.listTooLong n = false := by
  unfold Builtin.List.listTooLong
  exact decide_eq_false (by omega)
end
section
variable {X : Cx}
def rAppend : V → List V → Hp → VK → Prop := fun x vs H Q => ∃ l xs y, x = .ref l ∧ vs = [y] ∧ H l = some (.lst xs) ∧ xs.length < sizeLine ∧ Q .non (upd H l (.lst (xs ++ [y])))
theorem mt_append : MtM X "list.append" rAppend := by
  intro pins s σ H x vs v us Q I rx rv h
  obtain ⟨l, xs, y, rfl, rfl, hH, hz, q⟩ := h
  cases rx
  obtain ⟨u, rfl, ru⟩ := rv.one
  obtain ⟨z, its, n, r, hl, e⟩ := I.lstM hH
  refine call_meets F.slot_list_append ⟨_, e, rfl⟩ F.entry_list_append (F.args_list_append_2 _ _) (PySem.list_append l its.toArray n u (by rw [List.size_toArray]; omega)) ⟨e, ?_⟩
  refine ⟨.non, _, I.lset (its' := its ++ [u]) hH e (by simp) (r.append (.cons ru .nil)) ?_, rfl, q⟩
  rw [List.length_append, List.length_singleton]
  omega
def rPopAt : V → List V → Hp → VK → Prop := fun x vs H Q => ∃ l xs i k y, x = .ref l ∧ vs = [.int i] ∧ H l = some (.lst xs) ∧ -(2 ^ 63) ≤ i ∧ i < 2 ^ 63 ∧ seqIndex? i xs.length = some k ∧ xs[k]? = some y ∧ Q y (upd H l (.lst (xs.eraseIdx k)))
theorem mt_popAt : MtM X "list.pop" rPopAt := by
  intro pins s σ H x vs v us Q I rx rv h
  obtain ⟨l, xs, i, k, y, rfl, rfl, hH, h1, h2, hk, hy, q⟩ := h
  cases rx
  obtain ⟨u, rfl, ru⟩ := rv.one
  obtain ⟨t, rfl⟩ := ru
  obtain ⟨z, its, n, r, hl, e⟩ := I.lstM hH
  obtain ⟨w, hw, rw'⟩ := r.get hy
  refine call_meets F.slot_list_pop ⟨_, e, rfl⟩ F.entry_list_pop (F.args_list_pop_2 _ _)
    (MeetsSeq.list_pop_at l its.toArray n i t k w (fitsIndex_both h1 h2) (by rw [List.size_toArray, ← hl]; exact hk) (by rw [← Array.getElem?_toList]; exact hw) (by rw [List.size_toArray]; omega)) ⟨e, ?_⟩
  refine ⟨y, _, I.lset (its' := its.eraseIdx k) hH e ?_ (r.eraseIdx k) ?_, rw', q⟩
  · show its.toArray.eraseIdxIfInBounds k = (its.eraseIdx k).toArray
    rw [List.eraseIdxIfInBounds_toArray]
  · have := len_erase xs k
    omega
def rRep : R2 := fun x y H Q => ∃ l k xs, x = .ref l ∧ y = .int k ∧ H l = some (.lst xs) ∧ -(2 ^ 63) ≤ k ∧ k < 2 ^ 63 ∧ xs.length * k.toNat ≤ sizeLine ∧
  ∀ p, H p = none → Q (.ref p) (upd H p (.lst (List.replicate k.toNat xs).flatten))
theorem len_rep {α : Type} (xs : List α) (k : Nat) : (List.replicate k xs).flatten.length = k * xs.length := by
  induction k with
  | zero => simp
  | succ k ih => rw [List.replicate_succ, List.flatten_cons, List.length_append, ih, Nat.succ_mul, Nat.add_comm]
theorem op_rep : OpR X (binaryOp .Mult) rRep := by
  intro pins s σ H x y v u Q I rx ry h
  obtain ⟨l, k, xs, rfl, rfl, hH, h1, h2, hz, q⟩ := h
  cases rx
  obtain ⟨t, rfl⟩ := ry
  obtain ⟨z, its, n, r, hl, e⟩ := I.lstM hH
  have hlen : its.toArray.size * k.toNat ≤ sizeLine := by rw [List.size_toArray, ← hl]; exact hz
  have hcap : ¬ its.toArray.size * k.toNat > (2 ^ 63 - 1) / 8 := by
    have : (sizeLine : Nat) ≤ (2 ^ 63 - 1) / 8 := by decide
    omega
  have hfit : ¬ (!Builtin.List.listFitsIndex k) = true := by
    rw [fitsIndex_both h1 h2]
    exact Bool.false_ne_true
  have hlong : ¬ Builtin.List.listTooLong (its.toArray.size * k.toNat) = true := by
    rw [notLongL hlen]
    exact Bool.false_ne_true
  have hnew : List.foldl (fun x1 x2 => x1 ++ x2) #[] (List.replicate (if its.toArray.isEmpty = true then 0 else k.toNat) its.toArray) = (List.replicate k.toNat its).flatten.toArray := by
    have f0 : ∀ m : Nat, List.foldl (fun x1 x2 => x1 ++ x2) #[] (List.replicate m its.toArray) = (List.replicate m its).flatten.toArray := fun m => by
      have := foldl_rep its m []
      rw [List.nil_append] at this
      exact this
    rw [f0]
    cases its with
    | nil => simp
    | cons a r' => rw [if_neg (by simp)]
  refine wpAny_binaryOp_repeat_ref (T := "list") (U := "int") (by decide) ⟨_, e, rfl⟩ (fun s' => typeIs_int s' k t) noFill_list_mul F.fills_int_mul F.slot_int_rmul repeat_list F.slot_int_index.lookup
    (call_meets F.slot_int_rmul (typeIs_int s k t) F.entry_int_rmul (F.args_int_rmul_2 _ _) (int___rmul___int_list k t l its.toArray n)
      ⟨e, rfl, ⟨_, e, rfl⟩, call_meets F.slot_list_mul ⟨_, e, rfl⟩ F.entry_list_mul (F.args_list_mul_2 _ _) (AutoListH.list___mul___list_int_3 l its.toArray n k t hfit hcap hlong) ⟨e, ?_⟩⟩)
  rw [hnew]
  exact ⟨.ref _, _, I.lnew (t' := s.toks) (r.rep k.toNat) (by rw [len_rep, Nat.mul_comm]; exact hz), rfl, q _ I.fresh⟩
end
section
variable {prog : Program} {w : World} {A : Around} {E : Value → Shared → Prop} {s : Shared}
end
section
variable {X : Cx}
end
end L2
namespace L2
open PySem PySem.Spec PyProof.Rows
theorem Vals.ints : ∀ {ns : List Int} {us : List Value}, Vals (ns.map V.int) us → IntsAre us ns
  | [], us, h => by
    rw [List.map_nil] at h
    cases h
    exact IntsAre.nil
  | n :: ns, us, h => by
    rw [List.map_cons] at h
    cases h with
    | cons r t =>
      obtain ⟨k, rfl⟩ := r
      exact IntsAre.cons n k (Vals.ints t)
theorem Vals.bls : ∀ {bs : List Bool} {us : List Value}, Vals (bs.map V.bl) us → us = bs.map Value.bool
  | [], us, h => by
    rw [List.map_nil] at h
    cases h
    rfl
  | b :: bs, us, h => by
    rw [List.map_cons] at h
    cases h with
    | cons r t =>
      cases r
      rw [Vals.bls t, List.map_cons]
theorem Vals.ref1 {a : Addr} {us : List Value} (r : Vals [V.ref a] us) : us = [Value.ref a] := by
  cases r with
  | cons r t =>
    cases t
    cases r
    rfl
section
variable {prog : Program} {w : World} {A : Around} {E : Value → Shared → Prop} {s : Shared} {l : Addr} {its : List Value} {ns : List Int} {Q : Value → Shared → Prop}
theorem sum_raw (hh : A.handled = none) (hl : s.heap.IsList l its.toArray) (hi : IntsAre its ns)
    (h : ∀ h' tk t', (∀ b o, s.heap.get? b = some o → h'.get? b = some o) → Q (.int ns.sum t') { s with heap := h', toks := tk }) : wpAny (model prog w) A (call (.builtin "sum") [.ref l]) Q E s := by
  obtain ⟨xs, e⟩ := hi.allInts.items
  have hn : numsOf (intItems xs).toList = ns := by rw [← e]; exact hi.numsOf
  rw [nums_intItems] at hn
  rw [e] at hl
  refine PySem.sum_intListG hh hl fun h' tk t' hk => ?_
  have := h h' tk t' hk
  rw [preSum_eq, List.take_of_length_le (by simp), hn]; exact this
end
section
variable {X : Cx}
def rSum (K : PySem.W.Frag) : List V → Hp → VK → Prop := fun vs H Q => ∃ (a : Addr) (ns : List Int), vs = [V.ref a] ∧ SqL K H a (ns.map V.int) ∧ Q (.int ns.sum) H
theorem cr_sum (hc : X.calm = true) : CallR X (.builtin "sum") (rSum X.K) := by
  intro pins s σ H vs us Q I r h
  obtain ⟨a, ns, rfl, hs, q⟩ := h
  obtain ⟨its, rv, hl, _⟩ := I.list hs
  rw [Vals.ref1 r]
  exact sum_raw (I.ok.hd hc) hl.isList rv.ints fun h' tk t' hk => ⟨.int _, H, I.kept hk, ⟨_, rfl⟩, q⟩
end
section
variable {X : Cx}
end
section
variable {X : Cx}
end
theorem iter_any {prog : Program} {w : World} {A : Around} {E : Value → Shared → Prop} {s : Shared} {l : Addr} {items : Array Value} {Q : Value → Shared → Prop} (hl : s.heap.IsList l items)
    (h : ∀ s₂ : Shared, s₂ = { s with heap := s.heap.push { cls := .type "list_iterator", data := .fields #[.ref l, .int 0 0] } } →
      (s₂.heap.IsListIter s.heap.objs.size l 0 ∧ s₂.heap.IsList l items) → l ≠ s.heap.objs.size → Q (.ref s.heap.objs.size) s₂) : wpAny (model prog w) A (pyIter (.ref l)) Q E s := by
  have hlt : l < s.heap.objs.size := by obtain ⟨_, e, _⟩ := hl; exact Heap.lt_size e
  exact wpAny_pyIter_list hl (h _ rfl ⟨⟨_, Heap.get?_push_size _ rfl, rfl, rfl⟩, hl.push _⟩ (Nat.ne_of_lt hlt))
theorem truth_bools {prog : Program} {w : World} {A : Around} {bs : List Bool} {its : List Value} (e : its = bs.map Value.bool) :
    TruthOf prog w A (fun i v => its.toArray[i]? = some v) (fun i => bs.getD i false) := fun i v s Q E hv hq => by
  have hv' : its[i]? = some v := by simpa using hv
  rw [e, List.getElem?_map] at hv'
  obtain ⟨b, hb, rfl⟩ := Option.map_eq_some_iff.mp hv'
  have hg : bs.getD i false = b := by rw [List.getD_eq_getElem?_getD, hb] <;> rfl
  have hq' : Q (bs.getD i false) s := hq
  rw [hg] at hq'
  exact wpAny_truthy_bool hq'
theorem all_range : ∀ bs : List Bool, (List.range bs.length).all (fun i => bs.getD i false) = bs.all id
  | [] => rfl
  | b :: bs => by
    rw [List.length_cons, List.range_succ_eq_map, List.all_cons, List.all_map, List.all_cons, ← all_range bs]
    all_goals rfl
section
variable {X : Cx}
def rAll (K : PySem.W.Frag) : List V → Hp → VK → Prop := fun vs H Q => ∃ (a : Addr) (bs : List Bool), vs = [V.ref a] ∧ SqL K H a (bs.map V.bl) ∧ Q (.bl (bs.all id)) H
theorem cr_all (hc : X.calm = true) : CallR X (.builtin "all") (rAll X.K) := by
  intro pins s σ H vs us Q I r h
  obtain ⟨a, bs, rfl, hs, q⟩ := h
  obtain ⟨its, rv, hl, _⟩ := I.list hs
  rw [Vals.ref1 r]
  have hb := rv.bls
  refine call_all_walk (iter_any hl.isList fun s₂ e2 st hne => ?_)
  subst e2
  refine ⟨_, _, _, _, _, _, _, rfl, Walks.list (A := X.A.in1) (I.ok.hd hc) _ a hne its.toArray, st, truth_bools hb, fun h' tk hk => ?_⟩
  refine ⟨.bl _, H, I.kept fun b o eo => hk b o (fun hmem => ?_) (Heap.get?_push_of_some _ eo), ?_, q⟩
  · rcases List.mem_cons.mp hmem with e1 | hmem
    · exact absurd (e1 ▸ Heap.lt_size eo) (Nat.lt_irrefl _)
    · cases hmem
  · show Value.bool _ = Value.bool _
    rw [← all_range, hb, List.size_toArray, List.length_map]
end
mutual
inductive Dp (K : PySem.W.Frag) (H : Hp) : V → PyData → Prop
  | non : Dp K H .non .none
  | bl (b : Bool) : Dp K H (.bl b) (.bool b)
  | int (i : Int) : Dp K H (.int i) (.int i)
  | str (x : Str) : Dp K H (.str x) (.str x)
  | lst {a : Addr} {xs : List V} {ds : List PyData} : SqL K H a xs → DpAll K H xs ds → Dp K H (.ref a) (.list ds)
  | tup {a : Addr} {xs : List V} {ds : List PyData} : SqT K H a xs → DpAll K H xs ds → Dp K H (.ref a) (.tuple ds)
inductive DpAll (K : PySem.W.Frag) (H : Hp) : List V → List PyData → Prop
  | nil : DpAll K H [] []
  | cons {v : V} {vs : List V} {d : PyData} {ds : List PyData} : Dp K H v d → DpAll K H vs ds → DpAll K H (v :: vs) (d :: ds)
end
section
variable {X : Cx} {pins : List (Addr × Obj)} {σ : St} {H : Hp} {s : Shared}
mutual
theorem Dp.reads (I : Inv X pins σ H s) : ∀ (d : PyData) (v : V) (u : Value), Dp X.K H v d → RelV v u → ∃ as, Reads s.heap u d as
  | .none, _, _, h, r => by
    cases h
    cases r
    exact ⟨_, Reads.none⟩
  | .bool b, _, _, h, r => by
    cases h
    cases r
    exact ⟨_, Reads.bool b⟩
  | .int i, _, _, h, r => by
    cases h
    obtain ⟨t, rfl⟩ := r
    exact ⟨_, Reads.int i t⟩
  | .str x, _, _, h, r => by
    cases h
    obtain ⟨t, rfl⟩ := r
    exact ⟨_, Reads.str x t⟩
  | .list ds, _, _, h, r => by
    cases h with
    | lst hs ha =>
      cases r
      obtain ⟨its, rv, ⟨o, n, ho, hc, _, hd⟩, _⟩ := I.list hs
      obtain ⟨as, hr⟩ := Dp.readsAll I ds _ its ha rv
      exact ⟨_, Reads.list ho hc hd hr⟩
  | .tuple ds, _, _, h, r => by
    cases h with
    | tup hs ha =>
      cases r
      obtain ⟨its, rv, ⟨o, ho, hc, n, hd⟩, _⟩ := I.tuple hs
      obtain ⟨as, hr⟩ := Dp.readsAll I ds _ its ha rv
      exact ⟨_, Reads.tuple ho hc hd hr⟩
  | .dict _, _, _, h, _ => by cases h
theorem Dp.readsAll (I : Inv X pins σ H s) : ∀ (ds : List PyData) (vs : List V) (us : List Value), DpAll X.K H vs ds → Vals vs us → ∃ as, ReadsAll s.heap us ds as
  | [], _, _, h, r => by
    cases h
    cases r
    exact ⟨_, ReadsAll.nil⟩
  | d :: ds, _, _, h, r => by
    cases h with
    | cons h1 h2 =>
      cases r with
      | cons r1 r2 =>
        obtain ⟨as, q1⟩ := Dp.reads I d _ _ h1 r1
        obtain ⟨bs, q2⟩ := Dp.readsAll I ds _ _ h2 r2
        exact ⟨_, ReadsAll.cons q1 q2⟩
end
end
section
variable {X : Cx}
def rEqD (K : PySem.W.Frag) : R2 := fun x y H Q => ∃ d e, Dp K H x d ∧ Dp K H y e ∧ SeqAt.shaped d = true ∧ SeqAt.shaped e = true ∧ Q (.bl (PyData.eqv d e)) H
def rNeD (K : PySem.W.Frag) : R2 := fun x y H Q => ∃ d e, Dp K H x d ∧ Dp K H y e ∧ SeqAt.shaped d = true ∧ SeqAt.shaped e = true ∧ Q (.bl (!PyData.eqv d e)) H
theorem op_eqD (hu : X.A.units + 64 < cLine) : OpR X (compareOp .Eq) (rEqD X.K) := by
  intro pins s σ H x y v u Q I rx ry h
  obtain ⟨d, e, hd, he, sd, se, q⟩ := h
  obtain ⟨as, r1⟩ := Dp.reads I d x v hd rx
  obtain ⟨bs, r2⟩ := Dp.reads I e y u he ry
  exact SeqAt.compareEq_shaped r1 r2 sd se hu ⟨.bl _, H, I, rfl, q⟩
theorem op_neD (hu : X.A.units + 64 < cLine) : OpR X (compareOp .NotEq) (rNeD X.K) := by
  intro pins s σ H x y v u Q I rx ry h
  obtain ⟨d, e, hd, he, sd, se, q⟩ := h
  obtain ⟨as, r1⟩ := Dp.reads I d x v hd rx
  obtain ⟨bs, r2⟩ := Dp.reads I e y u he ry
  exact SeqAt.compareNe_shaped r1 r2 sd se hu ⟨.bl _, H, I, rfl, q⟩
end
end L2
namespace L2
open PySem PySem.Spec PyProof.Rows
abbrev CellAt (h : Heap) (c : Addr) (v : Option Value) : Prop := h.IsCell c v
def relS (scope sc : Scope) : Scope :=
  { scope with names := scope.names.map fun (n, k) => if (k == .free && sc.kind == .function && sc.names.lookup n == some .cell) then (n, .cell) else (n, k) }
def cloFrom (cells : List (Str × Addr)) : List (Str × NameKind) → List (Str × Addr) → List (Str × Addr)
  | [], acc => acc
  | (n, k) :: r, acc => if k == .free then cloFrom cells r ((n, (cells.lookup n).getD 0) :: acc) else cloFrom cells r acc
theorem closure_loop (env : Env) (f : Str × NameKind → List (Str × Addr) → Sem (ForInStep (List (Str × Addr))))
    (hf : ∀ n k c, f (n, k) c = if k == .free then (do let a ← cellOf env n; pure (.yield ((n, a) :: c))) else pure (.yield c)) :
    ∀ (names : List (Str × NameKind)) (acc : List (Str × Addr)), (∀ y ∈ names, y.2 = .free → ∃ c, env.cells.lookup y.1 = some c) → forIn names acc f = pure (cloFrom env.cells names acc)
  | [], acc, _ => by rw [List.forIn_nil]; rfl
  | (n, k) :: r, acc, h => by
    rw [List.forIn_cons, hf]
    have ih := fun acc => closure_loop env f hf r acc fun y hy => h y (List.mem_cons_of_mem _ hy)
    unfold cloFrom
    by_cases hk : (k == NameKind.free) = true
    · rw [if_pos hk, if_pos hk]
      obtain ⟨c, hc⟩ := h (n, k) List.mem_cons_self (by simpa using hk)
      have e : cellOf env n = pure c := by unfold cellOf; rw [hc]
      rw [e]
      have e2 : (env.cells.lookup n).getD 0 = c := by rw [hc]; rfl
      rw [e2]
      exact ih _
    · rw [if_neg hk, if_neg hk]
      exact ih _
theorem closure_ok {scope : Scope} {env : Env} (h : ∀ y ∈ scope.names, y.2 = .free → ∃ c, env.cells.lookup y.1 = some c) : closureFor scope env = pure (cloFrom env.cells scope.names []) := by
  simp only [closureFor]
  rw [closure_loop env _ (fun n k c => rfl) scope.names [] h]
  rfl
theorem mem_lookup {α : Type} : ∀ {l : List (Str × α)} {n : Str} {c : α}, (n, c) ∈ l → ∃ c', l.lookup n = some c'
  | (k, v) :: r, n, c, h => by
    rw [List.lookup_cons]
    cases hb : n == k with
    | true => exact ⟨_, rfl⟩
    | false =>
      rcases List.mem_cons.mp h with e | h
      · cases e; simp at hb
      · exact mem_lookup h
theorem cloFrom_mem {cells : List (Str × Addr)} : ∀ {names : List (Str × NameKind)} {acc : List (Str × Addr)} {n : Str} {c : Addr}, (n, c) ∈ cloFrom cells names acc → (n, c) ∈ acc ∨ ((n, .free) ∈ names ∧ c = (cells.lookup n).getD 0)
  | [], _, _, _, h => .inl h
  | (m, k) :: r, acc, n, c, h => by
    unfold cloFrom at h
    split at h
    · rename_i hk
      have hk : k = .free := by simpa using hk
      rcases cloFrom_mem h with h | ⟨h1, h2⟩
      · rcases List.mem_cons.mp h with e | h
        · cases e; exact .inr ⟨hk ▸ List.mem_cons_self, rfl⟩
        · exact .inl h
      · exact .inr ⟨List.mem_cons_of_mem _ h1, h2⟩
    · rcases cloFrom_mem h with h | ⟨h1, h2⟩
      · exact .inl h
      · exact .inr ⟨List.mem_cons_of_mem _ h1, h2⟩
theorem cloFrom_acc {cells : List (Str × Addr)} : ∀ {names : List (Str × NameKind)} {acc : List (Str × Addr)} {p : Str × Addr}, p ∈ acc → p ∈ cloFrom cells names acc
  | [], _, _, h => h
  | (m, k) :: r, acc, p, h => by
    unfold cloFrom
    split
    · exact cloFrom_acc (List.mem_cons_of_mem _ h)
    · exact cloFrom_acc h
theorem cloFrom_has {cells : List (Str × Addr)} : ∀ {names : List (Str × NameKind)} {acc : List (Str × Addr)} {n : Str}, (n, .free) ∈ names → (n, (cells.lookup n).getD 0) ∈ cloFrom cells names acc
  | (m, k) :: r, acc, n, h => by
    unfold cloFrom
    rcases List.mem_cons.mp h with e | h
    · cases e
      exact cloFrom_acc List.mem_cons_self
    · split
      · exact cloFrom_has h
      · exact cloFrom_has h
theorem cells_mem : ∀ {names : List (Str × NameKind)} {h : Heap} {acc : List (Str × Addr)} {x : Str} {c : Addr}, (x, c) ∈ cellsFrom h.objs.size names acc →
    (x, c) ∈ acc ∨ ((x, .cell) ∈ names ∧ h.objs.size ≤ c ∧ CellAt (pushCells h names) c none)
  | [], _, _, _, _, h => .inl h
  | (n, k) :: r, h, acc, x, c, hm => by
    unfold cellsFrom at hm
    unfold pushCells
    split at hm
    · rename_i hk
      rw [if_pos hk]
      have hk : k = .cell := by simpa using hk
      rw [← Heap.size_push h { cls := .type "cell", data := .cell none }] at hm
      rcases cells_mem hm with hm | ⟨h1, h2, h3⟩
      · rcases List.mem_cons.mp hm with e | hm
        · cases e
          exact .inr ⟨hk ▸ List.mem_cons_self, Nat.le_refl _, _, pushCells_keeps r _ _ _ (Heap.get?_push_size _ rfl), rfl⟩
        · exact .inl hm
      · rw [Heap.size_push] at h2
        exact .inr ⟨List.mem_cons_of_mem _ h1, Nat.le_of_succ_le h2, h3⟩
    · rename_i hk
      rw [if_neg hk]
      rcases cells_mem hm with hm | ⟨h1, h2, h3⟩
      · exact .inl hm
      · exact .inr ⟨List.mem_cons_of_mem _ h1, h2, h3⟩
theorem cells_acc : ∀ {names : List (Str × NameKind)} {n : Nat} {acc : List (Str × Addr)} {p : Str × Addr}, p ∈ acc → p ∈ cellsFrom n names acc
  | [], _, _, _, h => h
  | (m, k) :: r, n, acc, p, h => by
    unfold cellsFrom
    split
    · exact cells_acc (List.mem_cons_of_mem _ h)
    · exact cells_acc h
theorem cells_has : ∀ {names : List (Str × NameKind)} {n : Nat} {acc : List (Str × Addr)} {x : Str}, (x, .cell) ∈ names → ∃ c, (x, c) ∈ cellsFrom n names acc
  | (m, k) :: r, n, acc, x, h => by
    unfold cellsFrom
    rcases List.mem_cons.mp h with e | h
    · cases e
      exact ⟨n, cells_acc List.mem_cons_self⟩
    · split
      · exact cells_has h
      · exact cells_has h
theorem cells_inj : ∀ {names : List (Str × NameKind)} {h : Heap} {acc : List (Str × Addr)} {x y : Str} {c : Addr}, (∀ p ∈ acc, p.2 < h.objs.size) → (∀ x y c, (x, c) ∈ acc → (y, c) ∈ acc → x = y) →
    (x, c) ∈ cellsFrom h.objs.size names acc → (y, c) ∈ cellsFrom h.objs.size names acc → x = y
  | [], _, _, _, _, _, _, hi, h1, h2 => hi _ _ _ h1 h2
  | (n, k) :: r, h, acc, x, y, c, hl, hi, h1, h2 => by
    unfold cellsFrom at h1 h2
    split at h1
    · rename_i hk
      rw [if_pos hk] at h2
      rw [← Heap.size_push h { cls := .type "cell", data := .cell none }] at h1 h2
      refine cells_inj (h := h.push _) (fun p hp => ?_) (fun x y c a b => ?_) h1 h2
      · rw [Heap.size_push]
        rcases List.mem_cons.mp hp with rfl | hp
        · exact Nat.lt_succ_self _
        · exact Nat.lt_succ_of_lt (hl p hp)
      · rcases List.mem_cons.mp a with e | a <;> rcases List.mem_cons.mp b with e' | b
        · cases e; cases e'; rfl
        · cases e; exact absurd (hl _ b) (Nat.lt_irrefl _)
        · cases e'; exact absurd (hl _ a) (Nat.lt_irrefl _)
        · exact hi _ _ _ a b
    · rename_i hk
      rw [if_neg hk] at h2
      exact cells_inj hl hi h1 h2
theorem newEnv_comp {M : Model} {A : Around} {E : Value → Shared → Prop} {s : Shared} {scope : Scope} {globals : Addr} {closure : List (Str × Addr)} {qual : Str} {func : Option Addr} {code : Value} {around : Env} {builtins : Addr} {Q : Env → Shared → Prop}
    (h : Q (newEnv scope s.heap.objs.size globals (cellsFrom (s.heap.objs.size + 1) scope.names closure) qual func code (some around) builtins)
      { s with heap := pushCells (s.heap.push { cls := .type "dict", data := .dict #[] }) scope.names }) :
    wpAny M A (newFunctionEnv scope globals closure [] qual func code (some around) builtins) Q E s := by
  simp only [newFunctionEnv, Option.isSome_some, if_true]
  refine wpAny_bind (wpAny_alloc ?_)
  refine wpAny_bind (wpAny_layCells _ (fun n k c => rfl) scope.names closure _ _ ?_)
  rw [show ({ s with heap := s.heap.push { cls := .type "dict", data := .dict #[] } } : Shared).heap.objs.size = s.heap.objs.size + 1 from Heap.size_push ..]
  rw [List.forIn_nil]
  exact wpAny_bind (wpAny_pure (wpAny_pure h))
theorem lookup_relS {sc : Scope} : ∀ {names : List (Str × NameKind)} {x : Str} {k : NameKind},
    (names.map fun (n, k) => if (k == NameKind.free && sc.kind == .function && sc.names.lookup n == some .cell) then (n, NameKind.cell) else (n, k)).lookup x = some k →
    ∃ k', names.lookup x = some k' ∧ (k = k' ∨ (k' = .free ∧ k = .cell))
  | [], _, _, h => by simp at h
  | (n, k₀) :: r, x, k, h => by
    have ih := @lookup_relS sc r x k
    have h' : List.lookup x ((if (k₀ == NameKind.free && sc.kind == .function && sc.names.lookup n == some .cell) = true then (n, NameKind.cell) else (n, k₀)) :: (r.map _)) = some k := h
    cases hx : x == n with
    | true =>
      simp only [List.lookup_cons, hx]
      by_cases hc : (k₀ == NameKind.free && sc.kind == .function && sc.names.lookup n == some .cell) = true
      · rw [if_pos hc] at h'
        simp only [List.lookup_cons, hx] at h'
        cases h'
        simp only [Bool.and_eq_true, beq_iff_eq] at hc
        exact ⟨k₀, rfl, .inr ⟨hc.1.1, rfl⟩⟩
      · rw [if_neg hc] at h'
        simp only [List.lookup_cons, hx] at h'
        cases h'
        exact ⟨_, rfl, .inl rfl⟩
    | false =>
      simp only [List.lookup_cons, hx]
      by_cases hc : (k₀ == NameKind.free && sc.kind == .function && sc.names.lookup n == some .cell) = true
      · rw [if_pos hc] at h'
        simp only [List.lookup_cons, hx] at h'
        exact ih h'
      · rw [if_neg hc] at h'
        simp only [List.lookup_cons, hx] at h'
        exact ih h'
structure BlkOk (N : List Str) (sc scope : Scope) (own : List (Str × Nat)) : Prop where
  kind : scope.kind = .function
  uniq : ∀ y ∈ scope.names, scope.names.lookup y.1 = some y.2
  ix : ∀ p ∈ own, N[p.2]? = some p.1
  free : ∀ y ∈ scope.names, y.2 = .free → sc.names.lookup y.1 = some .cell ∨ sc.names.lookup y.1 = some .free
  own : ∀ y ∈ scope.names, y.2 = .local ∨ y.2 = .cell → y.1 ∈ own.map (·.1) ∨ y.1 ∉ N
def wipe (σ : St) : List Nat → St
  | [] => σ
  | v :: vs => (wipe σ vs).set v none
theorem wipe_length (σ : St) : ∀ vs : List Nat, (wipe σ vs).length = σ.length
  | [] => rfl
  | v :: vs => by unfold wipe; rw [List.length_set, wipe_length σ vs]
theorem wipe_some {σ : St} {i : Nat} {x : V} : ∀ {vs : List Nat}, (wipe σ vs)[i]? = some (some x) → σ[i]? = some (some x) ∧ i ∉ vs
  | [], h => ⟨h, by simp⟩
  | v :: vs, h => by
    unfold wipe at h
    by_cases hi : v = i
    · subst hi
      by_cases hv : v < (wipe σ vs).length
      · rw [List.getElem?_set_self hv] at h; cases h
      · rw [List.getElem?_eq_none (by simpa using hv)] at h; cases h
    · rw [List.getElem?_set_ne hi] at h
      obtain ⟨h1, h2⟩ := wipe_some h
      exact ⟨h1, by simp only [List.mem_cons, not_or]; exact ⟨fun e => hi e.symm, h2⟩⟩
abbrev Cx.blk (X : Cx) (s : Shared) (H : Hp) (scope : Scope) (cenv : Env) (fp : List Addr) : Cx := { X with s_0 := s, H_0 := H, env := cenv, outer := X.stack, ex := fp, fn := fun x => scope.names.lookup x == some .cell, pn := [], xe := fun _ _ => False }
section
variable {X : Cx} {pins : List (Addr × Obj)} {σ : St} {H : Hp} {s : Shared}
theorem block_start {scope : Scope} {own : List (Str × Nat)} {fp : List Addr} (I : Inv X pins σ H s) (ok : BlkOk X.N X.env.scope scope own) (hN : X.N.Nodup) (hfp : ∀ b ∈ fp, FpOk X pins H b ∧ b < s.heap.objs.size) :
    Inv (X.blk s H scope (compEnvC scope (cellsFrom (s.heap.objs.size + 1) scope.names (cloFrom X.env.cells scope.names [])) s.heap.objs.size X.env) fp) [] (wipe σ (own.map (·.2))) H { s with heap := pushCells (s.heap.push { cls := .type "dict", data := .dict #[] }) scope.names } := by
  have hfree : ∀ y ∈ scope.names, y.2 = .free → ∃ c, X.env.cells.lookup y.1 = some c := fun y hy e => by
    rcases ok.free y hy e with k | k
    · exact I.ok.has _ (.inl k)
    · exact I.ok.has _ (.inr k)
  generalize hcenv : compEnvC scope (cellsFrom (s.heap.objs.size + 1) scope.names (cloFrom X.env.cells scope.names [])) s.heap.objs.size X.env = cenv
  have kp : ∀ b o, s.heap.get? b = some o → (pushCells (s.heap.push { cls := .type "dict", data := .dict #[] }) scope.names).get? b = some o := fun b o e => pushCells_keeps _ _ _ _ (Heap.get?_push_of_some _ e)
  have hL : cenv.locals = s.heap.objs.size := by rw [← hcenv]; rfl
  have hcl : cenv.cells = cellsFrom (s.heap.objs.size + 1) scope.names (cloFrom X.env.cells scope.names []) := by rw [← hcenv]; rfl
  have hsc : cenv.scope = relS scope X.env.scope := by rw [← hcenv]; rfl
  rw [← Heap.size_push s.heap { cls := .type "dict", data := .dict #[] }] at hcl
  have cm : ∀ {y c}, (y, c) ∈ cloFrom X.env.cells scope.names [] → X.env.cells.lookup y = some c ∧ c < s.heap.objs.size := fun {y c} hm => by
    rcases cloFrom_mem hm with hm | ⟨h1, rfl⟩
    · cases hm
    · obtain ⟨c, hc⟩ := hfree _ h1 rfl
      rw [hc]
      obtain ⟨w, z⟩ := I.cell _ _ hc
      exact ⟨rfl, z.lt⟩
  have mem : ∀ {y c}, cenv.cells.lookup y = some c → (X.env.cells.lookup y = some c ∧ c < s.heap.objs.size) ∨ (s.heap.objs.size + 1 ≤ c ∧ CellAt (pushCells (s.heap.push { cls := .type "dict", data := .dict #[] }) scope.names) c none) := fun {y c} e => by
    rw [hcl] at e
    rcases cells_mem (PySem.mem_of_lookup e) with hm | ⟨_, h2, h3⟩
    · exact .inl (cm hm)
    · rw [Heap.size_push] at h2; exact .inr ⟨h2, h3⟩
  have look : ∀ {y}, scope.names.lookup y = some .free → ∃ c, cenv.cells.lookup y = some c ∧ X.env.cells.lookup y = some c := fun {y} hl => by
    have hy : (y, NameKind.free) ∈ scope.names := PySem.mem_of_lookup hl
    obtain ⟨c', e'⟩ := mem_lookup (cells_acc (names := scope.names) (n := (s.heap.push { cls := .type "dict", data := .dict #[] }).objs.size) (cloFrom_has (cells := X.env.cells) (acc := []) hy))
    rw [← hcl] at e'
    refine ⟨c', e', ?_⟩
    rw [hcl] at e'
    rcases cells_mem (PySem.mem_of_lookup e') with hm | ⟨h1, _, _⟩
    · exact (cm hm).1
    · have := ok.uniq _ h1
      rw [hl] at this; cases this
  have okB : (X.blk s H scope cenv fp).Ok := by
    refine ⟨I.ok.mod, by show cenv.scope.kind = _; rw [hsc]; exact ok.kind, by show cenv.globals = _; rw [← hcenv]; exact I.ok.glob, by show cenv.builtins = _; rw [← hcenv]; exact I.ok.blt, by show s.heap.objs.size ≤ cenv.locals; rw [hL]; exact Nat.le_refl _,
      fun y z c e1 e2 => ?_, fun y hy => ?_, fun y c z e => ?_, I.ok.hd, I.ok.frames, .inl rfl, fun b hb => ⟨?_, fun y c e z => ?_⟩, I.bs, Nat.le_trans I.ok.bsz I.sz, fun b o e hb => ?_, fun b hb z => ?_, I.stack, I.stkFree⟩
    · have e1 : cenv.cells.lookup y = some c := e1
      have e2 : cenv.cells.lookup z = some c := e2
      rw [hcl] at e1 e2
      refine cells_inj (fun p hp => ?_) (fun y z c a b => I.ok.inj y z c (cm a).1 (cm b).1) (PySem.mem_of_lookup e1) (PySem.mem_of_lookup e2)
      rw [Heap.size_push]
      exact Nat.lt_succ_of_lt (cm (y := p.1) (c := p.2) hp).2
    · show ∃ c, cenv.cells.lookup y = some c
      have key : ∀ k, cenv.kindOf y = some k → (k = .cell ∨ k = .free) → ∃ c, cenv.cells.lookup y = some c := fun k hk hk' => by
        unfold Env.kindOf at hk
        rw [hsc] at hk
        obtain ⟨k', e, r⟩ := lookup_relS hk
        have : k' = .cell ∨ k' = .free := by
          rcases r with rfl | ⟨rfl, _⟩
          · exact hk'
          · exact .inr rfl
        rcases this with rfl | rfl
        · obtain ⟨c, hm⟩ := cells_has (n := (s.heap.push { cls := .type "dict", data := .dict #[] }).objs.size) (acc := cloFrom X.env.cells scope.names []) (PySem.mem_of_lookup e)
          obtain ⟨c', e'⟩ := mem_lookup hm
          exact ⟨c', by rw [hcl]; exact e'⟩
        · obtain ⟨c, h1, _⟩ := look e
          exact ⟨c, h1⟩
      rcases hy with hy | hy
      · exact key _ hy (.inl rfl)
      · exact key _ hy (.inr rfl)
    · have z : (scope.names.lookup y == some NameKind.cell) = true := z
      have z : scope.names.lookup y = some .cell := by simpa using z
      have e : cenv.cells.lookup y = some c := e
      rw [hcl] at e
      rcases cells_mem (PySem.mem_of_lookup e) with hm | ⟨_, h2, _⟩
      · rcases cloFrom_mem hm with hm | ⟨h1, _⟩
        · cases hm
        · have q := ok.uniq _ h1
          rw [z] at q; cases q
      · rw [Heap.size_push] at h2
        exact Nat.le_of_succ_le h2
    · show b ≠ cenv.locals
      rw [hL]; exact Nat.ne_of_lt (hfp b hb).2
    · have e : cenv.cells.lookup y = some c := e
      rcases mem e with ⟨h1, _⟩ | ⟨h1, _⟩
      · exact (hfp b hb).1.2.2.2.2.1 y c h1 z
      · have h2 : s.heap.objs.size + 1 ≤ b := by rw [← z]; exact h1
        exact absurd (Nat.lt_of_lt_of_le (hfp b hb).2 (Nat.le_of_succ_le h2)) (Nat.lt_irrefl _)
    · rcases (hfp b hb).1.2.2.2.1 with z | z
      · exact I.ok.noex b o e z
      · exact absurd (Nat.lt_of_lt_of_le (Heap.lt_size e) (Nat.le_trans I.ok.bsz z)) (Nat.lt_irrefl _)
    · rcases List.mem_cons.mp (I.stkSub b z) with z | z
      · exact (hfp b hb).1.2.1 z
      · exact (hfp b hb).1.2.2.1 z
  refine ⟨okB, rfl, I.bare, Un.kept kp, ⟨fun _ => none, ?_, fun i y av e1 e2 e3 => ?_⟩, fun y c e => ?_, ?_, fun y c e => ?_, fun p hp => ?_, I.hok.kept kp, by rw [wipe_length]; exact I.len⟩
  · show Heap.Ns _ cenv.locals _
    rw [hL]
    exact Heap.Ns.keeps (Heap.Ns.new ..) fun b o e => pushCells_keeps _ _ _ _ e
  · obtain ⟨e2, hne⟩ := wipe_some e2
    have hfr : scope.names.lookup y = some .free ∧ (cenv.kindOf y = some .cell ∨ cenv.kindOf y = some .free) := by
      have key : ∀ k, cenv.scope.names.lookup y = some k → k = .local ∨ k = .cell ∨ k = .free → scope.names.lookup y = some .free ∧ (cenv.kindOf y = some .cell ∨ cenv.kindOf y = some .free) := fun k hk hk' => by
        have hk0 := hk
        rw [hsc] at hk
        obtain ⟨k', e, r⟩ := lookup_relS hk
        have no : ¬ (k' = .local ∨ k' = .cell) := fun hh => by
          rcases ok.own _ (PySem.mem_of_lookup e) hh with e' | e'
          · obtain ⟨p, hp, hpy⟩ := List.mem_map.mp e'
            have e3 := ok.ix p hp
            have : p.1 = y := hpy
            rw [this] at e3
            exact hne (List.mem_map.mpr ⟨p, hp, nodup_ix hN e3 e1⟩)
          · exact e' (List.mem_of_getElem? e1)
        rcases r with rfl | ⟨rfl, rfl⟩
        · rcases hk' with rfl | rfl | rfl
          · exact absurd (.inl rfl) no
          · exact absurd (.inr rfl) no
          · exact ⟨e, .inr hk0⟩
        · exact ⟨e, .inl hk0⟩
      have e3 : Vis cenv.scope y := e3
      rcases e3 with e3 | e3 | e3
      · exact key _ e3 (.inl rfl)
      · exact key _ e3 (.inr (.inl rfl))
      · exact key _ e3 (.inr (.inr rfl))
    obtain ⟨m, hn, hl⟩ := I.loc
    have hvis : Vis X.env.scope y := (ok.free _ (PySem.mem_of_lookup hfr.1) rfl).elim (fun k => .inr (.inl k)) (fun k => .inr (.inr k))
    obtain ⟨w, r, q⟩ := hl i y av e1 e2 hvis
    refine ⟨w, r, .inr ⟨hfr.2, ?_⟩⟩
    obtain ⟨c, h1, h2⟩ := look hfr.1
    rcases q with ⟨k, _⟩ | ⟨_, c', e', z⟩
    · have k : X.env.scope.names.lookup y = some .local := k
      rcases ok.free _ (PySem.mem_of_lookup hfr.1) rfl with k' | k' <;> rw [show X.env.scope.names.lookup y = _ from k'] at k <;> cases k
    · rw [h2] at e'; cases e'
      exact ⟨c, h1, z.keeps kp⟩
  · have e : cenv.cells.lookup y = some c := e
    rcases mem e with ⟨h1, _⟩ | ⟨_, z⟩
    · obtain ⟨w, z⟩ := I.cell y c h1
      exact ⟨w, z.keeps kp⟩
    · exact ⟨_, z⟩
  · show H cenv.locals = none
    rw [hL]; exact I.hok.fresh (Nat.le_refl _)
  · have e : cenv.cells.lookup y = some c := e
    rcases mem e with ⟨h1, _⟩ | ⟨h1, _⟩
    · exact I.freeC y c h1
    · exact I.hok.fresh (Nat.le_of_succ_le h1)
  · exact absurd (show p ∈ ([] : List (Addr × Obj)) ++ [] from hp) (by simp)
theorem app_ok {E : Value → Shared → Prop} {D : Addr} {xs : List V} {y : V} {v : Value} {Q : Value → Shared → Prop} (I : Inv X pins σ H s) (hD : H D = some (.lst xs)) (hz : xs.length < sizeLine) (r : RelV y v)
    (h : ∀ s', Inv X pins σ (upd H D (.lst (xs ++ [y]))) s' → Q .none s') : wpAny (model X.prog X.w) X.A (call (.builtin "list.append") [.ref D, v]) Q E s := by
  obtain ⟨hz', its, n, ri, e⟩ := I.hok D _ hD
  have hl := ri.length
  refine append_at (hsz := by rw [List.size_toArray]; omega) e fun h' sb ho' => ?_
  refine h { s with heap := h' } (I.write (t' := s.toks) (by rw [hD]; trivial) (.inl rfl) (fun b u hb q => (sb.2 b hb).trans q) ⟨_, ho'⟩ ⟨by rw [List.length_append]; exact hz, its ++ [v], n + 1, ri.append (.cons r .nil), ?_⟩)
  rw [ho']
  simp
def PTs (X : Cx) (ifs : List Expr) (t : TT) : Prop :=
  ∀ (pins : List (Addr × Obj)) (s : Shared) (σ : St) (H : Hp) (Q : Bool → Hp → Prop), Inv X pins σ H s → t σ H Q →
    wpAny (model X.prog X.w) X.A (forIn ifs true fun c r => if r = true then do let ok ← isTrue c X.env (eval c X.env); pure (ForInStep.yield ok) else pure (ForInStep.yield r)) (TP X pins σ Q) X.xe s
def tYes : TT := fun _ H Q => Q true H
theorem pts_nil : PTs X [] tYes := fun _ _ _ H _ I h => wpAny_tests_nil ⟨H, I, h⟩
theorem pts_one {c : Expr} {t : TT} (h : PT X c t) : PTs X [c] t := fun pins s σ H Q I hw => wpAny_tests_one (h pins s σ H Q I hw)
end
theorem thnF {α : Type} {t : Sem α} {Q Q' : α → Shared → Prop} {M : Model} {A : Around} {E : Value → Shared → Prop} {s : Shared} (h : wpAny M A t Q (fun _ _ => False) s) (hQ : ∀ a s, Q a s → Q' a s) : wpAny M A t Q' E s := wpAny_mono h hQ fun _ _ z => False.elim z
theorem compLoop_any {prog : Program} {w : World} {A : Around} {R : Result → Shared → Prop} {s : Shared} {elt target iter : Expr} {ifs : List Expr} {scope : Scope} {pos : Pos} {it acc : Value} {env : Env} (I : Nat → Shared → Prop)
    (turn : ∀ n s, I n s → wpAny (model prog w) A (pyNext it) (fun r s₁ => match r with
      | none => R (.ok .next) s₁
      | some v => wpAny (model prog w) A (letOwnedTupleGo target it v) (fun _ s₁' => wpAny (model prog w) A (assign target env v) (fun _ s₂ =>
          wpAny (model prog w) A (forIn ifs true fun c r => if r = true then do let ok ← isTrue c env (eval c env); pure (ForInStep.yield ok) else pure (ForInStep.yield r)) (fun ok s₃ =>
            if ok = true then wpAny (model prog w) A (eval elt env) (fun x s₄ =>
              wpAny (model prog w) A (call (.builtin "list.append") [acc, x]) (fun _ s₅ => ∃ m, m < n ∧ I m s₅) (notedBy (model prog w) A env fun e s' => R (.error e) s') s₄) (notedBy (model prog w) A env fun e s' => R (.error e) s') s₃
            else ∃ m, m < n ∧ I m s₃) (notedBy (model prog w) A env fun e s' => R (.error e) s') s₂) (notedBy (model prog w) A env fun e s' => R (.error e) s') s₁') (notedBy (model prog w) A env fun e s' => R (.error e) s') s₁) (notedBy (model prog w) A env fun e s' => R (.error e) s') s)
    (n : Nat) (h : I n s) :
    codeAny (model prog w) A (.compLoop (.ListComp elt [⟨target, iter, ifs, 0⟩] scope pos) 0 it acc env) R s := by
  refine codeAny_loop rfl I (fun n s hI => ?_) n h
  show wpAny _ A ((compTurn (.ListComp elt [⟨target, iter, ifs, 0⟩] scope pos) 0 it acc env).onRaise (fun x => do noteFrame x env; theTreesLotGoes x)) _ _ s
  refine wpAny_noted ?_
  rw [compTurn_list]
  refine wpAny_bind (wpAny_standAt (wpAny_bind (wpAny_mono (turn n s hI) (fun r s₁ h₁ => ?_) fun _ _ h' => h')))
  cases r with
  | none => exact wpAny_pure h₁
  | some v =>
    refine wpAny_bind (wpAny_mono h₁ (fun _ s₁' h₁' => ?_) fun _ _ h' => h')
    refine wpAny_bind (wpAny_mono h₁' (fun _ s₂ h₂ => wpAny_bind (wpAny_mono h₂ (fun ok s₃ h₃ => ?_) fun _ _ h' => h')) fun _ _ h' => h')
    cases ok with
    | false => exact wpAny_pure ⟨rfl, h₃⟩
    | true =>
      exact wpAny_bind (wpAny_bind (wpAny_mono h₃ (fun x s₄ h₄ => wpAny_bind (wpAny_mono h₄ (fun _ s₅ h₅ => wpAny_pure (wpAny_pure ⟨rfl, h₅⟩)) fun _ _ h' => h')) fun _ _ h' => h'))
section
variable {X : Cx}
def tLc (wi : TI) (g : TG) (tt : TT) (te : TE) (vs : List Nat) : TE := fun σ H Q => wi σ H fun J H1 => ∀ D, H1 D = none → ∃ W : Nat → Nat → Hp → Prop, (∃ m, W 0 m (upd H1 D (.lst []))) ∧ ∀ i m H, W i m H →
  (J.stop i H ∧ Q (.ref D) H) ∨ (J.go i H ∧ ∃ Nx : Hp → Prop, (∀ H', Nx H' → ∃ m', m' < m ∧ W (i + 1) m' H') ∧ ∀ x H', J.yld i H x H' → g x (wipe σ vs) H' fun σ2 H2 => wipe σ2 vs = wipe σ vs ∧ tt σ2 H2 fun b H3 =>
    if b = true then te σ2 H3 fun y H4 => ∃ acc, H4 D = some (.lst acc) ∧ acc.length < sizeLine ∧ Nx (upd H4 D (.lst (acc ++ [y]))) else Nx H3)
theorem lc_core {pins : List (Addr × Obj)} {s : Shared} {σ : St} {H : Hp} {Q : VK} {elt tg iter : Expr} {ifs : List Expr} {scope : Scope} {own : List (Str × Nat)} {pos pos' : Pos} {wi : TI} {g : TG} {tt : TT} {te : TE} {use : Option (Value → Sem Unit)} {Qf : Value → Shared → Prop}
    (hc : X.calm = true) (hN : X.N.Nodup) (I : Inv X pins σ H s) (hi : PI X tg iter wi) (ok : BlkOk X.N X.env.scope scope own)
    (hg : ∀ (s : Shared) (H : Hp) (C : Addr) (cl : List (Str × Addr)) (fp : List Addr), PG (X.blk s H scope (compEnvC scope cl C X.env) fp) tg g) (ht : ∀ (s : Shared) (H : Hp) (C : Addr) (cl : List (Str × Addr)) (fp : List Addr), PTs (X.blk s H scope (compEnvC scope cl C X.env) fp) ifs tt)
    (he : ∀ (s : Shared) (H : Hp) (C : Addr) (cl : List (Str × Addr)) (fp : List Addr), PE (X.blk s H scope (compEnvC scope cl C X.env) fp) elt te) (hs : ∀ x, foldedSetIterable iter X.env x = pure x)
    (h : tLc wi g tt te (own.map (·.2)) σ H Q)
    (hRR : ∀ D C s' m H', Inv X pins σ H' s' → Q (.ref D) H' → s'.heap.Ns C m → FpOk X pins H' C → compPost (model X.prog X.w) X.A X.xe use Qf (.ref D) C (.ok .next) s') :
    wpAny (model X.prog X.w) X.A (comprehension (.ListComp elt [⟨tg, iter, ifs, 0⟩] scope pos) scope X.env pos' (newList []) false (eval iter X.env) use) Qf X.xe s := by
  have hfree : ∀ y ∈ scope.names, y.2 = .free → ∃ c, X.env.cells.lookup y.1 = some c := fun y hy e => by
    rcases ok.free y hy e with k | k
    · exact I.ok.has _ (.inl k)
    · exact I.ok.has _ (.inr k)
  refine wpAny_comprehension_free (use := use) rfl hs (closure_ok hfree) ok.kind (fun y hy e => by rw [ok.uniq y hy, e])
    (thn (hi pins s σ H _ I h) fun xv s1 hx => thn hx fun itv s2 h2 => ?_)
  obtain ⟨it, fp, tn, J, H2, e, I2, T, st2, f2, q⟩ := h2
  subst e
  refine wpAny_newObj_type (newEnv_comp ?_) (by show 0 ≤ sizeLine; decide)
  generalize hD : s2.heap.objs.size = D
  have hDn : H2 D = none := I2.hok.fresh (Nat.le_of_eq hD)
  obtain ⟨W, ⟨m0, w0⟩, turn⟩ := q D hDn
  -- the new list
  generalize hs3 : ({ s2 with heap := s2.heap.push { cls := .type "list", data := .seq ([] : List Value).toArray } } : Shared) = s3
  have I3 : Inv X pins σ (upd H2 D (.lst [])) s3 := by
    rw [← hs3]
    refine I2.laid (t' := s2.toks) (fun b o e => Heap.get?_push_of_some _ e) (Nat.le_of_eq hD) ⟨Nat.zero_le _, [], 0, .nil, ?_⟩
    rw [← hD]
    exact Heap.get?_push_size _ rfl
  have h3 : s3.heap = s2.heap.push { cls := .type "list", data := .seq ([] : List Value).toArray } := by rw [← hs3]
  have sz : ∀ b ∈ fp, b < s2.heap.objs.size := fun b hb => by
    obtain ⟨o, e, _⟩ := T.obj _ _ st2 b hb
    exact Heap.lt_size e
  have f3 : ∀ b ∈ fp, FpOk X pins (upd H2 D (.lst [])) b ∧ b < s3.heap.objs.size := fun b hb => by
    have hlt := sz b hb
    refine ⟨⟨?_, (f2 b hb).2⟩, by rw [h3, Heap.size_push]; exact Nat.lt_succ_of_lt hlt⟩
    rw [upd_ne (by rw [← hD]; exact Nat.ne_of_lt hlt)]
    exact (f2 b hb).1
  have st3 : tn 0 s3.heap := T.keep _ _ _ st2 fun b _ o e => by rw [h3]; exact Heap.get?_push_of_some _ e
  have I4 := block_start I3 ok hN f3
  have pg := hg s3 (upd H2 D (.lst [])) s3.heap.objs.size (cellsFrom (s3.heap.objs.size + 1) scope.names (cloFrom X.env.cells scope.names [])) fp
  have pt := ht s3 (upd H2 D (.lst [])) s3.heap.objs.size (cellsFrom (s3.heap.objs.size + 1) scope.names (cloFrom X.env.cells scope.names [])) fp
  have pe := he s3 (upd H2 D (.lst [])) s3.heap.objs.size (cellsFrom (s3.heap.objs.size + 1) scope.names (cloFrom X.env.cells scope.names [])) fp
  show codeAny _ _ (.compStart (.ListComp elt [⟨tg, iter, ifs, 0⟩] scope pos) 0 (.ref it) (.ref D) (compEnvC scope (cellsFrom (s3.heap.objs.size + 1) scope.names (cloFrom X.env.cells scope.names [])) s3.heap.objs.size X.env)) (compPost (model X.prog X.w) X.A X.xe use Qf (.ref D) s3.heap.objs.size) { s3 with heap := pushCells (s3.heap.push { cls := .type "dict", data := .dict #[] }) scope.names }
  have nfp : ∀ b ∈ fp, (upd H2 D (.lst [])) b = none := fun b hb => (f3 b hb).1.1
  generalize hce : compEnvC scope (cellsFrom (s3.heap.objs.size + 1) scope.names (cloFrom X.env.cells scope.names [])) s3.heap.objs.size X.env = ce at I4 pg pt pe ⊢
  have cL : ce.locals = s3.heap.objs.size := by subst hce; rfl
  generalize hH3 : upd H2 D (.lst []) = H3 at I3 I4 pg pt pe w0 nfp f3
  generalize hs4 : ({ s3 with heap := pushCells (s3.heap.push { cls := .type "dict", data := .dict #[] }) scope.names } : Shared) = s4 at I4 ⊢
  have st4 : tn 0 s4.heap := T.keep _ _ _ st3 fun b _ o e => by rw [← hs4]; exact pushCells_keeps _ _ _ _ (Heap.get?_push_of_some _ e)
  have stat : ∀ {σ' : St} {H' : Hp} {s' : Shared}, Inv (X.blk s3 H3 scope ce fp) [] σ' H' s' → (∀ b ∈ fp, H' b = none) → ∀ b ∈ fp, FpOk (X.blk s3 H3 scope ce fp) [] H' b := fun {σ' H' s'} I' hn b hb =>
    ⟨hn b hb, (I'.ok.exf b hb).1, I'.ok.exfs b hb, .inl hb, fun x c e => (I'.ok.exf b hb).2 x c e, fun p hp => absurd (show p ∈ ([] : List (Addr × Obj)) ++ [] from hp) (by simp)⟩
  have loop : codeAny (model X.prog X.w) X.A (.compLoop (.ListComp elt [⟨tg, iter, ifs, 0⟩] scope pos) 0 (.ref it) (.ref D) ce) (compPost (model X.prog X.w) X.A X.xe use Qf (.ref D) s3.heap.objs.size) s4 := by
    refine compLoop_any (fun n s' => ∃ i H', Inv (X.blk s3 H3 scope ce fp) [] (wipe σ (own.map (·.2))) H' s' ∧ tn i s'.heap ∧ (∀ b ∈ fp, H' b = none) ∧ W i n H') ?_ m0 ⟨0, H3, I4, st4, nfp, w0⟩
    rintro n s5 ⟨i, H5, I5, st5, n5, w5⟩
    rcases turn i n H5 w5 with ⟨stop, qq⟩ | ⟨go, Nx, hNx, step⟩
    · have td := T.done (X.blk s3 H3 scope ce fp) rfl rfl rfl hc i [] s5 _ H5 (fun _ _ => False) I5 (stat I5 n5) st5 stop
      refine thnF td fun r s6 ⟨hr, I6⟩ => ?_
      subst hr
      -- back in the def's context
      have I7 : Inv X pins σ H5 s6 := I3.call' (ch := fp) I6.os I6.base I6.hok I6.bare fun b hb => ⟨(f3 b hb).1.2.2.2.1, (f3 b hb).1.2.1, (f3 b hb).1.2.2.2.2.1, (f3 b hb).1.2.2.2.2.2⟩
      have nC : H5 s3.heap.objs.size = none := by
        have z : H5 ce.locals = none := I6.free
        rw [cL] at z
        exact z
      obtain ⟨m, hn, _⟩ := I6.loc
      have hn : s6.heap.Ns ce.locals m := hn
      rw [cL] at hn
      exact hRR D s3.heap.objs.size s6 m H5 I7 qq hn (I3.fpOk (Nat.le_refl _) nC)
    · have ti := T.item (X.blk s3 H3 scope ce fp) rfl rfl rfl hc i [] s5 _ H5 (fun _ _ => False) I5 (stat I5 n5) st5 go
      refine thnF ti fun r s6 ⟨u, hr, h6⟩ => ?_
      subst hr
      refine thnF h6 fun _ s7 ⟨x, H7, I7, r7, y7, st7, n7⟩ => ?_
      have I7' := I7.pinned (stat I7 n7) (T.obj _ _ st7)
      refine thnF (pg _ s7 _ H7 x u _ I7' r7 (step x H7 y7)) fun _ s8 ⟨σ8, H8, I8, hw8, q8⟩ => ?_
      refine thnF (pt _ s8 σ8 H8 _ I8 q8) fun b s9 ⟨H9, I9, q9⟩ => ?_
      -- the turn's end
      have fin : ∀ {s' : Shared} {H' : Hp}, Inv (X.blk s3 H3 scope ce fp) ([] ++ pinsAt fp s7.heap) σ8 H' s' → Nx H' → ∃ m, m < n ∧ ∃ i H', Inv (X.blk s3 H3 scope ce fp) [] (wipe σ (own.map (·.2))) H' s' ∧ tn i s'.heap ∧ (∀ b ∈ fp, H' b = none) ∧ W i m H' := fun {s' H'} I' nx => by
        obtain ⟨m', hm, w'⟩ := hNx H' nx
        have pin' : ∀ b ∈ fp, ∀ o, s7.heap.get? b = some o → s'.heap.get? b = some o ∧ H' b = none := fun b hb o e =>
          let z := I'.pin (b, o) (List.mem_append_right _ (List.mem_append_right _ (mem_pinsAt hb e)))
          ⟨z.1, z.2.1⟩
        have hl : (wipe σ (own.map (·.2))).length = σ8.length := by rw [← hw8, wipe_length]
        refine ⟨m', hm, i + 1, H', (I'.unpinned (pins := [])).weak hl (fun j v e => ?_), T.keep _ _ _ st7 fun b hb o e => (pin' b hb o e).1, fun b hb => ?_, w'⟩
        · rw [← hw8] at e
          exact (wipe_some e).1
        · obtain ⟨o, e, _⟩ := T.obj _ _ st7 b hb
          exact (pin' b hb o e).2
      cases b with
      | false =>
        simp only [Bool.false_eq_true, if_false] at q9 ⊢
        exact fin I9 q9
      | true =>
        simp only [if_true] at q9 ⊢
        refine thnF (pe _ s9 σ8 H9 _ I9 q9) fun z s10 ⟨yv, H10, I10, r10, acc, hD10, hz10, nx⟩ => ?_
        exact app_ok (X := X.blk s3 H3 scope ce fp) I10 hD10 hz10 r10 fun s11 I11 => fin I11 nx
  exact codeAny_compStart_list loop (T.self X.A 0 _ _ _ st4 loop)
theorem pe_lc {elt tg iter : Expr} {ifs : List Expr} {scope : Scope} {own : List (Str × Nat)} {pos : Pos} {wi : TI} {g : TG} {tt : TT} {te : TE} (hc : X.calm = true) (hN : X.N.Nodup) (hi : PI X tg iter wi) (ok : BlkOk X.N X.env.scope scope own)
    (hg : ∀ (s : Shared) (H : Hp) (C : Addr) (cl : List (Str × Addr)) (fp : List Addr), PG (X.blk s H scope (compEnvC scope cl C X.env) fp) tg g) (ht : ∀ (s : Shared) (H : Hp) (C : Addr) (cl : List (Str × Addr)) (fp : List Addr), PTs (X.blk s H scope (compEnvC scope cl C X.env) fp) ifs tt)
    (he : ∀ (s : Shared) (H : Hp) (C : Addr) (cl : List (Str × Addr)) (fp : List Addr), PE (X.blk s H scope (compEnvC scope cl C X.env) fp) elt te) (hs : ∀ x, foldedSetIterable iter X.env x = pure x := by intro _; rfl) :
    PE X (.ListComp elt [⟨tg, iter, ifs, 0⟩] scope pos) (tLc wi g tt te (own.map (·.2))) := by
  intro pins s σ H Q I h
  rw [eval_ListComp]
  refine lc_core hc hN I hi ok hg ht he hs h fun D C s' m H' I' q hn f => ⟨m, hn, fun h'' sb => ?_⟩
  obtain ⟨f0, f1, f2, f3, f4, f5⟩ := f
  exact ⟨.ref D, H', I'.turned (t' := s'.toks) (fun b o hb e => (sb.2 b hb).trans e) f0 f1 f3 f4 f5, rfl, q⟩
theorem ps_setLc {i : Nat} {y : Str} {py : Pos} {elt tg iter : Expr} {ifs : List Expr} {scope : Scope} {own : List (Str × Nat)} {pos spos : Pos} {wi : TI} {g : TG} {tt : TT} {te : TE} (hc : X.calm = true) (hN : X.N.Nodup) (hy : X.N[i]? = some y) (hyl : X.env.scope.names.lookup y = some .local)
    (hsw : swapsWith (.ListComp elt [⟨tg, iter, ifs, 0⟩] scope pos) (some (.Name y py)) spos.line X.env = pure true) (hi : PI X tg iter wi) (ok : BlkOk X.N X.env.scope scope own)
    (hg : ∀ (s : Shared) (H : Hp) (C : Addr) (cl : List (Str × Addr)) (fp : List Addr), PG (X.blk s H scope (compEnvC scope cl C X.env) fp) tg g) (ht : ∀ (s : Shared) (H : Hp) (C : Addr) (cl : List (Str × Addr)) (fp : List Addr), PTs (X.blk s H scope (compEnvC scope cl C X.env) fp) ifs tt)
    (he : ∀ (s : Shared) (H : Hp) (C : Addr) (cl : List (Str × Addr)) (fp : List Addr), PE (X.blk s H scope (compEnvC scope cl C X.env) fp) elt te) (hs : ∀ x, foldedSetIterable iter X.env x = pure x := by intro _; rfl) :
    PS X (.Assign [.Name y py] (.ListComp elt [⟨tg, iter, ifs, 0⟩] scope pos) spos) (tAsg (tLc wi g tt te (own.map (·.2))) (gName i)) := by
  intro pins s σ H D I h
  rw [exec_Assign_Name_used _ _ _ _ hsw]
  refine wpAny_bind (wpAny_standAt (wpAny_bind ?_))
  show wpAny _ X.A (do let _ ← comprehension (.ListComp elt [⟨tg, iter, ifs, 0⟩] scope pos) scope X.env (firstIterPos [⟨tg, iter, ifs, 0⟩] pos) (newList []) false (eval iter X.env) (some (assign (.Name y py) X.env))) _ _ s
  have h : tLc wi g tt te (own.map (·.2)) σ H (fun x H1 => gName i x σ H1 D.nx) := h
  refine wpAny_bind (thn (lc_core (Qf := fun _ s' => SP X pins D .next s') hc hN I hi ok hg ht he hs h fun L C s' m H' I' q hn f => ?_) fun _ s' hq => wpAny_pure (wpAny_pure hq))
  show wpAny _ _ (assign (.Name y py) X.env (.ref L)) _ _ _
  refine wpAny_assign_Name (store_ok2 (v := V.ref L) I' hN hy (.inl hyl) rfl (fun s2 I2 ⟨a, sb, ha⟩ => ?_) (.inr hyl))
  obtain ⟨f0, f1, f2, f3, f4, f5⟩ := f
  have haC : C ≠ a := by
    rcases ha with z | z
    · rw [z]; exact f1
    · exact fun e => f4 y a z e.symm
  refine ⟨m, hn.sameBut sb haC, fun h3 sb3 => ?_⟩
  exact ⟨_, H', I2.turned (t' := s2.toks) (fun b o hb e => (sb3.2 b hb).trans e) f0 f1 f3 f4 f5, q⟩
theorem sw_true {elt : Expr} {gs : List Comprehension} {scope : Scope} {pos py : Pos} {y : Str} {l : Nat} {env : Env} (hk : env.scope.kind = .function) (hy : env.scope.names.lookup y = some .local) (hl : (py.line == pos.line) = true)
    (ha : (scope.names.any fun (n, k) => n == y && (k == .local || k == .cell)) = false) : swapsWith (.ListComp elt gs scope pos) (some (.Name y py)) l env = pure true := by
  have ky : env.kindOf y = some .local := hy
  have hb : env.blockKind = .function := by unfold Env.blockKind; rw [hk]; rfl
  unfold swapsWith
  simp only [hb, ky, ha, Expr.pos, hl]
  rfl
end
def blkC (N : List Str) (sc scope : Scope) (own : List (Str × Nat)) : Bool :=
  (match scope.kind with | .function => true | _ => false) && (scope.names.all fun y => decide (scope.names.lookup y.1 = some y.2)) && (own.all fun p => decide (N[p.2]? = some p.1)) &&
    (scope.names.all fun y => match y.2 with
      | .free => (match sc.names.lookup y.1 with | some .cell => true | some .free => true | _ => false)
      | .local => decide (y.1 ∈ own.map (·.1)) || decide (y.1 ∉ N)
      | .cell => decide (y.1 ∈ own.map (·.1)) || decide (y.1 ∉ N)
      | _ => true)
theorem blkOk_by {N : List Str} {sc scope : Scope} {own : List (Str × Nat)} (h : blkC N sc scope own = true) : BlkOk N sc scope own := by
  unfold blkC at h
  simp only [Bool.and_eq_true, List.all_eq_true, decide_eq_true_eq] at h
  obtain ⟨⟨⟨h1, h2⟩, h3⟩, h4⟩ := h
  refine ⟨?_, h2, h3, fun y hy e => ?_, fun y hy e => ?_⟩
  · split at h1
    · assumption
    · cases h1
  · have q := h4 y hy
    simp only [e] at q
    split at q <;> first | exact .inl (by assumption) | exact .inr (by assumption) | cases q
  · have q := h4 y hy
    rcases e with e | e <;> (simp only [e, Bool.or_eq_true, decide_eq_true_eq] at q; exact q)
end L2
namespace L2
open PySem PySem.Spec PyProof.Rows
section
variable {prog : Program} {w : World} {A : Around} {R : Result → Shared → Prop} {s : Shared} {elt t0 i0 t1 i1 : Expr} {ifs0 ifs1 : List Expr} {scope : Scope} {pos : Pos} {it acc : Value} {env : Env}
end
section
variable {X : Cx}
end
end L2
namespace L2
open PySem PySem.Spec PyProof.Rows
section
variable {κ : Type} [DecidableEq κ]
def valV (kvs : List (κ × V)) (k : κ) : Option V := (kvs.find? fun kv => decide (kv.1 = k)).map (·.2)
def putK (kvs : List (κ × V)) (k : κ) (v : V) : List (κ × V) :=
  if (kvs.any fun kv => decide (kv.1 = k)) = true then kvs.map (fun kv => if kv.1 = k then (kv.1, v) else kv) else kvs ++ [(k, v)]
def dropK (kvs : List (κ × V)) (k : κ) : List (κ × V) := kvs.filter fun kv => decide (kv.1 ≠ k)
theorem RelO.getD {o : Option V} {u : Option Value} {d : V} {d' : Value} (r : RelO o u) (rd : RelV d d') : RelV (o.getD d) (u.getD d') := by
  cases o with
  | none => cases u with
    | none => exact rd
    | some _ => exact (show False from r).elim
  | some _ => cases u with
    | none => exact (show False from r).elim
    | some _ => exact r
theorem KV.any {kvs : List (κ × V)} {vs : List (κ × Value)} (r : KV kvs vs) (k : κ) : (kvs.any fun kv => decide (kv.1 = k)) = vs.any fun kv => decide (kv.1 = k) := by
  unfold KV at r
  induction r with
  | nil => rfl
  | cons h t ih => rw [List.any_cons, List.any_cons, ih, h.1]
theorem KV.drop {kvs : List (κ × V)} {vs : List (κ × Value)} (r : KV kvs vs) (k : κ) : KV (dropK kvs k) (without vs k) := by
  unfold KV at r ⊢
  unfold dropK without
  induction r with
  | nil => exact .nil
  | @cons p q ps qs h t ih =>
    obtain ⟨h1, h2⟩ := h
    rw [List.filter_cons, List.filter_cons]
    by_cases e : p.1 = k
    · have a : ¬ decide (p.1 ≠ k) = true := by simp [e]
      have b : ¬ decide (q.1 ≠ k) = true := by simp [h1.symm.trans e]
      rw [if_neg a, if_neg b]; exact ih
    · have e' : ¬ q.1 = k := fun z => e (h1.trans z)
      have a : decide (p.1 ≠ k) = true := by simp [e]
      have b : decide (q.1 ≠ k) = true := by simp [e']
      rw [if_pos a, if_pos b]; exact .cons ⟨h1, h2⟩ ih
theorem KV.keys {kvs : List (κ × V)} {vs : List (κ × Value)} (r : KV kvs vs) : kvs.map (·.1) = vs.map (·.1) := by
  unfold KV at r
  induction r with
  | nil => rfl
  | cons h t ih => rw [List.map_cons, List.map_cons, ih, h.1]
theorem KV.length {kvs : List (κ × V)} {vs : List (κ × Value)} (r : KV kvs vs) : kvs.length = vs.length := Paired.length r
end
abbrev KT (H : Hp) : List (List Key × V) → List (List Key × Addr × Value) → Prop := Paired fun p q => p.1 = q.1 ∧ H q.2.1 = some (.tup (p.1.map kV)) ∧ RelV p.2 q.2.2
theorem KT.keeps {H H' : Hp} {kvs : List (List Key × V)} {xs : List (List Key × Addr × Value)} (r : KT H kvs xs) (ht : ∀ b ys, H b = some (.tup ys) → H' b = some (.tup ys)) : KT H' kvs xs :=
  Paired.mapP r fun _ _ z => ⟨z.1, ht _ _ z.2.1, z.2.2⟩
section
variable {P : Program} {w : World} {H : Hp} {h : Heap} {a : Addr}
end
def DGet (H : Hp) (a : Addr) (y : V) (r : Option V) : Prop :=
  (∃ kvs k, Rd H a (.dK kvs) ∧ y = kV k ∧ r = valV kvs k) ∨ ∃ kvs k b, Rd H a (.dT kvs) ∧ y = .ref b ∧ H b = some (.tup (k.map kV)) ∧ r = valV kvs k
def DPut (H : Hp) (a : Addr) (y v : V) (H' : Hp) : Prop :=
  (∃ kvs k, H a = some (.dK kvs) ∧ y = kV k ∧ kvs.length < sizeLine ∧ H' = upd H a (.dK (putK kvs k v))) ∨
  ∃ kvs k b, H a = some (.dT kvs) ∧ y = .ref b ∧ H b = some (.tup (k.map kV)) ∧ kvs.length < sizeLine ∧ H' = upd H a (.dT (putK kvs k v))
theorem DGet.k {H : Hp} {a : Addr} {kvs : List (Key × V)} {k : Key} (e : H a = some (.dK kvs)) : DGet H a (kV k) (valV kvs k) := .inl ⟨kvs, k, .inl e, rfl, rfl⟩
theorem DGet.t {H : Hp} {a b : Addr} {kvs : List (List Key × V)} {k : List Key} (e : H a = some (.dT kvs)) (eb : H b = some (.tup (k.map kV))) : DGet H a (.ref b) (valV kvs k) := .inr ⟨kvs, k, b, .inl e, rfl, eb, rfl⟩
theorem DPut.k {H : Hp} {a : Addr} {kvs : List (Key × V)} {k : Key} {v : V} (e : H a = some (.dK kvs)) (hl : kvs.length < sizeLine) : DPut H a (kV k) v (upd H a (.dK (putK kvs k v))) := .inl ⟨kvs, k, e, rfl, hl, rfl⟩
theorem DPut.t {H : Hp} {a b : Addr} {kvs : List (List Key × V)} {k : List Key} {v : V} (e : H a = some (.dT kvs)) (eb : H b = some (.tup (k.map kV))) (hl : kvs.length < sizeLine) :
    DPut H a (.ref b) v (upd H a (.dT (putK kvs k v))) := .inr ⟨kvs, k, b, e, rfl, eb, hl, rfl⟩
section
variable {X : Cx} {pins : List (Addr × Obj)} {σ : St} {H : Hp} {s : Shared} {a : Addr} {y v : V} {u r : Value} {o : Option V} {A : Around} {E : Value → Shared → Prop}
end
section
variable {X : Cx} {pins : List (Addr × Obj)} {σ : St} {H : Hp} {s : Shared} {a : Addr} {kvs : List (Key × V)} {k : Key} {u : Value} {A : Around} {E : Value → Shared → Prop}
end
section
variable {X : Cx} {o i e value : Expr} {pos pos' tpos : Pos} {td ty tv : TE}
end
section
variable {X : Cx} {pos : Pos}
end
section
variable {X : Cx} {pins : List (Addr × Obj)} {σ : St} {H : Hp} {s : Shared} {a : Addr} {y d : V} {u r : Value} {o : Option V} {A : Around} {E : Value → Shared → Prop}
end
section
variable {X : Cx} {o e f : Expr} {apos cpos : Pos} {td ty tx : TE}
end
section
variable {X : Cx} {pins : List (Addr × Obj)} {σ : St} {H : Hp} {s : Shared} {a : Addr} {kvs : List (Key × V)} {A : Around} {E : Value → Shared → Prop}
end
section
variable {X : Cx} {pins : List (Addr × Obj)} {σ : St} {H : Hp} {s : Shared} {a : Addr} {y : V} {u : Value} {A : Around} {E : Value → Shared → Prop}
end
end L2
namespace L2
open PySem PySem.Spec PyProof.Rows
section
variable {prog : Program} {w : World} {A : Around} {E : Value → Shared → Prop}
end
section
variable {X : Cx}
end
end L2
namespace L2
open PySem PySem.Spec PyProof.Rows
section
variable {X : Cx} {pins : List (Addr × Obj)} {σ : St} {H : Hp} {s : Shared} {h' : Heap}
theorem Inv.turnedL {t' : Nat} {ch : List Addr} (I : Inv X pins σ H s) (k : ∀ b o, b ∉ ch → s.heap.get? b = some o → h'.get? b = some o) (hf : ∀ b ∈ ch, FpOk X pins H b) : Inv X pins σ H { s with heap := h', toks := t' } := by
  have nit : ∀ b u, H b = some u → b ∉ ch := fun b u e z => by
    have q := (hf b z).1
    rw [q] at e; cases e
  refine I.step (g' := s.gens) (d' := s.drawn) (ch := ch) (fun b hb => ⟨(hf b hb).2.2.2.1, (hf b hb).2.1, (hf b hb).2.2.2.2.1, (hf b hb).2.2.2.2.2⟩) (fun b o _ _ hc e _ => k b o hc e) (fun b o _ _ hc e _ => ⟨o.slots, k b o hc e⟩)
    (fun _ _ _ _ n => n) (fun b o hc e => ⟨o, k b o hc e⟩) (fun _ _ e => e) (fun _ _ _ e => e) (fun b ps e => ⟨#[], by rw [e]; simp⟩) (fun m hm => ?_) (fun b u e => ?_) I.bare
  · obtain ⟨o, es, ep, ho, r⟩ := hm
    exact ⟨o, es, ep, k _ o (fun z => (hf _ z).2.1 rfl) ho, r⟩
  · refine (I.hok b u e).stay (fun c v hc q => k c v ?_ q) (fun _ q => q) fun _ _ q => q
    rcases hc with z | z
    · rw [z]; exact nit b u e
    · exact nit c _ z
theorem Inv.turnedNew {t' : Nat} {ch : List Addr} {T : Addr} {ob : HO} (I : Inv X pins σ H s) (k : ∀ b o, b ∉ ch → s.heap.get? b = some o → h'.get? b = some o) (hf : ∀ b ∈ ch, FpOk X pins H b) (hT : s.heap.objs.size ≤ T)
    (new : ObjOk X.prog X.w (upd H T ob) h' T ob) : Inv X pins σ (upd H T ob) { s with heap := h', toks := t' } := by
  have hn : H T = none := I.hok.fresh hT
  have nit : ∀ b u, H b = some u → b ∉ ch := fun b u e z => by
    have q := (hf b z).1
    rw [q] at e; cases e
  refine I.step (g' := s.gens) (d' := s.drawn) (ch := ch) (fun b hb => ⟨(hf b hb).2.2.2.1, (hf b hb).2.1, (hf b hb).2.2.2.2.1, (hf b hb).2.2.2.2.2⟩) (fun b o _ _ hc e _ => k b o hc e) (fun b o _ _ hc e _ => ⟨o.slots, k b o hc e⟩)
    (fun b o _ e n => ?_) (fun b o hc e => ⟨o, k b o hc e⟩) (fun b xs e => ?_) (fun b o u e => ?_) (fun b ps e => ⟨#[], ?_⟩) (fun m hm => ?_) (fun b u e => ?_) I.bare
  · rw [upd_ne (Nat.ne_of_lt (Nat.lt_of_lt_of_le (Heap.lt_size e) hT))]; exact n
  · rw [upd_ne (ne_of_none e hn)]; exact e
  · rw [upd_ne (ne_of_none e hn)]; exact e
  · rw [upd_ne (ne_of_none e hn), e]; simp
  · obtain ⟨o, es, ep, ho, r⟩ := hm
    exact ⟨o, es, ep, k _ o (fun z => (hf _ z).2.1 rfl) ho, r⟩
  · by_cases hb : b = T
    · subst hb
      rw [upd_same] at e
      cases e
      exact new
    · rw [upd_ne hb] at e
      refine (I.hok b u e).stay (fun c v hc q => k c v ?_ q) (fun c q => by rw [upd_ne (ne_of_none q hn)]; exact q) fun c xs q => by rw [upd_ne (ne_of_none q hn)]; exact q
      rcases hc with z | z
      · rw [z]; exact nit b u e
      · exact nit c _ z
end
section
variable {X : Cx}
end
section
variable {X : Cx} {tg : Expr}
end
section
variable {X : Cx} {tg : Expr}
end
section
variable {prog : Program} {w : World} {A : Around} {E : Value → Shared → Prop} {s : Shared}
end
section
variable {X : Cx} {pins : List (Addr × Obj)} {σ : St} {H : Hp} {s : Shared} {d : Addr} {o : Obj}
end
section
variable {P : Program} {w : World} {K : PySem.W.Frag} {tg : Expr} {d : Addr} {o : Obj} {es : Array DictEntry} {ep : Nat}
end
section
variable {X : Cx} {tg e : Expr} {td : TE} {apos cpos : Pos}
end
def Ite (K : PySem.W.Frag) (a : Addr) : It :=
  ⟨fun i H => ∃ (xs : List V) (x : V), SqL K H a xs ∧ xs[i]? = some x, fun i H v H' => ∃ T x, v = .ref T ∧ H T = none ∧ H' = upd H T (.tup [.int (i : Nat), x]) ∧ ∀ xs, SqL K H a xs → xs[i]? = some x, fun i H => ∃ xs : List V, SqL K H a xs ∧ xs.length ≤ i⟩
theorem turn_enum {P : Program} {w : World} {K : PySem.W.Frag} {elts : List Expr} {kk : Nat} {tpos : Pos} (a e it : Addr) :
    Turn P w K (.Tuple elts kk tpos) (Ite K a) [e, it] e (fun i h => (∃ old, IsEnum h e it ((i : Nat) : Int) old) ∧ h.IsListIter it a i ∧ e ≠ it) where
  mem := by simp
  obj := fun i h st b hb => by
    obtain ⟨⟨old, he⟩, ⟨o, ho, hc, hd⟩, _⟩ := st
    have e' : b = e ∨ b = it := by simpa using hb
    rcases e' with z | z
    · rw [z]; exact ⟨_, he, fun v q => nomatch q⟩
    · rw [z]; exact ⟨o, ho, fun v q => by rw [hd] at q; cases q⟩
  keep := fun i h h' st k => let ⟨⟨old, he⟩, hi, hne⟩ := st; ⟨⟨old, k e (by simp) _ he⟩, hi.at fun o q => k it (by simp) o q, hne⟩
  item := by
    intro X hP hw hK hc i pins s σ H E I hf st hg
    subst hP hw hK
    obtain ⟨⟨old, he⟩, hit, hne⟩ := st
    obtain ⟨xs, x, hq, hx⟩ := hg
    obtain ⟨its, rv, p, hz⟩ := I.list hq
    obtain ⟨u, hu, ru⟩ := rv.get hx
    have hel : e < s.heap.objs.size := Heap.lt_size he
    have hil : it < s.heap.objs.size := by obtain ⟨_, q, _⟩ := hit; exact Heap.lt_size q
    refine wpAny_pyNext_enum_item he hit p.isList (x := u) (by simpa using hu) hne fun h' ho hit' hT hsz hk => ?_
    refine ⟨_, rfl, wpAny_letOwnedTupleGo_enum (s := { s with heap := h', toks := s.toks + 1 }) ho fun h'' he' sb => ?_⟩
    have hT2 : h''.get? s.heap.objs.size = some { cls := .type "tuple", data := .seq #[.int i s.toks, u] } := (sb.2 _ (Nat.ne_of_gt hel)).trans hT
    have new : ObjOk X.prog X.w (upd H s.heap.objs.size (.tup [.int (i : Nat), x])) h'' s.heap.objs.size (.tup [.int (i : Nat), x]) :=
      ⟨by show 2 ≤ sizeLine; decide, [.int i s.toks, u], .cons ⟨_, rfl⟩ (.cons ru .nil), ⟨_, hT2, rfl, _, rfl⟩⟩
    have I1 : Inv X pins σ (upd H s.heap.objs.size (.tup [.int (i : Nat), x])) { s with heap := h'', toks := s.toks + 1 } :=
      I.turnedNew (ch := [e, it]) (fun b ob hb q => (sb.2 b (fun z => hb (by simp [z]))).trans (hk b ob (fun z => hb (by simp [z])) (fun z => hb (by simp [z])) q)) hf (Nat.le_refl _) new
    refine ⟨.ref s.heap.objs.size, _, I1, rfl, ⟨_, x, rfl, I.hok.fresh (Nat.le_refl _), rfl, fun ys hy => by rw [I.list_inj hy hq]; exact hx⟩, ⟨⟨u, ?_⟩, hit'.at fun o q => (sb.2 it (Ne.symm hne)).trans q, hne⟩, fun b hb => ?_⟩
    · have e1 : ((i + 1 : Nat) : Int) = (i : Int) + 1 := by omega
      rw [e1]; exact he'
    · have hb' : b < s.heap.objs.size := by
        have e' : b = e ∨ b = it := by simpa using hb
        rcases e' with z | z
        · rw [z]; exact hel
        · rw [z]; exact hil
      rw [upd_ne (Nat.ne_of_lt hb')]
      exact (hf b hb).1
  done := by
    intro X hP hw hK hc i pins s σ H E I hf st hg
    subst hP hw hK
    obtain ⟨⟨old, he⟩, hit, hne⟩ := st
    obtain ⟨xs, hq, hx⟩ := hg
    obtain ⟨its, rv, p, hz⟩ := I.list hq
    obtain ⟨f0, f1, f2, f3, f4, f5⟩ := hf it (by simp)
    have hl := rv.length
    exact wpAny_pyNext_enum_end (I.ok.hd hc) he hit p.isList (by simp; omega) fun h' eb => ⟨rfl, I.turned (t' := s.toks) (fun b o hb q => eb b o hb q) f0 f1 f3 f4 f5⟩
  self := fun A i s Q E st h => let ⟨⟨_, he⟩, _⟩ := st; wpAny_pyIter_enum he h
def iEnum (K : PySem.W.Frag) (ta : TA) : TI := fun σ H R => ta σ H fun vs H1 => ∃ a xs, vs = [.ref a] ∧ SqL K H1 a xs ∧ R (Ite K a) H1
theorem pi_enum {X : Cx} {e : Expr} {ta : TA} {p pos tpos : Pos} {elts : List Expr} {kk : Nat} (hg : Gl X "enumerate") (hm : X.mg "enumerate" = none) (ha : PA X [e] ta) (hs : starEach [e] X.env = [(false, eval e X.env)] := by rfl) :
    PI X (.Tuple elts kk tpos) (.Call (.Name "enumerate" p) [e] [] pos) (iEnum X.K ta) := by
  intro pins s σ H R I h
  refine Call_ (ld_blt I hg hm boot_enumerate (PyProof.Rows.callWith_type1 (thn (ha pos pins s σ H _ I h) fun us s1 ⟨vs, H1, I1, r1, q1⟩ => ?_) hs rfl))
  obtain ⟨a, xs, ex, hq, q⟩ := q1
  subst ex
  cases r1 with
  | cons r rr =>
    cases rr
    cases r
    obtain ⟨its, rv, p', hz⟩ := I1.list hq
    refine call_enumerate_list p'.isList fun h' he hit hsz hk => wpAny_pyIter_enum he ?_
    have I2 : Inv X pins σ H1 { s1 with heap := h' } := I1.kept (t' := s1.toks) hk
    refine ⟨s1.heap.objs.size + 1, [s1.heap.objs.size + 1, s1.heap.objs.size], _, _, H1, rfl, I2, turn_enum a (s1.heap.objs.size + 1) s1.heap.objs.size, ⟨⟨.none, he⟩, hit, Nat.succ_ne_self _⟩, fun b hb => ?_, q⟩
    have e' : b = s1.heap.objs.size + 1 ∨ b = s1.heap.objs.size := by simpa using hb
    have hle : s1.heap.objs.size ≤ b := by
      rcases e' with z | z
      · rw [z]; exact Nat.le_add_right _ _
      · rw [z]; exact Nat.le_refl _
    exact I1.fpOk hle (I1.hok.fresh hle)
theorem boot_zip5 : bootBuiltins "zip" = some (.type "zip") := by decide +kernel
def Itz (K : PySem.W.Frag) (a b : Addr) : It :=
  ⟨fun i H => ∃ (xs ys : List V) (x y : V), SqL K H a xs ∧ SqL K H b ys ∧ xs[i]? = some x ∧ ys[i]? = some y,
    fun i H v H' => ∃ T x y, v = .ref T ∧ H T = none ∧ H' = upd H T (.tup [x, y]) ∧ (∀ xs, SqL K H a xs → xs[i]? = some x) ∧ ∀ ys, SqL K H b ys → ys[i]? = some y,
    fun i H => ∃ xs ys : List V, SqL K H a xs ∧ SqL K H b ys ∧ (xs.length ≤ i ∨ ys.length ≤ i)⟩
theorem turn_zip {P : Program} {w : World} {K : PySem.W.Frag} {elts : List Expr} {kk : Nat} {tpos : Pos} {a b z TI TO i1 i2 : Addr} (D : ZipApart z TI TO i1 i2 a b) :
    Turn P w K (.Tuple elts kk tpos) (Itz K a b) [z, TI, TO, i1, i2] z (fun i h => IsZip h z TI TO .none ∧ IsPair h TI (.ref i1) (.ref i2) ∧ (∃ x y, IsPair h TO x y) ∧ h.IsListIter i1 a i ∧ h.IsListIter i2 b i) where
  mem := by simp
  obj := fun i h st c hc => by
    obtain ⟨hz, hTI, ⟨x, y, hTO⟩, ⟨o1, e1, _, d1⟩, ⟨o2, e2, _, d2⟩⟩ := st
    have e' : c = z ∨ c = TI ∨ c = TO ∨ c = i1 ∨ c = i2 := by simpa using hc
    rcases e' with q | q | q | q | q
    · rw [q]; exact ⟨_, hz, fun v q => nomatch q⟩
    · rw [q]; exact ⟨_, hTI, fun v q => nomatch q⟩
    · rw [q]; exact ⟨_, hTO, fun v q => nomatch q⟩
    · rw [q]; exact ⟨o1, e1, fun v q => by rw [d1] at q; cases q⟩
    · rw [q]; exact ⟨o2, e2, fun v q => by rw [d2] at q; cases q⟩
  keep := fun i h h' st k => by
    obtain ⟨hz, hTI, ⟨x, y, hTO⟩, h1, h2⟩ := st
    exact ⟨k z (by simp) _ hz, k TI (by simp) _ hTI, ⟨x, y, k TO (by simp) _ hTO⟩, h1.at fun o q => k i1 (by simp) o q, h2.at fun o q => k i2 (by simp) o q⟩
  item := by
    intro X hP hw hK hc i pins s σ H E I hf st hg
    subst hP hw hK
    obtain ⟨hz, hTI, ⟨x0, y0, hTO⟩, h1, h2⟩ := st
    obtain ⟨xs, ys, x, y, hqx, hqy, hx, hy⟩ := hg
    obtain ⟨its, rv, p, _⟩ := I.list hqx
    obtain ⟨its2, rv2, p2, _⟩ := I.list hqy
    obtain ⟨u, hu, ru⟩ := rv.get hx
    obtain ⟨u2, hu2, ru2⟩ := rv2.get hy
    have hzl : z < s.heap.objs.size := Heap.lt_size hz
    refine wpAny_pyNext_zip_item D hz hTI hTO h1 h2 p.isList p2.isList (x := u) (y := u2) (by simpa using hu) (by simpa using hu2) fun h' z' TO' h1' h2' hT hsz hk => ?_
    refine ⟨_, rfl, wpAny_letOwnedTupleGo_zip (s := { s with heap := h' }) z' fun h'' z'' sb => ?_⟩
    have hT2 : h''.get? s.heap.objs.size = some { cls := .type "tuple", data := .seq #[u, u2] } := (sb.2 _ (Nat.ne_of_gt hzl)).trans hT
    have new : ObjOk X.prog X.w (upd H s.heap.objs.size (.tup [x, y])) h'' s.heap.objs.size (.tup [x, y]) :=
      ⟨by show 2 ≤ sizeLine; decide, [u, u2], .cons ru (.cons ru2 .nil), ⟨_, hT2, rfl, _, rfl⟩⟩
    have I1 : Inv X pins σ (upd H s.heap.objs.size (.tup [x, y])) { s with heap := h'' } :=
      I.turnedNew (t' := s.toks) (ch := [z, TI, TO, i1, i2]) (fun c o hb q => (sb.2 c (fun q' => hb (by simp [q']))).trans (hk c o (fun q' => hb (by simp [q'])) (fun q' => hb (by simp [q'])) (fun q' => hb (by simp [q'])) (fun q' => hb (by simp [q'])) q)) hf (Nat.le_refl _) new
    refine ⟨.ref s.heap.objs.size, _, I1, rfl, ⟨_, x, y, rfl, I.hok.fresh (Nat.le_refl _), rfl, fun l hl => by rw [I.list_inj hl hqx]; exact hx, fun l hl => by rw [I.list_inj hl hqy]; exact hy⟩, ⟨z'', ?_, ⟨u, u2, ?_⟩, ?_, ?_⟩, fun c hcm => ?_⟩
    · exact (sb.2 _ D.TIz).trans (hk _ _ D.TIz D.TITO D.TIi1 D.TIi2 hTI)
    · exact (sb.2 _ D.TOz).trans TO'
    · exact h1'.at fun o q => (sb.2 _ D.i1z).trans q
    · exact h2'.at fun o q => (sb.2 _ D.i2z).trans q
    · have hlt : c < s.heap.objs.size := by
        have e' : c = z ∨ c = TI ∨ c = TO ∨ c = i1 ∨ c = i2 := by simpa using hcm
        rcases e' with q | q | q | q | q
        · rw [q]; exact hzl
        · rw [q]; exact Heap.lt_size hTI
        · rw [q]; exact Heap.lt_size hTO
        · rw [q]; obtain ⟨_, e1, _⟩ := h1; exact Heap.lt_size e1
        · rw [q]; obtain ⟨_, e2, _⟩ := h2; exact Heap.lt_size e2
      rw [upd_ne (Nat.ne_of_lt hlt)]
      exact (hf c hcm).1
  done := by
    intro X hP hw hK hc i pins s σ H E I hf st hg
    subst hP hw hK
    obtain ⟨hz, hTI, ⟨x0, y0, hTO⟩, h1, h2⟩ := st
    obtain ⟨xs, ys, hqx, hqy, hend⟩ := hg
    obtain ⟨its, rv, p, _⟩ := I.list hqx
    obtain ⟨its2, rv2, p2, _⟩ := I.list hqy
    have l1 := rv.length
    have l2 := rv2.length
    have he : its.toArray[i]? = none ∨ its2.toArray[i]? = none := by
      rcases hend with q | q
      · exact .inl (by simp; omega)
      · exact .inr (by simp; omega)
    exact wpAny_pyNext_zip_end (I.ok.hd hc) D hz hTI hTO h1 h2 p.isList p2.isList he fun h' hk => ⟨rfl, I.turnedL (t' := s.toks) (ch := [z, TI, TO, i1, i2]) (fun c o hb q =>
      hk c o (fun q' => hb (by simp [q'])) (fun q' => hb (by simp [q'])) (fun q' => hb (by simp [q'])) (fun q' => hb (by simp [q'])) q) hf⟩
  self := fun A i s Q E st h => wpAny_pyIter_zip st.1 h
def iZip (K : PySem.W.Frag) (ta : TA) : TI := fun σ H R => ta σ H fun vs H1 => ∃ a b xs ys, vs = [.ref a, .ref b] ∧ SqL K H1 a xs ∧ SqL K H1 b ys ∧ R (Itz K a b) H1
theorem pi_zip {X : Cx} {e e2 : Expr} {ta : TA} {p pos tpos : Pos} {elts : List Expr} {kk : Nat} (hg : Gl X "zip") (hm : X.mg "zip" = none) (ha : PA X [e, e2] ta)
    (hs : starEach [e, e2] X.env = (false, eval e X.env) :: starEach [e2] X.env := by rfl) (hpl : (backTo pos (starEach [e2] X.env)).any (·.1) = false := by rfl) :
    PI X (.Tuple elts kk tpos) (.Call (.Name "zip" p) [e, e2] [] pos) (iZip X.K ta) := by
  intro pins s σ H R I h
  refine Call_ (ld_blt I hg hm boot_zip5 (PyProof.Rows.callWith_type1 (thn (ha pos pins s σ H _ I h) fun us s1 ⟨vs, H1, I1, r1, q1⟩ => ?_) hs hpl))
  obtain ⟨a, b, xs, ys, ex, hqx, hqy, q⟩ := q1
  subst ex
  cases r1 with
  | cons r rr =>
    cases rr with
    | cons r' rr =>
      cases rr
      cases r
      cases r'
      obtain ⟨its, rv, p1, _⟩ := I1.list hqx
      obtain ⟨its2, rv2, p2, _⟩ := I1.list hqy
      have la : a < s1.heap.objs.size := p1.lt
      have lb : b < s1.heap.objs.size := p2.lt
      refine call_zip_2 p1.isList p2.isList fun h' hz hTI hTO h1 h2 hsz hk => wpAny_pyIter_zip hz ?_
      have I2 : Inv X pins σ H1 { s1 with heap := h' } := I1.kept (t' := s1.toks) hk
      refine ⟨s1.heap.objs.size + 4, [s1.heap.objs.size + 4, s1.heap.objs.size + 2, s1.heap.objs.size + 3, s1.heap.objs.size, s1.heap.objs.size + 1], _, _, H1, rfl, I2, turn_zip (PySem.W.ktu_apart s1.heap.objs.size a b la lb), ⟨hz, hTI, ⟨_, _, hTO⟩, h1, h2⟩, fun c hcm => ?_, q⟩
      have e' : c = s1.heap.objs.size + 4 ∨ c = s1.heap.objs.size + 2 ∨ c = s1.heap.objs.size + 3 ∨ c = s1.heap.objs.size ∨ c = s1.heap.objs.size + 1 := by simpa using hcm
      have hle : s1.heap.objs.size ≤ c := by
        rcases e' with z | z | z | z | z
        · rw [z]; exact Nat.le_add_right _ _
        · rw [z]; exact Nat.le_add_right _ _
        · rw [z]; exact Nat.le_add_right _ _
        · rw [z]; exact Nat.le_refl _
        · rw [z]; exact Nat.le_add_right _ _
      exact I1.fpOk hle (I1.hok.fresh hle)
end L2
section 
namespace Bits
open PySem PyProof.Rows
end Bits
end 
section 
namespace TL
open PySem PySem.Builtin PySem.Builtin.Str PySem.StrLaws
abbrev tl (x : Str) : List Nat := x.cps.toList
def pre (S l : List Nat) : Bool := l.take S.length == S
def par (S : List Nat) : List Nat → List Nat → Option (List Nat × List Nat)
  | _, [] => none
  | acc, c :: r => if pre S (c :: r) = true then some (acc, (c :: r).drop S.length) else par S (acc ++ [c]) r
end TL
end 
namespace L2
open PySem PySem.Spec PyProof.Rows
section
variable {X : Cx} {pins : List (Addr × Obj)} {σ : St} {H : Hp} {s : Shared} {Q : VK}
end
section
variable {X : Cx}
end
section
variable {X : Cx} {o e : Expr} {to te : TE}
end
end L2
namespace L2
open PySem PySem.Spec PyProof.Rows
section
variable {X : Cx}
end
end L2
namespace Att
open PySem PySem.W PySem.Calls PyProof.Rows
theorem ints_of_wellAll {P : Params} {h : Heap} : ∀ (ns : List Int) (vs : List Value), WellAll P h vs (ns.map WData.int) → IntsAre vs ns := by
  intro ns
  induction ns with
  | nil =>
    intro vs w
    rw [List.map_nil] at w
    cases w
    exact .nil
  | cons n ns ih =>
    intro vs w
    rw [List.map_cons] at w
    cases w with
    | cons a b =>
      cases a
      exact .cons _ _ (ih _ b)
theorem script_of {l : OpenLaw} {n : Nat} (hn : l.most = some n) {P : Params} {h : Heap} {args : List WData} {vals : List Value}
    (hpre : l.row.toRowW.claim.pre args = true) (hwl : WellAll P h vals args) :
    ∃ a vs ns, vals = [Value.ref a] ∧ args = [WData.list (ns.map WData.int)] ∧ h.get? a = some { cls := .type "list", data := .seq vs.toArray } ∧ IntsAre vs ns ∧ ns.length ≤ n := by
  have hsh : WShape.hasAll [] args [.list .int] = true := (pre_splitW hpre).1
  have hc : l.pre.holds [] { args := args } = true := (pre_splitW hpre).2
  obtain ⟨d, r, rfl, h1, h2⟩ := hasAllW_cons hsh
  obtain rfl := hasAllW_nil h2
  obtain ⟨xs, rfl, h3⟩ := hasW_list h1
  obtain ⟨ns, rfl⟩ := items_int h3
  have hlen : ns.length ≤ n := by
    unfold OpenLaw.pre at hc
    have h4 : (WTm.not (.lt (.lit (.int (n : Int))) (.len (.arg 0)))).holds [] { args := [.list (ns.map .int)] } = true := by
      have h4 := (holds_andW hc).1
      rw [hn] at h4
      exact h4
    have h5 := condW_of h4 (w_not (w_lt w_lit (w_len_list (w_arg rfl))))
    rw [List.length_map] at h5
    refine Nat.le_of_not_lt fun q => ?_
    have q' : (n : Int) < ((ns.length : Nat) : Int) := by omega
    first
      | (rw [decide_eq_true q'] at h5; exact absurd h5 (by decide))
      | (simp at h5; omega)
  cases hwl with
  | cons w1 w2 =>
    cases w2
    cases w1 with
    | list ho hall => exact ⟨_, _, ns, rfl, rfl, ho, ints_of_wellAll ns _ hall, hlen⟩
theorem post_true (l : OpenLaw) (args : List WData) : l.row.toRowW.claim.post args (.bool true) args = true :=
  postW_of (r := l.row.toRowW) (X := (true == true))
    (show WShape.has [] (.bool true) .bool = true by first | rfl | decide | simp [WShape.has, WShape.arms, WShape.armsAll])
    (show (WTm.eq .res (.lit (.bool true))).value [] { args := args, res := some (.bool true), after := args } = some (.bool (true == true)) from w_eq_bool (w_res rfl) w_lit) rfl
section
variable {prog : Program} {w : World} {A : Around} {E : Value → Shared → Prop} {s : Shared} {K : Frag}
end
end Att
namespace L2
open PySem PySem.Spec PyProof.Rows
theorem vals_ints : ∀ {vs : List Value} {ns : List Int}, IntsAre vs ns → Vals (ns.map V.int) vs
  | _, _, .nil => .nil
  | _, _, .cons n t h => .cons ⟨t, rfl⟩ (vals_ints h)
end L2
namespace L2
open PySem PySem.Spec PyProof.Rows
end L2
namespace L2
open PySem PySem.Spec PyProof.Rows
def defArgs (s : Stmt) : Arguments := match s with
  | .FunctionDef _ a _ _ _ _ _ _ _ _ => a
  | _ => { posonlyargs := [], args := [], vararg := none, kwonlyargs := [], kw_defaults := [], kwarg := none, defaults := [] }
def defBody (s : Stmt) : List Stmt := match s with
  | .FunctionDef _ _ b _ _ _ _ _ _ _ => b
  | _ => []
def defScope (s : Stmt) : Scope := match s with
  | .FunctionDef _ _ _ _ _ _ sc _ _ _ => sc
  | _ => { kind := .function, names := [], isGenerator := false, isCoroutine := false }
abbrev CX0 : CXT := fun _ _ _ _ _ _ => False
abbrev E0 : XK := fun _ _ _ => False
theorem pass0 {X : Cx} : Passes CX0 X E0 := fun _ _ _ _ _ _ _ h => h.elim
structure Fun (K : PySem.W.Frag) (x qual : Str) (st : Stmt) (f : Addr) (fd : FuncData) : Prop where
  ex : ∃ (oc : Value) (od : Option Addr) (kV doc pm : Value) (an : Option Addr) (cdv ct : Value) (osl : Array (Option Value)),
    fd = PySem.W.fnOf x qual (defArgs st) (defBody st) (defScope st) .none kV doc pm an cdv ct ∧ K.lookup f = some ⟨oc, od, .func fd, osl⟩ ∧ PySem.W.codeIn K cdv qual = true
  kp : PySem.W.keepIn K (.ref f) = true
section
variable {P : Program} {w : World} {K : PySem.W.Frag} {mg : Str → Option Value} {base : Heap}
theorem Fun.ok {x qual : Str} {st : Stmt} {f : Addr} {fd : FuncData} {N ps : List Str} {k : Nat} {sp : Sp} (F : Fun K x qual st f fd) (S : FnScope N ps (defScope st)) (len : ∀ vs H Q E, sp vs H Q E → vs.length = ps.length)
    (hbody : ∀ (cdv : Value) (A : Around) (outer : List Env) (s : Shared) (H : Hp) (vs : List V) (Q : VK) (E : XK), Room k (A.deeper (envOfC qual (defScope st) s.heap.objs.size f cdv)) → sp vs H Q E →
      ∃ t, PSs (cxOf CX0 P w K mg base N qual (defScope st) f cdv A outer s H E).nox (defBody st) t ∧ t { nx := fun _ H' => Q .non H', rt := Q } (start N vs) H) : FnOk P w K mg base CX0 (k + 1) f fd ps sp := by
  obtain ⟨oc, od, kV, doc, pm, an, cdv, ct, osl, rfl, lk, hcd⟩ := F.ex
  refine fn_of lk hcd S len fun A outer s H vs Q E hr hsp => ?_
  obtain ⟨t, h, q⟩ := hbody cdv A outer s H vs Q E hr hsp
  exact ⟨t, h.nox, q⟩
theorem Fun.binds {x qual : Str} {st : Stmt} {f : Addr} {fd : FuncData} {ps : List Str} (F : Fun K x qual st f fd)
    (h : ∀ (kV doc pm : Value) (an : Option Addr) (cdv ct : Value) (us : List Value), us.length = ps.length → bindArgs (PySem.W.fnOf x qual (defArgs st) (defBody st) (defScope st) .none kV doc pm an cdv ct) ⟨us, []⟩ = pure (ps.zip us)) : Binds K fd ps [] := by
  obtain ⟨oc, od, kV, doc, pm, an, cdv, ct, osl, rfl, lk, hcd⟩ := F.ex
  exact .all (h kV doc pm an cdv ct)
theorem fun_mk {x qual : Str} {st : Stmt} {f : Addr} {oc : Value} {od an : Option Addr} {osl : Array (Option Value)} {kV doc pm cdv ct : Value} (l : K.lookup f = some ⟨oc, od, .func (PySem.W.fnOf x qual (defArgs st) (defBody st) (defScope st) .none kV doc pm an cdv ct), osl⟩)
    (c : PySem.W.codeIn K cdv qual = true) (k : PySem.W.keepIn K (.ref f) = true) : Fun K x qual st f (PySem.W.fnOf x qual (defArgs st) (defBody st) (defScope st) .none kV doc pm an cdv ct) := ⟨⟨oc, od, kV, doc, pm, an, cdv, ct, osl, rfl, l, c⟩, k⟩
end
section
variable {X : Cx}
end
def Same (H H' : Hp) : Prop := ∀ b o, H b = some o → H' b = some o
theorem Same.refl (H : Hp) : Same H H := fun _ _ h => h
theorem Same.trans {H H1 H2 : Hp} (a : Same H H1) (b : Same H1 H2) : Same H H2 := fun c o h => b c o (a c o h)
theorem Same.free {H H' : Hp} (e : Same H H') {l : Addr} (h : H' l = Option.none) : H l = Option.none := by
  cases q : H l with
  | none => rfl
  | some o =>
    rw [e l o q] at h
    cases h
theorem Same.seq {K : PySem.W.Frag} {H H' : Hp} {a : Addr} {xs : List V} (e : Same H H') (h : SqL K H a xs) : SqL K H' a xs := by
  rcases h with (h | ⟨o, h⟩) | h
  · exact .inl (.inl (e _ _ h))
  · exact .inl (.inr ⟨o, e _ _ h⟩)
  · exact .inr h
section
variable {κ : Type} [DecidableEq κ]
end
end L2
namespace PySem
theorem Runs.gens_le {M : Model} {Γ : Ctx} {p : Pos} {t : Sem Fin} {fs : List Frame} {s s' : Shared} {e : End} (h : Runs M Γ p t fs s e s') : s.gens.size ≤ s'.gens.size := by
  induction h <;> (try simp only [Shared.setGen, Array.size_setIfInBounds, Array.size_push] at *) <;> omega
theorem Returns.gens_le {M : Model} {Γ : Ctx} {p : Pos} {s s' : Shared} {r : Result} (h : Returns M Γ p s r s') : s.gens.size ≤ s'.gens.size := Runs.gens_le h
theorem Wakes.gens_le {M : Model} {Γ : Ctx} {p : Pos} {g : Nat} {r : Resume} {s s' : Shared} {res : GenResult} (h : Wakes M Γ p g r s res s') : s.gens.size ≤ s'.gens.size := by
  unfold Wakes at h
  have key : ∀ (s₁ : Shared) (x : GenState), (s.setGen g .running).gens.size ≤ s₁.gens.size → s.gens.size ≤ (s₁.setGen g x).gens.size := fun s₁ x hr => by
    simpa [Shared.setGen] using hr
  split at h
  · exact h.elim
  · split at h
    · obtain ⟨e₁, s₁, hr, _, _, rfl⟩ := h; exact key _ _ (Runs.gens_le hr)
    · rw [h.2]; first | exact Nat.le_refl _ | simp [Shared.setGen]
    · rw [h.2]; first | exact Nat.le_refl _ | simp [Shared.setGen]
  · obtain ⟨e₁, s₁, hr, _, _, rfl⟩ := h; exact key _ _ (Runs.gens_le hr)
  · rw [h.2]; first | exact Nat.le_refl _ | simp [Shared.setGen]
  · rw [h.2]; first | exact Nat.le_refl _ | simp [Shared.setGen]
namespace Sem
theorem wp_gens {α : Type} (M : Model) (Γ : Ctx) (n : Nat) (t : Sem α) : ∀ (Q : α → Pos → Shared → Prop) (E : Value → Pos → Shared → Prop) (p : Pos) (s : Shared), n ≤ s.gens.size → wp M Γ t Q E p s →
    wp M Γ t (fun a p' s' => n ≤ s'.gens.size ∧ Q a p' s') (fun e p' s' => n ≤ s'.gens.size ∧ E e p' s') p s := by
  induction t with
  | pure a => intro Q E p s hn h; exact ⟨hn, h⟩
  | raise e => intro Q E p s hn h; exact ⟨hn, h⟩
  | unsupported _ => intro Q E p s _ h; exact h
  | finish _ => intro Q E p s _ h; exact h
  | rule _ k ih => intro Q E p s hn h; exact ih () Q E p s hn h
  | «at» p' k ih => intro Q E p s hn h; exact ih () Q E p' s hn h
  | load a _ k ih => intro Q E p s hn h; obtain ⟨o, ho, h⟩ := h; exact ⟨o, ho, ih o Q E p s hn h⟩
  | update a _ f k ih => intro Q E p s hn h; exact ⟨h.1, ih () Q E p _ hn h.2⟩
  | loadIfAlive a k ih => intro Q E p s hn h; exact ih _ Q E p s hn h
  | point _ k ih => intro Q E p s hn h; exact ih () Q E p s hn h
  | register _ _ => intro Q E p s _ h; exact h
  | alloc o k ih => intro Q E p s hn h; exact ih _ Q E p _ hn h
  | fresh k ih => intro Q E p s hn h; exact ih _ Q E p _ hn h
  | ask k ih => intro Q E p s hn h; exact ih _ Q E p s hn h
  | choose src m k ih => intro Q E p s hn h; exact ⟨h.1, ih _ Q E p _ hn h.2⟩
  | os q _ k ih => intro Q E p s hn h; exact ih _ Q E p _ hn h
  | call c hd _ _ k ih => intro Q E p s hn h; obtain ⟨r, s', hr, h⟩ := h; exact ⟨r, s', hr, ih r Q E p s' (Nat.le_trans hn hr.gens_le) h⟩
  | handled own k ih => intro Q E p s hn h; exact ih _ Q E p s hn h
  | genState g k ih => intro Q E p s hn h; obtain ⟨st, hs, h⟩ := h; exact ⟨st, hs, ih _ Q E p s hn h⟩
  | newGen c k ih => intro Q E p s hn h; exact ih _ Q E p _ (by show n ≤ (s.gens.push _).size; rw [Array.size_push]; omega) h
  | resume g r _ k ih => intro Q E p s hn h; obtain ⟨res, s', hw, h⟩ := h; exact ⟨res, s', hw, ih res Q E p s' (Nat.le_trans hn hw.gens_le) h⟩
  | yield _ _ _ _ => intro Q E p s _ h; exact h
  | stack k ih => intro Q E p s hn h; exact ih _ Q E p s hn h
  | fork _ _ => intro Q E p s _ h; exact h
  | thread k ih => intro Q E p s hn h; exact ih _ Q E p s hn h
  | await _ _ _ _ _ => intro Q E p s _ h; exact h
end Sem
theorem wpAny_gens {α : Type} {M : Model} {A : Around} {s : Shared} {t : Sem α} {Q : α → Shared → Prop} {E : Value → Shared → Prop} {n : Nat} (hn : n ≤ s.gens.size) (h : wpAny M A t Q E s) :
    wpAny M A t (fun a s' => n ≤ s'.gens.size ∧ Q a s') (fun e s' => n ≤ s'.gens.size ∧ E e s') s :=
  fun Γ p hΓ => Sem.wp_gens M Γ n t _ _ p s hn (h Γ p hΓ)
structure GSt (a : Addr) (g : Nat) (s : Shared) : Prop where
  gen : s.heap.IsGen a g
  lim : s.heap.NoLimit
  lt : g < s.gens.size
def gaY (a : Addr) (g : Nat) (FF : Shared → Prop) : Protocol := fun _ _ v s kap =>
  ∃ b, v = .bool b ∧ GSt a g s ∧ (b = false → FF s) ∧ (b = true → ∀ gs' : GenState, gs'.bare = true → kap (.send .none) ((s.setGen g gs').setGen g .running))
theorem get_setGen {s : Shared} {g : Nat} {x : GenState} (h : g < s.gens.size) : (s.setGen g x).gens[g]? = some x := by
  simp [Shared.setGen, h]
theorem GSt.set {a : Addr} {g : Nat} {s : Shared} (h : GSt a g s) (k : Nat) (x : GenState) : GSt a g (s.setGen k x) := ⟨h.gen, h.lim, by simpa [Shared.setGen] using h.lt⟩
theorem all_loop_gen {prog : Program} {w : World} {A : Around} {a : Addr} {g : Nat} {FF FT : Shared → Prop} {R : Result → Shared → Prop} (hh : A.handled = none) (hroom : A.depth < recursionLimit)
    (hF : ∀ s gs', FF s → gs'.bare = true → R (.ok (.ret (.bool false))) (s.setGen g gs'))
    (hT : ∀ s h', FT s → (∀ b o, s.heap.get? b = some o → h'.get? b = some o) → R (.ok (.ret (.bool true))) { s.setGen g .finished with heap := h' }) :
    ∀ (n : Nat) (s : Shared) (gs : GenState), s.gens[g]? = some gs → GSt a g s →
      gs.Goes (model prog w) A.in1.in1 (fun _ _ r s₁ => r = .ok .next ∧ FT s₁) (gaY a g FF) n (.send .none) (s.setGen g .running) →
      codeAny (model prog w) A (.builtin "all.loop" ⟨[.ref a], []⟩) R s := by
  intro n
  induction n with
  | zero =>
    intro s gs hgs st hgo
    refine codeAny_builtin F.entry_all_loop ?_
    rw [Around.under_plainId F.plain_all_loop _]
    show wpAny _ A.in1 (pyNext (.ref a) >>= _) _ _ s
    refine wpAny_bind (wpAny_pyNext_genexpQ (P := fun _ _ s₁ => FT s₁) hh st.lim hroom st.gen hgs hgo (fun v s₁ gs' hb hv => ?_) (fun s₁ hp h' hk => ?_))
    · obtain ⟨b, rfl, st1, h1, h2⟩ := hv
      refine wpAny_bind (wpAny_holding (wpAny_truthy_bool (wpAny_bind (wpAny_letGo ?_))))
      cases b with
      | true => exact (h2 rfl gs' hb).elim
      | false =>
        simp only [Bool.false_eq_true, if_false]
        exact wpAny_bind (wpAny_rule (wpAny_pure (hF _ _ (h1 rfl) hb)))
    · exact wpAny_bind (wpAny_rule (wpAny_pure (hT _ _ hp hk)))
  | succ n ih =>
    intro s gs hgs st hgo
    refine codeAny_builtin F.entry_all_loop ?_
    rw [Around.under_plainId F.plain_all_loop _]
    show wpAny _ A.in1 (pyNext (.ref a) >>= _) _ _ s
    refine wpAny_bind (wpAny_pyNext_genexpQ (P := fun _ _ s₁ => FT s₁) hh st.lim hroom st.gen hgs hgo (fun v s₁ gs' hb hv => ?_) (fun s₁ hp h' hk => ?_))
    · obtain ⟨b, rfl, st1, h1, h2⟩ := hv
      refine wpAny_bind (wpAny_holding (wpAny_truthy_bool (wpAny_bind (wpAny_letGo ?_))))
      cases b with
      | true =>
        simp only [if_true]
        exact wpAny_pure ⟨plainId_quiet F.plain_all_loop _, ih (s₁.setGen g gs') gs' (get_setGen st1.lt) (st1.set g gs') (h2 rfl gs' hb)⟩
      | false =>
        simp only [Bool.false_eq_true, if_false]
        exact wpAny_bind (wpAny_rule (wpAny_pure (hF _ _ (h1 rfl) hb)))
    · exact wpAny_bind (wpAny_rule (wpAny_pure (hT _ _ hp hk)))
theorem call_all_gen {prog : Program} {w : World} {A : Around} {E : Value → Shared → Prop} {a : Addr} {g : Nat} {FF FT : Shared → Prop} {Q : Value → Shared → Prop} {n : Nat} {s : Shared} {gs : GenState} (hh : A.handled = none) (hroom : A.depth < recursionLimit)
    (hF : ∀ s gs', FF s → gs'.bare = true → Q (.bool false) (s.setGen g gs'))
    (hT : ∀ s h', FT s → (∀ b o, s.heap.get? b = some o → h'.get? b = some o) → Q (.bool true) { s.setGen g .finished with heap := h' })
    (hgs : s.gens[g]? = some gs) (st : GSt a g s)
    (hgo : gs.Goes (model prog w) A.in1.in1 (fun _ _ r s₁ => r = .ok .next ∧ FT s₁) (gaY a g FF) n (.send .none) (s.setGen g .running)) :
    wpAny (model prog w) A (call (.builtin "all") [.ref a]) Q E s := by
  refine call_function_tree F.kind_all F.plain_all F.entry_all (F.args_all1 _) ?_
  unfold Builtin.«all»
  refine wpAny_bind (m := oneArg "all" _) (wpAny_pure ?_)
  refine wpAny_bind (wpAny_pyIter_gen st.gen ?_)
  exact wpAny_pure ⟨plainId_quiet F.plain_all_loop _, all_loop_gen (R := fun r s' => match r with | .ok (.ret v) => Q v s' | .ok _ => False | .error e => E e s') hh hroom hF hT n s gs hgs st hgo⟩
end PySem
namespace L2
open PySem PySem.Spec PyProof.Rows
structure GC (K : PySem.W.Frag) (cdv : Value) (P : Addr) : Prop where
  ex : ∃ (c : Addr) (o : Obj) (vs : Array Value) (file : Str) (tf : Tok) (flags : Int) (tg : Tok) (inF : Bool) (text : Int) (tt : Tok), cdv = .ref c ∧ K.lookup c = some o ∧ o.cls = .type "code" ∧ o.data = .fields vs ∧ vs.getD 11 .none = .ref P ∧ vs[11]? = some (.ref P) ∧
    vs.getD 18 .none = .str file tf ∧ vs.getD 7 .none = .int flags tg ∧ vs.getD 9 .none = .bool inF ∧ vs.getD 10 .none = .int text tt ∧ c ≠ P
def TbAt (H : Hp) (P : Addr) : Prop := ∃ ps, H P = some (.tbl ps) ∧ TriplesOk ps.toList
section
variable {X : Cx} {pins : List (Addr × Obj)} {σ : St} {H : Hp} {s : Shared}
theorem Inv.grown {P : Addr} {ps more : Array Value} {h' : Heap} {t' : Nat} (I : Inv X pins σ H s) (hP : H P = some (.tbl ps)) (hx : Heap.ExtBut P s.heap h') (hn : h'.get? P = some { cls := .none, data := .fields (ps ++ more) }) :
    Inv X pins σ (upd H P (.tbl (ps ++ more))) { s with heap := h', toks := t' } := by
  have neP : ∀ b, H b = none → b ≠ P := fun b n z => by rw [z, hP] at n; cases n
  refine I.un (t' := t') ⟨fun b o e n _ _ => hx b o (neP b n) e, fun b o e n _ _ => ⟨o.slots, hx b o (neP b n) e⟩, fun b o e n _ => by rw [upd_ne (neP b n)]; exact n, fun b o e _ => ?_, fun b xs e => ?_, fun b o u e => ?_, fun b qs e => ?_⟩ fun b u e => ?_
  · by_cases hb : b = P
    · subst hb; exact ⟨_, hn⟩
    · exact ⟨o, hx b o hb e⟩
  · rw [upd_ne (ne_of e hP (by intro z; cases z))]; exact e
  · rw [upd_ne (ne_of e hP (by intro z; cases z))]; exact e
  · by_cases hb : b = P
    · subst hb; rw [hP] at e; cases e; exact ⟨more, upd_same⟩
    · exact ⟨#[], by rw [upd_ne hb, e]; simp⟩
  · by_cases hb : b = P
    · subst hb; rw [upd_same] at e; cases e; exact hn
    · rw [upd_ne hb] at e
      refine (I.hok b u e).stay (fun c v hc q => hx c v ?_ q) (fun c q => ?_) fun c xs q => ?_
      · rcases hc with rfl | hc
        · exact hb
        · exact ne_of hc hP (by intro z; cases z)
      · rw [upd_ne (ne_of q hP (by intro z; cases z))]; exact q
      · rw [upd_ne (ne_of q hP (by intro z; cases z))]; exact q
theorem genexpr_code {P : Addr} {pos : Pos} {qn : Str} {scope : Scope} {E : Value → Shared → Prop} {Q : Value → Shared → Prop} (I : Inv X pins σ H s) (C : GC X.K X.env.code P) (T : TbAt H P)
    (h : ∀ code s' ps, Inv X pins σ (upd H P (.tbl ps)) s' → TriplesOk ps.toList → s'.gens = s.gens → s.heap.objs.size ≤ s'.heap.objs.size → (∀ b o, b ≠ P → s.heap.get? b = some o → s'.heap.get? b = some o) → Q code s') :
    wpAny (model X.prog X.w) X.A (genexprCode X.env pos qn scope) Q E s := by
  obtain ⟨ps, hP, htr⟩ := T
  obtain ⟨c, o, vs, file, tf, flags, tg, inF, text, tt, hc, lk, cls, hd, h11, h11', h18, h7, h9, h10, hne⟩ := C.ex
  have ho := I.kIn c o lk
  have hPo : s.heap.get? P = some { cls := .none, data := .fields ps } := I.hok P _ hP
  have hcode : s.heap.IsCode c P ps := ⟨o, vs, file, tf, flags, tg, inF, text, tt, _, ho, hd, h11, h18, h7, h9, h10, hPo, rfl, htr, hne⟩
  have htab : s.heap.TableAt c P ps := ⟨⟨o, vs, ho, cls, hd, h11'⟩, hPo⟩
  cases hnf : codeAmong pos ps.toList with
  | none =>
    refine wpAny_genexprCodeX hc hcode htab hnf fun c' h' tk hx hge hlt hcode' _ htab' _ => ?_
    obtain ⟨_, _, _, _, _, _, _, _, _, op, _, _, _, _, _, _, _, hop, hpd, htr', _⟩ := id hcode'
    exact h _ _ _ (I.grown (t' := tk) hP hx htab'.2) htr' rfl (Nat.le_trans hge (Nat.le_of_lt hlt)) hx
  | some cv =>
    have e0 : upd H P (.tbl ps) = H := by
      funext b
      by_cases hb : b = P
      · subst hb; rw [upd_same, hP]
      · rw [upd_ne hb]
    unfold genexprCode codeAt
    rw [hc, if_neg (show ¬ ((Value.ref c == Value.none) = true) from Bool.false_ne_true)]
    refine wpAny_bind (wpAny_fieldsOf ho hd ?_)
    rw [h11]
    refine wpAny_bind (wpAny_fieldsOf hPo rfl ?_)
    rw [hnf]
    exact wpAny_pure (h cv s ps (by rw [e0]; exact I) htr rfl (Nat.le_refl _) fun _ _ _ e => e)
end
abbrev Cx.gen (X : Cx) (s : Shared) (H : Hp) (cenv : Env) (fp : List Addr) (A : Around) : Cx := { X with A := A, s_0 := s, H_0 := H, env := cenv, outer := X.stack, stack := cenv :: X.stack, ex := fp, fn := fun _ => false, pn := [], xe := fun _ _ => False }
section
variable {X : Cx} {pins : List (Addr × Obj)} {σ : St} {H : Hp} {s : Shared}
theorem gen_start {scope : Scope} {own : List (Str × Nat)} {fp : List Addr} {A' : Around} {code it : Value} {h5 : Heap} {g5 : Array GenState} {t5 : Nat} (I : Inv X pins σ H s) (ok : BlkOk X.N X.env.scope scope own) (hN : X.N.Nodup) (hcell : ∀ y ∈ scope.names, y.2 ≠ .cell) (hfp : ∀ b ∈ fp, FpOk X pins H b ∧ b < s.heap.objs.size)
    (hA1 : A'.handled = X.A.handled) (hA2 : A'.frames = some (genEnv scope (cloFrom X.env.cells scope.names []) s.heap.objs.size code builtinsNs X.env :: X.stack))
    (kp : ∀ b o, s.heap.get? b = some o → h5.get? b = some o) (hns : h5.Ns s.heap.objs.size (fun y => if y = ".0" then some it else none)) (hg5 : AllBare g5) :
    Inv (X.gen s H (genEnv scope (cloFrom X.env.cells scope.names []) s.heap.objs.size code builtinsNs X.env) fp A') [] (wipe σ (own.map (·.2))) H { s with heap := h5, gens := g5, toks := t5 } := by
  have hfree : ∀ y ∈ scope.names, y.2 = .free → ∃ c, X.env.cells.lookup y.1 = some c := fun y hy e => by
    rcases ok.free y hy e with k | k
    · exact I.ok.has _ (.inl k)
    · exact I.ok.has _ (.inr k)
  generalize hcenv : genEnv scope (cloFrom X.env.cells scope.names []) s.heap.objs.size code builtinsNs X.env = cenv at hA2
  have hL : cenv.locals = s.heap.objs.size := by rw [← hcenv]; rfl
  have hcl : cenv.cells = cloFrom X.env.cells scope.names [] := by rw [← hcenv]; rfl
  have hsc : cenv.scope = scope := by rw [← hcenv]; rfl
  have cm : ∀ {y c}, (y, c) ∈ cloFrom X.env.cells scope.names [] → X.env.cells.lookup y = some c ∧ c < s.heap.objs.size := fun {y c} hm => by
    rcases cloFrom_mem hm with hm | ⟨h1, rfl⟩
    · cases hm
    · obtain ⟨c, hc⟩ := hfree _ h1 rfl
      rw [hc]
      obtain ⟨w, z⟩ := I.cell _ _ hc
      exact ⟨rfl, z.lt⟩
  have mem : ∀ {y c}, cenv.cells.lookup y = some c → X.env.cells.lookup y = some c ∧ c < s.heap.objs.size := fun {y c} e => by
    rw [hcl] at e
    exact cm (PySem.mem_of_lookup e)
  have look : ∀ {y}, scope.names.lookup y = some .free → ∃ c, cenv.cells.lookup y = some c ∧ X.env.cells.lookup y = some c := fun {y} hl => by
    have hy : (y, NameKind.free) ∈ scope.names := PySem.mem_of_lookup hl
    obtain ⟨c', e'⟩ := mem_lookup (cloFrom_has (cells := X.env.cells) (acc := []) hy)
    rw [← hcl] at e'
    exact ⟨c', e', (mem e').1⟩
  have okB : (X.gen s H cenv fp A').Ok := by
    refine ⟨I.ok.mod, by show cenv.scope.kind = _; rw [hsc]; exact ok.kind, by show cenv.globals = _; rw [← hcenv]; exact I.ok.glob, by show cenv.builtins = _; rw [← hcenv]; rfl, by show s.heap.objs.size ≤ cenv.locals; rw [hL]; exact Nat.le_refl _,
      fun y z c e1 e2 => I.ok.inj y z c (mem e1).1 (mem e2).1, fun y hy => ?_, fun y c z e => (by cases z), fun z => by show A'.handled = none; rw [hA1]; exact I.ok.hd z, hA2, .inr ⟨rfl, by show cenv.frame = some cenv.locals; rw [← hcenv]; rfl⟩, fun b hb => ⟨?_, fun y c e z => ?_⟩, I.bs, Nat.le_trans I.ok.bsz I.sz, fun b o e hb => ?_, fun b hb z => ?_, I.stack, I.stkFree⟩
    · show ∃ c, cenv.cells.lookup y = some c
      have key : ∀ k, cenv.kindOf y = some k → (k = .cell ∨ k = .free) → ∃ c, cenv.cells.lookup y = some c := fun k hk hk' => by
        unfold Env.kindOf at hk
        rw [hsc] at hk
        rcases hk' with rfl | rfl
        · exact absurd rfl (hcell _ (PySem.mem_of_lookup hk))
        · obtain ⟨c, h1, _⟩ := look hk
          exact ⟨c, h1⟩
      rcases hy with hy | hy
      · exact key _ hy (.inl rfl)
      · exact key _ hy (.inr rfl)
    · show b ≠ cenv.locals
      rw [hL]; exact Nat.ne_of_lt (hfp b hb).2
    · exact (hfp b hb).1.2.2.2.2.1 y c (mem e).1 z
    · rcases (hfp b hb).1.2.2.2.1 with z | z
      · exact I.ok.noex b o e z
      · exact absurd (Nat.lt_of_lt_of_le (Heap.lt_size e) (Nat.le_trans I.ok.bsz z)) (Nat.lt_irrefl _)
    · rcases List.mem_cons.mp (I.stkSub b z) with z | z
      · exact (hfp b hb).1.2.1 z
      · exact (hfp b hb).1.2.2.1 z
  refine ⟨okB, rfl, hg5, Un.kept kp, ⟨_, by show Heap.Ns _ cenv.locals _; rw [hL]; exact hns, fun i y av e1 e2 e3 => ?_⟩, fun y c e => ?_, ?_, fun y c e => ?_, fun p hp => ?_, I.hok.kept kp, by rw [wipe_length]; exact I.len⟩
  · obtain ⟨e2, hne⟩ := wipe_some e2
    have hfr : scope.names.lookup y = some .free ∧ (cenv.kindOf y = some .cell ∨ cenv.kindOf y = some .free) := by
      have key : ∀ k, cenv.scope.names.lookup y = some k → k = .local ∨ k = .cell ∨ k = .free → scope.names.lookup y = some .free ∧ (cenv.kindOf y = some .cell ∨ cenv.kindOf y = some .free) := fun k hk hk' => by
        have hk0 := hk
        rw [hsc] at hk
        have no : ¬ (k = .local ∨ k = .cell) := fun hh => by
          rcases ok.own _ (PySem.mem_of_lookup hk) hh with e' | e'
          · obtain ⟨p, hp, hpy⟩ := List.mem_map.mp e'
            have e3 := ok.ix p hp
            have : p.1 = y := hpy
            rw [this] at e3
            exact hne (List.mem_map.mpr ⟨p, hp, nodup_ix hN e3 e1⟩)
          · exact e' (List.mem_of_getElem? e1)
        rcases hk' with rfl | rfl | rfl
        · exact absurd (.inl rfl) no
        · exact absurd (.inr rfl) no
        · exact ⟨hk, .inr hk0⟩
      have e3 : Vis cenv.scope y := e3
      rcases e3 with e3 | e3 | e3
      · exact key _ e3 (.inl rfl)
      · exact key _ e3 (.inr (.inl rfl))
      · exact key _ e3 (.inr (.inr rfl))
    obtain ⟨m, hn, hl⟩ := I.loc
    have hvis : Vis X.env.scope y := (ok.free _ (PySem.mem_of_lookup hfr.1) rfl).elim (fun k => .inr (.inl k)) (fun k => .inr (.inr k))
    obtain ⟨w, r, q⟩ := hl i y av e1 e2 hvis
    refine ⟨w, r, .inr ⟨hfr.2, ?_⟩⟩
    obtain ⟨c, h1, h2⟩ := look hfr.1
    rcases q with ⟨k, _⟩ | ⟨_, c', e', z⟩
    · have k : X.env.scope.names.lookup y = some .local := k
      rcases ok.free _ (PySem.mem_of_lookup hfr.1) rfl with k' | k' <;> rw [show X.env.scope.names.lookup y = _ from k'] at k <;> cases k
    · rw [h2] at e'; cases e'
      exact ⟨c, h1, z.keeps kp⟩
  · obtain ⟨w, z⟩ := I.cell y c (mem e).1
    exact ⟨w, z.keeps kp⟩
  · show H cenv.locals = none
    rw [hL]; exact I.hok.fresh (Nat.le_refl _)
  · exact I.freeC y c (mem e).1
  · exact absurd (show p ∈ ([] : List (Addr × Obj)) ++ [] from hp) (by simp)
end
end L2
namespace L2
open PySem PySem.Spec PyProof.Rows
theorem thnG {α : Type} {t : Sem α} {Q Q' : α → Shared → Prop} {M : Model} {A : Around} {E : Value → Shared → Prop} {s : Shared} {n : Nat} (hn : n ≤ s.gens.size) (h : wpAny M A t Q (fun _ _ => False) s) (hQ : ∀ a s', n ≤ s'.gens.size → Q a s' → Q' a s') : wpAny M A t Q' E s :=
  wpAny_mono (wpAny_gens hn h) (fun a s' x => hQ a s' x.1 x.2) fun _ _ z => z.2.elim
theorem bare_set {gens : Array GenState} {g : Nat} {x : GenState} (h : AllBare gens) (hx : x.bare = true) : AllBare (gens.setIfInBounds g x) := fun y hy => by
  rcases Array.mem_or_eq_of_mem_setIfInBounds hy with z | z
  · exact h y z
  · rw [z]; exact hx
section
variable {X : Cx}
theorem Inv.regen {pins : List (Addr × Obj)} {σ : St} {H : Hp} {s : Shared} {gs : Array GenState} (I : Inv X pins σ H s) (h : AllBare gs) : Inv X pins σ H { s with gens := gs } :=
  ⟨I.ok, I.os, h, I.base, I.loc, I.cell, I.free, I.freeC, I.pin, I.hok, I.len⟩
theorem Inv.setGen {pins : List (Addr × Obj)} {σ : St} {H : Hp} {s : Shared} {g : Nat} {x : GenState} (I : Inv X pins σ H s) (h : x.bare = true) : Inv X pins σ H (s.setGen g x) := I.regen (bare_set I.bare h)
def tAllG (P : Addr) (wi : TI) (g : TG) (te : TE) (vs : List Nat) : TE := fun σ H Q => wi σ H fun J H1 => TbAt H1 P ∧ ∀ ps, TriplesOk ps.toList → ∃ W : Nat → Nat → Hp → Prop, (∃ m, W 0 m (upd H1 P (.tbl ps))) ∧ ∀ i m H, W i m H →
  (J.stop i H ∧ Q (.bl true) H) ∨ (J.go i H ∧ ∃ Nx : Hp → Prop, (∀ H', Nx H' → ∃ m', m' < m ∧ W (i + 1) m' H') ∧ ∀ x H', J.yld i H x H' → g x (wipe σ vs) H' fun σ2 H2 => wipe σ2 vs = wipe σ vs ∧ te σ2 H2 fun y H4 =>
    ∃ b, y = .bl b ∧ if b = true then Nx H4 else Q (.bl false) H4)
theorem gen_loop {s3 : Shared} {H3 : Hp} {ce : Env} {fp : List Addr} {A1 : Around} {σ : St} {vs : List Nat} {Q : VK} {elt tg iter : Expr} {scope : Scope} {pos : Pos} {g : TG} {te : TE} {it a : Addr} {oa : Obj} {gn : Nat} {tn : Nat → Heap → Prop} {J : It} {W : Nat → Nat → Hp → Prop}
    (hc : X.calm = true) (hco : ce.scope.isCoroutine = false) (T : Turn X.prog X.w X.K tg J fp it tn) (ha : ∀ b ∈ fp, a ≠ b) (hoa : ∀ h : Heap, h.get? a = some oa → h.IsGen a gn)
    (pg : PG (X.gen s3 H3 ce fp (A1.over (.compLoop (.GeneratorExp elt [⟨tg, iter, [], 0⟩] scope pos) 0 (.ref it) .none ce) [])) tg g) (pe : PE (X.gen s3 H3 ce fp (A1.over (.compLoop (.GeneratorExp elt [⟨tg, iter, [], 0⟩] scope pos) 0 (.ref it) .none ce) [])) elt te)
    (turn : ∀ i m H, W i m H → (J.stop i H ∧ Q (.bl true) H) ∨ (J.go i H ∧ ∃ Nx : Hp → Prop, (∀ H', Nx H' → ∃ m', m' < m ∧ W (i + 1) m' H') ∧ ∀ x H', J.yld i H x H' → g x (wipe σ vs) H' fun σ2 H2 => wipe σ2 vs = wipe σ vs ∧ te σ2 H2 fun y H4 =>
      ∃ b, y = .bl b ∧ if b = true then Nx H4 else Q (.bl false) H4)) :
    ∀ (n i m : Nat) (s₀ s' : Shared) (H' : Hp), m + 1 ≤ n → Inv (X.gen s3 H3 ce fp (A1.over (.compLoop (.GeneratorExp elt [⟨tg, iter, [], 0⟩] scope pos) 0 (.ref it) .none ce) [])) [(a, oa)] (wipe σ vs) H' s' → tn i s'.heap → (∀ b ∈ fp, H' b = none) → gn < s'.gens.size → W i m H' →
      Seg (model X.prog X.w) A1 (fun _ _ r s₁ => r = .ok .next ∧ ∃ σ' H', Inv (X.gen s3 H3 ce fp (A1.over (.compLoop (.GeneratorExp elt [⟨tg, iter, [], 0⟩] scope pos) 0 (.ref it) .none ce) [])) [(a, oa)] σ' H' s₁ ∧ Q (.bl true) H')
        (gaY a gn fun s₁ => ∃ σ' H', Inv (X.gen s3 H3 ce fp (A1.over (.compLoop (.GeneratorExp elt [⟨tg, iter, [], 0⟩] scope pos) 0 (.ref it) .none ce) [])) [(a, oa)] σ' H' s₁ ∧ Q (.bl false) H') n s₀
        (.compLoop (.GeneratorExp elt [⟨tg, iter, [], 0⟩] scope pos) 0 (.ref it) .none ce)
        ((model X.prog X.w).den (.compLoop (.GeneratorExp elt [⟨tg, iter, [], 0⟩] scope pos) 0 (.ref it) .none ce)) [] s' := by
  generalize hXg : X.gen s3 H3 ce fp (A1.over (.compLoop (.GeneratorExp elt [⟨tg, iter, [], 0⟩] scope pos) 0 (.ref it) .none ce) []) = Xg at pg pe
  have x1 : Xg.prog = X.prog := by rw [← hXg]
  have x2 : Xg.w = X.w := by rw [← hXg]
  have x3 : Xg.K = X.K := by rw [← hXg]
  have x4 : Xg.calm = true := by rw [← hXg]; exact hc
  have x5 : Xg.A = A1.over (.compLoop (.GeneratorExp elt [⟨tg, iter, [], 0⟩] scope pos) 0 (.ref it) .none ce) [] := by rw [← hXg]
  have x6 : Xg.env = ce := by rw [← hXg]
  have x7 : Xg.ex = fp := by rw [← hXg]
  have x8 : Xg.pn = [] := by rw [← hXg]
  have x9 : Xg.xe = fun _ _ => False := by rw [← hXg]
  have stat : ∀ {σ' : St} {H' : Hp} {s' : Shared}, Inv Xg [(a, oa)] σ' H' s' → (∀ b ∈ fp, H' b = none) → ∀ b ∈ fp, FpOk Xg [(a, oa)] H' b := fun {σ' H' s'} I' hn b hb =>
    ⟨hn b hb, (I'.ok.exf b (by rw [x7]; exact hb)).1, I'.ok.exfs b (by rw [x7]; exact hb), .inl (by rw [x7]; exact hb), fun x c e => (I'.ok.exf b (by rw [x7]; exact hb)).2 x c e, fun p hp => by
      rw [x8] at hp
      have : p = (a, oa) := by simpa using hp
      rw [this]; exact ha b hb⟩
  intro n
  induction n with
  | zero => intro i m s₀ s' H' hm; omega
  | succ n ih =>
    intro i m s₀ s' H' hm I' st hn hgl w
    show Seg _ A1 _ _ _ s₀ _ ((compTurn (.GeneratorExp elt [⟨tg, iter, [], 0⟩] scope pos) 0 (.ref it) .none ce).onRaise (leaving ce)) [] s'
    rw [compTurn_gen, Sem.onRaise_eq_wrap]
    refine seg_bind_wrap (wpAny_standAt ?_)
    rcases turn i m H' w with ⟨stop, qq⟩ | ⟨go, Nx, hNx, step⟩
    · have td := T.done Xg x1 x2 x3 x4 i [(a, oa)] s' _ H' (fun _ _ => False) I' (stat I' hn) st stop
      rw [x5] at td
      refine seg_bind_wrap (thnF td fun r s6 ⟨hr, I6⟩ => ?_)
      subst hr
      exact seg_end (.ok .next) ⟨rfl, _, H', I6, qq⟩
    · have ti := T.item Xg x1 x2 x3 x4 i [(a, oa)] s' _ H' (fun _ _ => False) I' (stat I' hn) st go
      rw [x5] at ti
      refine seg_bind_wrap (thnG (n := gn + 1) hgl ti fun r s6 hg6 ⟨u, hr, h6⟩ => ?_)
      subst hr
      refine seg_bind_wrap (thnG (n := gn + 1) hg6 h6 fun _ s7 hg7 ⟨x, H7, I7, r7, y7, st7, n7⟩ => ?_)
      have I7' := I7.pinned (stat I7 n7) (T.obj _ _ st7)
      have pgu := pg _ s7 _ H7 x u _ I7' r7 (step x H7 y7)
      rw [x1, x2, x5, x6, x9] at pgu
      refine seg_bind_wrap (thnG (n := gn + 1) hg7 pgu fun _ s8 hg8 ⟨σ8, H8, I8, hw8, q8⟩ => ?_)
      refine seg_bind_wrap (wpAny_tests_nil ?_)
      simp only [if_true]
      have hy : ∀ v, yieldOut ce v = yieldValue v := fun v => by simp only [yieldOut, hco, Bool.false_eq_true, if_false]
      simp only [hy]
      rw [Sem.bind_eq_wrap', Sem.bind_eq_wrap', Sem.wrap_wrap, Sem.wrap_wrap]
      have peu := pe _ s8 σ8 H8 _ I8 q8
      rw [x1, x2, x5, x6, x9] at peu
      refine seg_wrap (thnG (n := gn + 1) hg8 peu fun v s10 hg10 ⟨yv, H10, I10, r10, b, hb, nx⟩ => ?_)
      subst hb
      obtain rfl : v = Value.bool b := r10
      have I10' : Inv Xg [(a, oa)] σ8 H10 s10 := I10.unpinned (pins := [(a, oa)])
      have hga : s10.heap.get? a = some oa := (I10'.pin (a, oa) (by simp)).1
      refine seg_at (seg_yield rfl rfl rfl ⟨b, rfl, ⟨hoa _ hga, I10'.nolimit, hg10⟩, fun hb => ?_, fun hb gs' hbare => ?_⟩)
      · subst hb
        simp only [Bool.false_eq_true, if_false] at nx
        exact ⟨σ8, H10, I10', nx⟩
      · subst hb
        simp only [if_true] at nx
        obtain ⟨m', hm', w'⟩ := hNx H10 nx
        have pin' : ∀ b ∈ fp, ∀ o, s7.heap.get? b = some o → s10.heap.get? b = some o ∧ H10 b = none := fun b hb o e =>
          let z := I10.pin (b, o) (List.mem_append_right _ (List.mem_append_right _ (mem_pinsAt hb e)))
          ⟨z.1, z.2.1⟩
        have hl : (wipe σ vs).length = σ8.length := by rw [← hw8, wipe_length]
        have I11 : Inv Xg [(a, oa)] (wipe σ vs) H10 s10 := I10'.weak hl fun j v e => by
          rw [← hw8] at e
          exact (wipe_some e).1
        refine seg_again rfl (ih (i + 1) m' _ _ H10 (by omega) ((I11.setGen hbare).setGen rfl) (T.keep _ _ _ st7 fun b hb o e => (pin' b hb o e).1) (fun b hb => ?_) (by show gn < _; simp only [Shared.setGen, Array.size_setIfInBounds]; exact hg10) w')
        obtain ⟨o, e, _⟩ := T.obj _ _ st7 b hb
        exact (pin' b hb o e).2
end
end L2
namespace L2
open PySem PySem.Spec PyProof.Rows
section
variable {X : Cx}
theorem pe_allG {P : Addr} {elt tg iter : Expr} {scope : Scope} {own : List (Str × Nat)} {p pos gpos : Pos} {wi : TI} {g : TG} {te : TE} {k : Nat} (hc : X.calm = true) (hN : X.N.Nodup) (hr : Room (k + 1) X.A) (hgl : Gl X "all") (hm : X.mg "all" = none) (C : GC X.K X.env.code P) (M : ∃ bm ob, BMod X.base mainGlobals X.mg bm ob)
    (hi : PI X tg iter wi) (ok : BlkOk X.N X.env.scope scope own) (hco : scope.isCoroutine = false) (hcell : ∀ y ∈ scope.names, y.2 ≠ .cell) (h0 : scope.names.lookup (".0" : Str) = some NameKind.local)
    (hg : ∀ (s : Shared) (H : Hp) (C : Addr) (cl : List (Str × Addr)) (code : Value) (fp : List Addr) (A : Around), PG (X.gen s H (genEnv scope cl C code builtinsNs X.env) fp A) tg g)
    (he : ∀ (s : Shared) (H : Hp) (C : Addr) (cl : List (Str × Addr)) (code : Value) (fp : List Addr) (A : Around), Room k A → PE (X.gen s H (genEnv scope cl C code builtinsNs X.env) fp A) elt te) (hs : ∀ x, genFold iter X.env x = pure x := by intro _; rfl) :
    PE X (.Call (.Name "all" p) [.GeneratorExp elt [⟨tg, iter, [], 0⟩] scope gpos] [] pos) (tAllG P wi g te (own.map (·.2))) := by
  intro pins s σ H Q I h
  refine wpAny_Call_Name_kw (ld_blt I hgl hm (by decide +kernel : bootBuiltins "all" = some (.builtin "all")) ?_)
  refine PyProof.Rows.callWith_builtin1 (id := "all") ?_
  show wpAny _ _ (spliced ((false, eval (.GeneratorExp elt [⟨tg, iter, [], 0⟩] scope gpos) X.env) :: backTo pos (starEach [] X.env))) _ _ s
  refine Calls.spliced_cons ?_
  have hfree : ∀ y ∈ scope.names, y.2 = .free → ∃ c, X.env.cells.lookup y.1 = some c := fun y hy e => by
    rcases ok.free y hy e with k | k
    · exact I.ok.has _ (.inl k)
    · exact I.ok.has _ (.inr k)
  have hdp : X.A.depth < recursionLimit := by have := hr.dp; omega
  refine wpAny_GeneratorExp_make hco (closure_ok hfree) hcell h0 ok.kind hdp (thn (hi pins s σ H _ I h) fun xv s1 hx => thn hx fun itv s2 h2 => ?_) hs
  obtain ⟨it, fp, tn, J, H2, e, I2, T, st2, f2, tb, q⟩ := h2
  subst e
  refine ⟨I2.nolimit, genexpr_code I2 C tb fun code s3 ps I3 htr hg3 hsz3 kp3 => ?_⟩
  obtain ⟨ps0, hP0, _⟩ := tb
  obtain ⟨bm, ob, BM⟩ := M
  have BM3 := BM.keeps I3.bk
  rw [I.ok.glob]
  refine wpAny_builtinsFor BM3.ns BM3.name BM3.ne BM3.obj BM3.cls BM3.dict BM3.data ?_
  intro h' hns' hs'
  obtain ⟨W, ⟨m0, w0⟩, turn⟩ := q ps htr
  generalize hH3 : upd H2 P (.tbl ps) = H3 at I3 w0
  have fpP : ∀ b ∈ fp, b ≠ P := fun b hb z => by
    have := (f2 b hb).1
    rw [z, hP0] at this; cases this
  have sz : ∀ b ∈ fp, b < s3.heap.objs.size := fun b hb => by
    obtain ⟨o, e, _⟩ := T.obj _ _ st2 b hb
    exact Heap.lt_size (kp3 b o (fpP b hb) e)
  have n3 : ∀ b ∈ fp, H3 b = none := fun b hb => by
    rw [← hH3, upd_ne (fpP b hb)]
    exact (f2 b hb).1
  have f3 : ∀ b ∈ fp, FpOk X pins H3 b ∧ b < s3.heap.objs.size := fun b hb => ⟨⟨n3 b hb, (f2 b hb).2⟩, sz b hb⟩
  have st3 : tn 0 s3.heap := T.keep _ _ _ st2 fun b hb o e => kp3 b o (fpP b hb) e
  have hsz' : h'.objs.size = s3.heap.objs.size + 1 := by rw [hs'.1, Heap.size_push]
  have keep' : ∀ b o, s3.heap.get? b = some o → h'.get? b = some o := fun b o e => hs'.extBut b o (Nat.ne_of_lt (Heap.lt_size e)) (Heap.get?_push_of_some _ e)
  generalize hoa : ({ cls := .type "generator", data := .fields #[.int s3.gens.size 0, .str "<genexpr>" (s3.toks + 1), .str (X.env.qual ++ "<genexpr>") (s3.toks + 1 + 1)] } : Obj) = oa
  generalize hce : genEnv scope (cloFrom X.env.cells scope.names []) s3.heap.objs.size code builtinsNs X.env = ce
  have keep5 : ∀ b o, s3.heap.get? b = some o → (h'.push oa).get? b = some o := fun b o e => Heap.get?_push_of_some _ (keep' b o e)
  have cL : ce.locals = s3.heap.objs.size := by rw [← hce]; rfl
  have hA2 : (X.A.in1.in1.over (.compLoop (.GeneratorExp elt [⟨tg, iter, [], 0⟩] scope gpos) 0 (.ref it) .none ce) []).frames = some (ce :: X.stack) := by
    show pushEnvs [ce] (pushEnvs [] X.A.frames) = _
    rw [I.ok.frames]; rfl
  have hrk : Room k (X.A.in1.in1.over (.compLoop (.GeneratorExp elt [⟨tg, iter, [], 0⟩] scope gpos) 0 (.ref it) .none ce) []) := by
    refine ⟨hr.hd, ?_, ?_⟩
    · show X.A.depth + 0 + 1 + 3 * k + 5 < _
      have := hr.dp; omega
    · show X.A.units + 1 + 1 + 0 + 3 + 16 * k + 200 < _
      have := hr.un; omega
  have I5 := gen_start (it := .ref it) (h5 := h'.push oa) (g5 := s3.gens.push (.fresh (.compStart (.GeneratorExp elt [⟨tg, iter, [], 0⟩] scope gpos) 0 (.ref it) .none ce))) (t5 := s3.toks + 1 + 1 + 1) (code := code)
    (A' := X.A.in1.in1.over (.compLoop (.GeneratorExp elt [⟨tg, iter, [], 0⟩] scope gpos) 0 (.ref it) .none ce) []) I3 ok hN hcell f3 rfl (by rw [hce]; exact hA2) keep5 (hns'.push _) (I3.bare.push rfl)
  rw [hce] at I5
  have ha5 : (h'.push oa).get? h'.objs.size = some oa := by rw [← hoa]; exact Heap.get?_push_size _ rfl
  have I6 : Inv _ [(h'.objs.size, oa)] _ _ _ := I5.pins_of fun p hp => by
    have e : p = (h'.objs.size, oa) := by simpa using hp
    subst e
    refine ⟨ha5, I3.hok.fresh (by rw [hsz']; exact Nat.le_succ _), ?_, ?_, fun v => by rw [← hoa]; simp⟩
    · show h'.objs.size ≠ ce.locals
      rw [cL, hsz']; exact Nat.succ_ne_self _
    · show h'.objs.size ∉ frs X.stack
      intro z
      rcases List.mem_cons.mp (I3.stkSub _ z) with z | z
      · have z2 := I3.lt
        rw [← z, hsz'] at z2; exact absurd z2 (Nat.not_lt.mpr (Nat.le_succ _))
      · exact I3.nofs (a := h'.objs.size) (by rw [hsz']; exact Nat.le_succ _) z
  have hgen : ∀ hp : Heap, hp.get? h'.objs.size = some oa → hp.IsGen h'.objs.size s3.gens.size := fun hp e => ⟨oa, _, _, e, by rw [← hoa], by rw [← hoa], by rw [← hoa]⟩
  refine Calls.spliced_nil ?_
  have st5 : tn 0 (h'.push oa) := T.keep _ _ _ st3 fun b _ o e => keep5 b o e
  have pg := hg s3 H3 s3.heap.objs.size (cloFrom X.env.cells scope.names []) code fp (X.A.in1.in1.over (.compLoop (.GeneratorExp elt [⟨tg, iter, [], 0⟩] scope gpos) 0 (.ref it) .none ce) [])
  have pe := he s3 H3 s3.heap.objs.size (cloFrom X.env.cells scope.names []) code fp (X.A.in1.in1.over (.compLoop (.GeneratorExp elt [⟨tg, iter, [], 0⟩] scope gpos) 0 (.ref it) .none ce) []) hrk
  rw [hce] at pg pe
  have back : ∀ {σ' : St} {H' : Hp} {s₁ : Shared}, Inv (X.gen s3 H3 ce fp (X.A.in1.in1.over (.compLoop (.GeneratorExp elt [⟨tg, iter, [], 0⟩] scope gpos) 0 (.ref it) .none ce) [])) [(h'.objs.size, oa)] σ' H' s₁ → Inv X pins σ H' s₁ := fun {σ' H' s₁} J1 =>
    I3.call' (ch := fp) J1.os J1.base J1.hok J1.bare fun b hb => ⟨(f3 b hb).1.2.2.2.1, (f3 b hb).1.2.1, (f3 b hb).1.2.2.2.2.1, (f3 b hb).1.2.2.2.2.2⟩
  refine call_all_gen (A := X.A) (a := h'.objs.size) (g := s3.gens.size) (n := m0 + 1)
    (FF := fun s₁ => ∃ σ' H', Inv (X.gen s3 H3 ce fp (X.A.in1.in1.over (.compLoop (.GeneratorExp elt [⟨tg, iter, [], 0⟩] scope gpos) 0 (.ref it) .none ce) [])) [(h'.objs.size, oa)] σ' H' s₁ ∧ Q (.bl false) H')
    (FT := fun s₁ => ∃ σ' H', Inv (X.gen s3 H3 ce fp (X.A.in1.in1.over (.compLoop (.GeneratorExp elt [⟨tg, iter, [], 0⟩] scope gpos) 0 (.ref it) .none ce) [])) [(h'.objs.size, oa)] σ' H' s₁ ∧ Q (.bl true) H')
    (I.ok.hd hc) hdp ?_ ?_ (Array.getElem?_push_size ..) ⟨hgen _ ha5, I6.nolimit, by show s3.gens.size < (s3.gens.push _).size; rw [Array.size_push]; exact Nat.lt_succ_self _⟩ ?_
  · rintro s₁ gs' ⟨σ', H', J1, q1⟩ hb
    exact ⟨.bl false, H', (back J1).setGen hb, rfl, q1⟩
  · rintro s₁ h1 ⟨σ', H', J1, q1⟩ hk
    exact ⟨.bl true, H', ((back J1).kept (t' := s₁.toks) hk).regen (bare_set J1.bare rfl), rfl, q1⟩
  · refine ⟨rfl, ?_⟩
    have loop := gen_loop (A1 := X.A.in1.in1) (s3 := s3) (H3 := H3) (a := h'.objs.size) (oa := oa) (gn := s3.gens.size) (Q := Q) (σ := σ) (vs := own.map (·.2)) hc (by rw [← hce]; exact hco) T (fun b hb z => by
        have := sz b hb
        rw [← z, hsz'] at this; exact absurd this (Nat.not_lt.mpr (Nat.le_succ _))) hgen pg pe turn (m0 + 1) 0 m0
    have J6 := I6.setGen (g := s3.gens.size) (x := .running) rfl
    have loop1 := loop (Shared.setGen { s3 with heap := h'.push oa, gens := s3.gens.push (.fresh (.compStart (.GeneratorExp elt [⟨tg, iter, [], 0⟩] scope gpos) 0 (.ref it) .none ce)), toks := s3.toks + 1 + 1 + 1 } s3.gens.size .running) _ H3 (Nat.le_refl _) J6 st5 n3
      (by show s3.gens.size < _; simp only [Shared.setGen, Array.size_setIfInBounds, Array.size_push]; exact Nat.lt_succ_self _) w0
    show Seg _ _ _ _ _ _ _ ((compStart (.GeneratorExp elt [⟨tg, iter, [], 0⟩] scope gpos) 0 (.ref it) .none ce).onRaise (leaving ce)) [] _
    unfold compStart
    rw [Sem.onRaise_eq_wrap]
    show Seg _ _ _ _ _ _ _ ((ask >>= _).wrap _ _ _ _) [] _
    refine seg_bind_wrap (wpAny_askSetting ?_)
    split
    · exact seg_again rfl loop1
    · refine seg_bind_wrap (wpAny_rule ?_)
      show Seg _ _ _ _ _ _ _ ((standAt iter.pos >>= _).wrap _ _ _ _) [] _
      exact seg_bind_wrap (wpAny_standAt (seg_bind_wrap (T.self _ 0 _ _ _ st5 (seg_again rfl loop1))))
end
end L2
namespace EV
open PySem PySem.Spec PyProof.Rows L2
abbrev D := PyData
abbrev Fg := PySem.W.Frag
mutual
inductive Rp (K : Fg) (H : Hp) : V → D → Prop
  | non : Rp K H .non .none
  | bl (b : Bool) : Rp K H (.bl b) (.bool b)
  | int (i : Int) : Rp K H (.int i) (.int i)
  | str (x : Str) : Rp K H (.str x) (.str x)
  | lst {a : Addr} {xs : List V} {ds : List D} : SqL K H a xs → RpA K H xs ds → Rp K H (.ref a) (.list ds)
  | tup {a : Addr} {xs : List V} {ds : List D} : SqT K H a xs → RpA K H xs ds → Rp K H (.ref a) (.tuple ds)
  | dct {a : Addr} : H a = some (.dK []) → Rp K H (.ref a) (.dict [])
inductive RpA (K : Fg) (H : Hp) : List V → List D → Prop
  | nil : RpA K H [] []
  | cons {v : V} {vs : List V} {d : D} {ds : List D} : Rp K H v d → RpA K H vs ds → RpA K H (v :: vs) (d :: ds)
end
theorem Same.rd {H H' : Hp} (s : Same H H') {a : Addr} {u : HO} (h : Rd H a u) : Rd H' a u := h.elim (fun z => .inl (s _ _ z)) fun ⟨o, z⟩ => .inr ⟨o, s _ _ z⟩
theorem Same.sqL {K : Fg} {H H' : Hp} (s : Same H H') {a : Addr} {xs : List V} (h : SqL K H a xs) : SqL K H' a xs := h.elim (fun z => .inl (Same.rd s z)) .inr
theorem Same.sqT {K : Fg} {H H' : Hp} (s : Same H H') {a : Addr} {xs : List V} (h : SqT K H a xs) : SqT K H' a xs := h.elim (fun z => .inl (Same.rd s z)) .inr
section
variable {K : Fg} {H H' : Hp}
mutual
theorem Rp.mono (s : Same H H') : ∀ {v : V} {d : D}, Rp K H v d → Rp K H' v d
  | _, _, .non => .non
  | _, _, .bl b => .bl b
  | _, _, .int i => .int i
  | _, _, .str x => .str x
  | _, _, .lst h r => .lst (Same.sqL s h) (RpA.mono s r)
  | _, _, .tup h r => .tup (Same.sqT s h) (RpA.mono s r)
  | _, _, .dct h => .dct (s _ _ h)
theorem RpA.mono (s : Same H H') : ∀ {vs : List V} {ds : List D}, RpA K H vs ds → RpA K H' vs ds
  | _, _, .nil => .nil
  | _, _, .cons h r => .cons (Rp.mono s h) (RpA.mono s r)
end
theorem RpA.len : ∀ {vs : List V} {ds : List D}, RpA K H vs ds → vs.length = ds.length
  | _, _, .nil => rfl
  | _, _, .cons _ r => by rw [List.length_cons, List.length_cons, r.len]
theorem RpA.get : ∀ {vs : List V} {ds : List D} {i : Nat} {d : D}, RpA K H vs ds → ds[i]? = some d → ∃ v, vs[i]? = some v ∧ Rp K H v d
  | _, _, _, _, .nil, e => by simp at e
  | _, _, 0, _, .cons h _, e => by simp at e; subst e; exact ⟨_, rfl, h⟩
  | _, _, i + 1, d, .cons _ r, e => by
    obtain ⟨v, h1, h2⟩ := RpA.get (i := i) (d := d) r (by simpa using e)
    exact ⟨v, by simpa using h1, h2⟩
theorem RpA.app : ∀ {vs us : List V} {ds es : List D}, RpA K H vs ds → RpA K H us es → RpA K H (vs ++ us) (ds ++ es)
  | _, _, _, _, .nil, s => s
  | _, _, _, _, .cons h r, s => .cons h (r.app s)
theorem RpA.take : ∀ {vs : List V} {ds : List D} (n : Nat), RpA K H vs ds → RpA K H (vs.take n) (ds.take n)
  | _, _, 0, _ => .nil
  | _, _, _ + 1, .nil => .nil
  | _, _, n + 1, .cons h r => .cons h (r.take n)
theorem RpA.drop : ∀ {vs : List V} {ds : List D} (n : Nat), RpA K H vs ds → RpA K H (vs.drop n) (ds.drop n)
  | _, _, 0, r => r
  | _, _, _ + 1, .nil => .nil
  | _, _, n + 1, .cons _ r => r.drop n
theorem RpA.ints : ∀ {vs : List V} {ns : List Int}, RpA K H vs (ns.map PyData.int) → vs = ns.map V.int
  | _, [], .nil => rfl
  | _, n :: ns, .cons h r => by
    cases h
    rw [List.map_cons, RpA.ints r]
end
inductive Fl : V → D → Prop
  | non : Fl .non .none
  | bl (b : Bool) : Fl (.bl b) (.bool b)
  | int (i : Int) : Fl (.int i) (.int i)
  | str (x : Str) : Fl (.str x) (.str x)
theorem Fl.rp {K : Fg} {H : Hp} : ∀ {v : V} {d : D}, Fl v d → Rp K H v d
  | _, _, .non => .non
  | _, _, .bl b => .bl b
  | _, _, .int i => .int i
  | _, _, .str x => .str x
def flatD : D → Bool
  | .none => true
  | .bool _ => true
  | .int _ => true
  | .str _ => true
  | _ => false
theorem Rp.fl {K : Fg} {H : Hp} {v : V} {d : D} (h : Rp K H v d) (f : flatD d = true) : Fl v d := by
  cases h <;> first | constructor | cases f
inductive OwL (R : V → D → List Addr → Prop) : List V → List D → List Addr → Prop
  | nil : OwL R [] [] []
  | cons {v : V} {vs : List V} {d : D} {ds : List D} {F G : List Addr} : R v d F → OwL R vs ds G → OwL R (v :: vs) (d :: ds) (F ++ G)
def Own (K : Fg) (L H : Hp) : Nat → V → D → List Addr → Prop
  | 0, v, d, F => F = [] ∧ Rp K L v d
  | n + 1, v, d, F => match d with
    | .list ds => ∃ a vs G, v = .ref a ∧ F = a :: G ∧ H a = some (.lst vs) ∧ OwL (Own K L H n) vs ds G
    | d => F = [] ∧ Rp K L v d
theorem OwL.mono {R S : V → D → List Addr → Prop} (h : ∀ v d F, R v d F → S v d F) : ∀ {vs ds F}, OwL R vs ds F → OwL S vs ds F
  | _, _, _, .nil => .nil
  | _, _, _, .cons a r => .cons (h _ _ _ a) (r.mono h)
theorem OwL.mono' {R S : V → D → List Addr → Prop} : ∀ {vs ds F}, OwL R vs ds F → (∀ v d G, (∀ a ∈ G, a ∈ F) → R v d G → S v d G) → OwL S vs ds F
  | _, _, _, .nil, _ => .nil
  | _, _, _, .cons a r, h => .cons (h _ _ _ (fun b hb => List.mem_append_left _ hb) a) (r.mono' fun v d G hG => h v d G fun b hb => List.mem_append_right _ (hG b hb))
theorem OwL.len {R : V → D → List Addr → Prop} : ∀ {vs ds F}, OwL R vs ds F → vs.length = ds.length
  | _, _, _, .nil => rfl
  | _, _, _, .cons _ r => by rw [List.length_cons, List.length_cons, r.len]
theorem OwL.app {R : V → D → List Addr → Prop} : ∀ {vs ds F us es G}, OwL R vs ds F → OwL R us es G → OwL R (vs ++ us) (ds ++ es) (F ++ G)
  | _, _, _, _, _, _, .nil, s => s
  | _, _, _, us, es, G, .cons (F := F1) (G := G1) a r, s => by
    rw [List.append_assoc]
    exact .cons a (r.app s)
theorem Own.flat {K : Fg} {L H : Hp} {v : V} {d : D} (h : Fl v d) : ∀ n, Own K L H n v d []
  | 0 => ⟨rfl, h.rp⟩
  | n + 1 => by cases h <;> exact ⟨rfl, Fl.rp (by constructor)⟩
theorem Own.mono {K : Fg} {L L' H H' : Hp} (sl : Same L L') : ∀ {n : Nat} {v : V} {d : D} {F : List Addr}, (∀ a ∈ F, ∀ xs, H a = some (.lst xs) → H' a = some (.lst xs)) → Own K L H n v d F → Own K L' H' n v d F
  | 0, _, _, _, _, h => ⟨h.1, h.2.mono sl⟩
  | n + 1, v, d, F, k, h => by
    cases d with
    | list ds =>
      obtain ⟨a, vs, G, rfl, rfl, ha, r⟩ := h
      refine ⟨a, vs, G, rfl, rfl, k a (List.mem_cons_self ..) _ ha, r.mono' fun v d G' hG q => Own.mono sl (fun b hb => k b (List.mem_cons_of_mem _ (hG b hb))) q⟩
    | _ => exact ⟨h.1, h.2.mono sl⟩
theorem Own.dom {K : Fg} {L H : Hp} : ∀ {n : Nat} {v : V} {d : D} {F : List Addr}, Own K L H n v d F → ∀ a ∈ F, ∃ xs, H a = some (.lst xs)
  | 0, _, _, _, h => by rw [h.1]; intro a ha; cases ha
  | n + 1, v, d, F, h => by
    cases d with
    | list ds =>
      obtain ⟨a, vs, G, rfl, rfl, ha, r⟩ := h
      intro b hb
      rcases List.mem_cons.mp hb with rfl | hb
      · exact ⟨_, ha⟩
      · have key : ∀ {vs ds G}, OwL (Own K L H n) vs ds G → ∀ b ∈ G, ∃ xs, H b = some (.lst xs) := by
          intro vs ds G r
          induction r with
          | nil => intro b hb; cases hb
          | cons q r ih => intro b hb; exact (List.mem_append.mp hb).elim (Own.dom q b) (ih b)
        exact key r b hb
    | _ => rw [h.1]; intro a ha; cases ha
theorem Own.rp {K : Fg} {L H : Hp} (sl : Same L H) : ∀ {n : Nat} {v : V} {d : D} {F : List Addr}, Own K L H n v d F → Rp K H v d
  | 0, _, _, _, h => h.2.mono sl
  | n + 1, v, d, F, h => by
    cases d with
    | list ds =>
      obtain ⟨a, vs, G, rfl, rfl, ha, r⟩ := h
      have key : ∀ {vs ds G}, OwL (Own K L H n) vs ds G → RpA K H vs ds := by
        intro vs ds G r
        induction r with
        | nil => exact .nil
        | cons q r ih => exact .cons (Own.rp sl q) ih
      exact .lst (SqL.of ha) (key r)
    | _ => exact h.2.mono sl
def cut (L H : Hp) (F : List Addr) : Hp := fun a => if a ∈ F then H a else L a
theorem cut_in {L H : Hp} {F : List Addr} {a : Addr} (h : a ∈ F) : cut L H F a = H a := if_pos h
theorem cut_out {L H : Hp} {F : List Addr} {a : Addr} (h : a ∉ F) : cut L H F a = L a := if_neg h
theorem cut_same {L H : Hp} {F : List Addr} (h : ∀ a ∈ F, L a = none) : Same L (cut L H F) := fun b o e => by
  by_cases hb : b ∈ F
  · rw [h b hb] at e; cases e
  · rw [cut_out hb]; exact e
theorem Own.give {K : Fg} {L H M : Hp} (sl : Same L M) : ∀ {n : Nat} {v : V} {d : D} {F : List Addr}, (∀ a ∈ F, M a = H a) → Own K L H n v d F → Rp K M v d
  | 0, _, _, _, _, h => h.2.mono sl
  | n + 1, v, d, F, k, h => by
    cases d with
    | list ds =>
      obtain ⟨a, vs, G, rfl, rfl, ha, r⟩ := h
      have key : ∀ {vs ds G'}, OwL (Own K L H n) vs ds G' → (∀ b ∈ G', b ∈ G) → RpA K M vs ds := by
        intro vs ds G' r
        induction r with
        | nil => intro _; exact .nil
        | cons q r ih => intro hs; exact .cons (Own.give sl (fun b hb => k b (List.mem_cons_of_mem _ (hs b (List.mem_append_left _ hb)))) q) (ih fun b hb => hs b (List.mem_append_right _ hb))
      exact .lst (SqL.of ((k a (List.mem_cons_self ..)).trans ha)) (key r fun _ hb => hb)
    | _ => exact h.2.mono sl
end EV
namespace EV
open PySem PySem.Spec PyProof.Rows L2
def nt (H : Hp) : Hp := fun a => match H a with | some (.tbl _) => none | x => x
theorem nt_of {H : Hp} {a : Addr} {o : HO} (h : nt H a = some o) : H a = some o ∧ ∀ ps, o ≠ .tbl ps := by
  unfold nt at h
  split at h
  · cases h
  · rename_i n
    exact ⟨h, fun ps e => n ps (by rw [h, e])⟩
theorem nt_some {H : Hp} {a : Addr} {o : HO} (h : H a = some o) (n : ∀ ps, o ≠ .tbl ps) : nt H a = some o := by
  unfold nt
  split
  · rename_i ps e
    rw [h] at e; cases e; exact absurd rfl (n ps)
  · exact h
theorem nt_none {H : Hp} {a : Addr} (h : H a = none) : nt H a = none := by unfold nt; rw [h]
theorem nt_lst {H : Hp} {a : Addr} {xs : List V} (h : H a = some (.lst xs)) : nt H a = some (.lst xs) := nt_some h fun _ e => by cases e
theorem nt_same (H : Hp) : Same (nt H) H := fun _ _ e => (nt_of e).1
structure Le (H H' : Hp) : Prop where
  ol : Same (nt H) H'
  tb : ∀ P, TbAt H P → TbAt H' P
  dm : ∀ a, H a ≠ none → H' a ≠ none
theorem Le.refl (H : Hp) : Le H H := ⟨nt_same H, fun _ h => h, fun _ h => h⟩
theorem Le.fr {H H' : Hp} (l : Le H H') {a : Addr} (h : H' a = none) : H a = none := Classical.byContradiction fun n => l.dm a n h
theorem Le.nts {H H' : Hp} (l : Le H H') : Same (nt H) (nt H') := fun b o e => nt_some (l.ol b o e) (nt_of e).2
theorem Le.trans {H H1 H2 : Hp} (a : Le H H1) (b : Le H1 H2) : Le H H2 := ⟨fun c o e => b.ol c o (a.nts c o e), fun P h => b.tb P (a.tb P h), fun c h => b.dm c (a.dm c h)⟩
theorem Le.upd {H : Hp} {p : Addr} {o : HO} (h : H p = none) : Le H (upd H p o) := by
  refine ⟨fun b u e => ?_, fun P ⟨ps, e, t⟩ => ⟨ps, ?_, t⟩, fun b e => ?_⟩
  · rw [upd_ne (ne_of_none (nt_of e).1 h)]; exact (nt_of e).1
  · rw [upd_ne (ne_of_none e h)]; exact e
  · by_cases hb : b = p
    · subst hb; exact absurd h e
    · rw [upd_ne hb]; exact e
section
variable {K : Fg} {H : Hp}
theorem rd_nt {a : Addr} {u : HO} (hu : ∀ ps, u ≠ .tbl ps) (h : Rd H a u) : Rd (nt H) a u := h.elim (fun z => .inl (nt_some z hu)) fun ⟨o, z⟩ => .inr ⟨o, nt_some z fun _ e => by cases e⟩
mutual
theorem Rp.nt : ∀ {v : V} {d : D}, Rp K H v d → Rp K (nt H) v d
  | _, _, .non => .non
  | _, _, .bl b => .bl b
  | _, _, .int i => .int i
  | _, _, .str x => .str x
  | _, _, .lst h r => .lst (h.elim (fun z => .inl (rd_nt (fun _ e => by cases e) z)) .inr) (RpA.nt r)
  | _, _, .tup h r => .tup (h.elim (fun z => .inl (rd_nt (fun _ e => by cases e) z)) .inr) (RpA.nt r)
  | _, _, .dct h => .dct (nt_some h fun _ e => by cases e)
theorem RpA.nt : ∀ {vs : List V} {ds : List D}, RpA K H vs ds → RpA K (nt H) vs ds
  | _, _, .nil => .nil
  | _, _, .cons h r => .cons (Rp.nt h) (RpA.nt r)
end
theorem Rp.le {H' : Hp} {v : V} {d : D} (h : Rp K H v d) (l : Le H H') : Rp K H' v d := h.nt.mono l.ol
theorem RpA.le {H' : Hp} {v : List V} {d : List D} (h : RpA K H v d) (l : Le H H') : RpA K H' v d := h.nt.mono l.ol
end
def jn (A B : Hp) : Hp := fun a => match B a with | some o => some o | none => A a
theorem jn_r {A B : Hp} : Same B (jn A B) := fun b o e => by unfold jn; rw [e]
theorem jn_l {A B : Hp} (h : ∀ a, B a ≠ none → A a = none) : Same A (jn A B) := fun b o e => by
  unfold jn
  cases q : B b with
  | none => exact e
  | some u => rw [h b (by rw [q]; simp)] at e; cases e
theorem jn_mono {A B C : Hp} (s : Same B C) (h : ∀ a, C a ≠ none → A a = none) : Same (jn A B) (jn A C) := fun b o e => by
  cases q : B b with
  | some u =>
    have e' : jn A B b = some u := jn_r b u q
    rw [e] at e'; cases e'
    exact jn_r b o (s b o q)
  | none =>
    have e' : A b = some o := by
      unfold jn at e; rw [q] at e; exact e
    exact jn_l h b o e'
theorem jn_sub {A B C : Hp} (a : Same A C) (b : Same B C) : Same (jn A B) C := fun c o e => by
  unfold jn at e
  cases q : B c with
  | some u => rw [q] at e; cases e; exact b c _ q
  | none => rw [q] at e; exact a c _ e
def lf (y : Bool) (H0 Hy : Hp) : Hp := if y = true then Hy else jn (nt H0) Hy
theorem lf_mono {y : Bool} {H0 Hy Hy' : Hp} (s : Same Hy Hy') (h : ∀ a, Hy' a ≠ none → H0 a = none) : Same (lf y H0 Hy) (lf y H0 Hy') := by
  cases y with
  | true => exact s
  | false => exact jn_mono s fun a e => nt_none (h a e)
theorem lf_sub {y : Bool} {H0 Hy H : Hp} (a : Same (nt H0) H) (b : Same Hy H) : Same (lf y H0 Hy) H := by
  cases y with
  | true => exact b
  | false => exact jn_sub a b
theorem lf_any {y : Bool} {H0 Hy : Hp} : Same Hy (lf y H0 Hy) := by
  cases y with
  | true => exact Same.refl _
  | false => exact jn_r
theorem lf_ff {y : Bool} {H0 Hy : Hp} : Same (lf y H0 Hy) (lf false H0 Hy) := by
  cases y with
  | true => exact jn_r
  | false => exact Same.refl _
def NT (Hy : Hp) : Prop := ∀ a o, Hy a = some o → ∀ ps, o ≠ HO.tbl ps
abbrev Env := List (Option (D × Nat × Bool))
structure SR (K : Fg) (T9 : List Addr) (H0 Hy : Hp) (Fs : Nat → List Addr) (ρ : Env) (σ : L2.St) (H : Hp) : Prop where
  le : Le H0 H
  tbs : ∀ P ∈ T9, TbAt H0 P
  yng : Same Hy H
  ynt : NT Hy
  sep : ∀ a, Hy a ≠ none → H0 a = none
  own : ∀ i a, a ∈ Fs i → H0 a = none ∧ Hy a = none ∧ ∃ xs, H a = some (.lst xs)
  nod : ∀ i, (Fs i).Nodup
  dis : ∀ i j, i ≠ j → ∀ a, a ∈ Fs i → a ∉ Fs j
  slot : ∀ i d n y, ρ[i]? = some (some (d, n, y)) → ∃ v, σ[i]? = some (some v) ∧ Own K (lf y H0 Hy) H n v d (Fs i)
  len : ρ.length = σ.length
structure Ext (Hy H Hy' H' : Hp) : Prop where
  le : Le H H'
  yn : Same Hy Hy'
  sm : Same Hy' H'
  nt : NT Hy'
  nw : ∀ a, Hy' a ≠ none → Hy a ≠ none ∨ H a = none
theorem SR.rfl {K : Fg} {H0 Hy : Hp} {Fs : Nat → List Addr} {ρ : Env} {σ : L2.St} {H : Hp} (s : SR K T9 H0 Hy Fs ρ σ H) : Ext Hy H Hy H := ⟨.refl _, .refl _, s.yng, s.ynt, fun _ h => .inl h⟩
theorem Ext.trans {A H B H1 C H2 : Hp} (a : Ext A H B H1) (b : Ext B H1 C H2) : Ext A H C H2 :=
  ⟨a.le.trans b.le, a.yn.trans b.yn, b.sm, b.nt, fun x h => (b.nw x h).elim (fun z => a.nw x z) fun z => .inr (a.le.fr z)⟩
theorem SR.ext {K : Fg} {H0 Hy Hy' : Hp} {Fs : Nat → List Addr} {ρ : Env} {σ : L2.St} {H H' : Hp} (s : SR K T9 H0 Hy Fs ρ σ H) (e : Ext Hy H Hy' H') : SR K T9 H0 Hy' Fs ρ σ H' := by
  have sp : ∀ a, Hy' a ≠ none → H0 a = none := fun a h => (e.nw a h).elim (s.sep a) fun z => s.le.fr z
  have kp : ∀ i a, a ∈ Fs i → ∀ xs, H a = some (.lst xs) → H' a = some (.lst xs) := fun i a _ xs h => e.le.ol a _ (nt_lst h)
  refine ⟨s.le.trans e.le, s.tbs, e.sm, e.nt, sp, fun i a h => ?_, s.nod, s.dis, fun i d n y h => ?_, s.len⟩
  · obtain ⟨h1, h2, xs, h3⟩ := s.own i a h
    refine ⟨h1, ?_, xs, kp i a h xs h3⟩
    cases q : Hy' a with
    | none => rfl
    | some u =>
      rcases e.nw a (by rw [q]; simp) with z | z
      · exact absurd h2 z
      · rw [h3] at z; cases z
  · obtain ⟨v, h1, h2⟩ := s.slot i d n y h
    exact ⟨v, h1, h2.mono (lf_mono e.yn sp) fun a ha xs => kp i a ha xs⟩
inductive Md | bor | own (n : Nat) (y : Bool)
  deriving DecidableEq
structure Vl (K : Fg) (H0 Hy H : Hp) (v : V) (d : D) (m : Md) (F : List Addr) : Prop where
  rep : Rp K H v d
  own : ∀ n y, m = .own n y → Own K (lf y H0 Hy) H n v d F
  nod : F.Nodup
  hy : ∀ a ∈ F, Hy a = none
  lst : ∀ a ∈ F, ∃ xs, H a = some (.lst xs)
theorem Vl.flat {K : Fg} {H0 Hy H : Hp} {v : V} {d : D} (h : Fl v d) (n : Nat) (y : Bool) : Vl K H0 Hy H v d (.own n y) [] :=
  ⟨h.rp, fun _ _ _ => Own.flat h _, .nil, (fun _ h => nomatch h), (fun _ h => nomatch h)⟩
theorem Vl.ext {K : Fg} {H0 Hy Hy' H H' : Hp} {v : V} {d : D} {m : Md} {F : List Addr} (h : Vl K H0 Hy H v d m F) (e : Ext Hy H Hy' H') (sp : ∀ a, Hy' a ≠ none → H0 a = none) : Vl K H0 Hy' H' v d m F := by
  have kp : ∀ a ∈ F, ∀ xs, H a = some (.lst xs) → H' a = some (.lst xs) := fun a _ xs h => e.le.ol a _ (nt_lst h)
  refine ⟨?_, fun n y hm => (h.own n y hm).mono (lf_mono e.yn sp) kp, h.nod, fun a ha => ?_, fun a ha => (h.lst a ha).imp fun xs q => kp a ha xs q⟩
  · exact h.rep.le e.le
  · obtain ⟨xs, q⟩ := h.lst a ha
    cases z : Hy' a with
    | none => rfl
    | some u =>
      rcases e.nw a (by rw [z]; simp) with w | w
      · exact absurd (h.hy a ha) w
      · rw [q] at w; cases w
end EV
namespace EV
open PySem PySem.Spec PyProof.Rows L2
abbrev Sm := Env → Option (D × Md)
def tD (K : Fg) (T9 : List Addr) (f : Sm) : TE := fun σ H Q => ∃ H0 Hy Fs ρ d m, SR K T9 H0 Hy Fs ρ σ H ∧ f ρ = some (d, m) ∧ ∀ v Hy' H' F, Ext Hy H Hy' H' → Vl K H0 Hy' H' v d m F → (∀ a ∈ F, H a = none) → Q v H'
def DE (X : Cx) (T9 : List Addr) (e : Expr) (f : Sm) : Prop := PE X e (tD X.K T9 f)
theorem PE.mono {X : Cx} {e : Expr} {t t' : TE} (h : PE X e t) (k : ∀ σ H Q, t' σ H Q → t σ H Q) : PE X e t' := fun pins s σ H Q I q => h pins s σ H Q I (k σ H Q q)
theorem PA.mono {X : Cx} {e : List Expr} {t t' : TA} (h : PA X e t) (k : ∀ σ H Q, t' σ H Q → t σ H Q) : PA X e t' := fun pos pins s σ H Q I q => h pos pins s σ H Q I (k σ H Q q)
theorem PT.mono {X : Cx} {e : Expr} {t t' : TT} (h : PT X e t) (k : ∀ σ H Q, t' σ H Q → t σ H Q) : PT X e t' := fun pins s σ H Q I q => h pins s σ H Q I (k σ H Q q)
theorem PW.mono {X : Cx} {e : Expr} {t t' : TT} (h : PW X e t) (k : ∀ σ H Q, t' σ H Q → t σ H Q) : PW X e t' := fun whole pins s σ H Q I q => h whole pins s σ H Q I (k σ H Q q)
abbrev mF : Md := .own 2 true
section
variable {X : Cx} {T9 : List Addr}
def eVar (i : Nat) : Sm := fun ρ => match ρ[i]? with
  | some (some (d, n, y)) => some (d, if flatD d = true then mF else if n = 0 then .own 0 y else .bor)
  | _ => none
theorem SR.rp {K : Fg} {H0 Hy : Hp} {Fs : Nat → List Addr} {ρ : Env} {σ : L2.St} {H : Hp} (s : SR K T9 H0 Hy Fs ρ σ H) {i : Nat} {d : D} {n : Nat} {y : Bool} (h : ρ[i]? = some (some (d, n, y))) : ∃ v, σ[i]? = some (some v) ∧ Rp K H v d ∧ Own K (lf y H0 Hy) H n v d (Fs i) := by
  obtain ⟨v, h1, h2⟩ := s.slot i d n y h
  exact ⟨v, h1, h2.rp (lf_sub s.le.ol s.yng), h2⟩
theorem Vl.bor {K : Fg} {H0 Hy H : Hp} {v : V} {d : D} (h : Rp K H v d) : Vl K H0 Hy H v d .bor [] := ⟨h, fun _ _ e => (by cases e), .nil, (fun _ h => nomatch h), (fun _ h => nomatch h)⟩
theorem Vl.sh {K : Fg} {H0 Hy H : Hp} {v : V} {d : D} {y : Bool} (h : Rp K (lf y H0 Hy) v d) (s : Same (lf y H0 Hy) H) : Vl K H0 Hy H v d (.own 0 y) [] :=
  ⟨h.mono s, fun _ _ e => by cases e; exact ⟨rfl, h⟩, .nil, (fun _ h => nomatch h), (fun _ h => nomatch h)⟩
theorem de_var {i : Nat} {x : Str} {pos : Pos} (hN : X.N[i]? = some x) (hv : Vis X.env.scope x) (hd : (x == ("__debug__" : Str)) = false := by decide) (hcd : (x == ("__classdict__" : Str)) = false := by decide) : DE X T9 (.Name x pos) (eVar i) := by
  refine PE.mono (pe_var hN hv hd hcd) fun σ H Q ⟨H0, Hy, Fs, ρ, d, m, s, hf, k⟩ => ?_
  unfold eVar at hf
  split at hf
  · rename_i d' n y hρ
    obtain ⟨v, h1, h2, h3⟩ := SR.rp s hρ
    refine ⟨v, h1, ?_⟩
    have e0 := s.rfl
    by_cases hfl : flatD d' = true
    · rw [if_pos hfl] at hf; cases hf
      exact k v Hy H [] e0 (Vl.flat (h2.fl hfl) _ _) (fun _ h => nomatch h)
    · rw [if_neg hfl] at hf
      by_cases hn : n = 0
      · rw [if_pos hn] at hf; cases hf
        subst hn
        exact k v Hy H [] e0 (Vl.sh h3.2 (lf_sub s.le.ol s.yng)) (fun _ h => nomatch h)
      · rw [if_neg hn] at hf; cases hf
        exact k v Hy H [] e0 (Vl.bor h2) (fun _ h => nomatch h)
  · cases hf
def eC (d : D) : Sm := fun _ => some (d, mF)
theorem de_c {e : Expr} {v : V} {d : D} (h : PE X e (tC v)) (f : Fl v d) : DE X T9 e (eC d) :=
  PE.mono h fun σ H Q ⟨H0, Hy, Fs, ρ, d', m, s, hf, k⟩ => by
    cases hf
    exact k v Hy H [] s.rfl (Vl.flat f _ _) (fun _ h => nomatch h)
def eB2 (g : D → D → Option D) (fa fb : Sm) : Sm := fun ρ => (fa ρ).bind fun x => (fb ρ).bind fun y => (g x.1 y.1).map fun d => (d, mF)
theorem de_b2 {e a b : Expr} {r : R2} {g : D → D → Option D} {fa fb : Sm} (h : PE X e (tOp r (tD X.K T9 fa) (tD X.K T9 fb)))
    (hr : ∀ x y dx dy d H Q, Rp X.K H x dx → Rp X.K H y dy → g dx dy = some d → (∀ v, Fl v d → Q v H) → r x y H Q) : DE X T9 e (eB2 g fa fb) := by
  refine PE.mono h fun σ H Q ⟨H0, Hy, Fs, ρ, d, m, s, hf, k⟩ => ?_
  obtain ⟨⟨dx, mx⟩, h1, hf⟩ := Option.bind_eq_some_iff.mp hf
  obtain ⟨⟨dy, my⟩, h2, hf⟩ := Option.bind_eq_some_iff.mp hf
  obtain ⟨d', h3, hf⟩ := Option.map_eq_some_iff.mp hf
  cases hf
  refine ⟨H0, Hy, Fs, ρ, dx, mx, s, h1, fun x Hy1 H1 F1 e1 v1 f1 => ?_⟩
  have s1 := s.ext e1
  refine ⟨H0, Hy1, Fs, ρ, dy, my, s1, h2, fun y Hy2 H2 F2 e2 v2 f2 => ?_⟩
  refine hr x y dx dy d H2 Q (v1.rep.le e2.le) v2.rep h3 fun v f => ?_
  exact k v Hy2 H2 [] (e1.trans e2) (Vl.flat f _ _) (fun _ h => nomatch h)
def gI (f : Int → Int → Option D) : D → D → Option D := fun x y => match x, y with | .int i, .int j => f i j | _, _ => none
theorem gI_of {f : Int → Int → Option D} {dx dy d : D} (h : gI f dx dy = some d) : ∃ i j, dx = .int i ∧ dy = .int j ∧ f i j = some d := by
  unfold gI at h
  split at h
  · exact ⟨_, _, rfl, rfl, h⟩
  · cases h
theorem Rp.int_inv {K : Fg} {H : Hp} {v : V} {i : Int} (h : Rp K H v (.int i)) : v = .int i := by cases h; rfl
theorem Rp.bl_inv {K : Fg} {H : Hp} {v : V} {i : Bool} (h : Rp K H v (.bool i)) : v = .bl i := by cases h; rfl
theorem de_int2 {e : Expr} {C : Int → Int → Prop} [∀ i j, Decidable (C i j)] {g : Int → Int → V} {gd : Int → Int → D} {fa fb : Sm} (h : PE X e (tOp (rI C g) (tD X.K T9 fa) (tD X.K T9 fb))) (hg : ∀ i j, Fl (g i j) (gd i j)) :
    DE X T9 e (eB2 (gI fun i j => if C i j then some (gd i j) else none) fa fb) :=
  de_b2 (a := e) (b := e) h fun x y dx dy d H Q rx ry hgd k => by
    obtain ⟨i, j, rfl, rfl, hc⟩ := gI_of hgd
    by_cases c : C i j
    · rw [if_pos c] at hc; cases hc
      exact ⟨i, j, rx.int_inv, ry.int_inv, c, k _ (hg i j)⟩
    · rw [if_neg c] at hc; cases hc
theorem de_int0 {e : Expr} {g : Int → Int → V} {gd : Int → Int → D} {fa fb : Sm} (h : PE X e (tOp (rI0 g) (tD X.K T9 fa) (tD X.K T9 fb))) (hg : ∀ i j, Fl (g i j) (gd i j)) : DE X T9 e (eB2 (gI fun i j => some (gd i j)) fa fb) :=
  de_b2 (a := e) (b := e) h fun x y dx dy d H Q rx ry hgd k => by
    obtain ⟨i, j, rfl, rfl, hc⟩ := gI_of hgd
    cases hc
    exact ⟨i, j, rx.int_inv, ry.int_inv, k _ (hg i j)⟩
section
variable {a b c : Expr} {pos : Pos} {fa fb fc : Sm}
abbrev gAdd := gI fun i j => some (.int (i + j))
abbrev gSub := gI fun i j => some (.int (i - j))
def mulOk (i j : Int) : Prop := IntMulOk i j
instance (i j : Int) : Decidable (mulOk i j) := by unfold mulOk IntMulOk; exact inferInstance
abbrev gMul := gI fun i j => if mulOk i j then some (.int (i * j)) else none
abbrev gDiv := gI fun i j => if j ≠ 0 ∧ j.natAbs < 1073741824 then some (.int (i.fdiv j)) else none
abbrev gMod := gI fun i j => if j ≠ 0 then some (.int (i.fmod j)) else none
abbrev gPow := gI fun i j => if 0 ≤ j ∧ j ≤ 1000000 ∧ i.natAbs < 2 ^ 64 then some (.int (i ^ j.toNat)) else none
abbrev gGe := gI fun i j => some (.bool (decide (j ≤ i)))
theorem op_mulM : OpR X (binaryOp .Mult) (rI mulOk fun i j => .int (i * j)) := opI fun _ _ _ _ _ _ _ hc q => mul_int q hc
theorem de_add (ha : DE X T9 a fa) (hb : DE X T9 b fb) : DE X T9 (.BinOp a .Add b pos) (eB2 gAdd fa fb) := de_int0 (pe_op op_add ha hb) fun _ _ => .int _
theorem de_sub (ha : DE X T9 a fa) (hb : DE X T9 b fb) : DE X T9 (.BinOp a .Sub b pos) (eB2 gSub fa fb) := de_int0 (pe_op op_sub ha hb) fun _ _ => .int _
theorem de_mul (ha : DE X T9 a fa) (hb : DE X T9 b fb) : DE X T9 (.BinOp a .Mult b pos) (eB2 gMul fa fb) := de_int2 (pe_op op_mulM ha hb) fun _ _ => .int _
theorem de_fdiv (ha : DE X T9 a fa) (hb : DE X T9 b fb) : DE X T9 (.BinOp a .FloorDiv b pos) (eB2 gDiv fa fb) :=
  de_int2 (C := fun _ j => j ≠ 0 ∧ j.natAbs < 1073741824) (pe_op op_fdivN ha hb) fun _ _ => .int _
theorem de_mod (ha : DE X T9 a fa) (hb : DE X T9 b fb) : DE X T9 (.BinOp a .Mod b pos) (eB2 gMod fa fb) := de_int2 (C := fun _ j => j ≠ 0) (pe_op op_modN ha hb) fun _ _ => .int _
theorem de_pow (ha : DE X T9 a fa) (hb : DE X T9 b fb) : DE X T9 (.BinOp a .Pow b pos) (eB2 gPow fa fb) :=
  de_int2 (C := fun i j => 0 ≤ j ∧ j ≤ 1000000 ∧ i.natAbs < 2 ^ 64) (pe_op op_pow ha hb) fun _ _ => .int _
theorem de_ge (ha : DE X T9 a fa) (hb : DE X T9 b fb) : DE X T9 (.Compare a [.GtE] [b] pos) (eB2 gGe fa fb) := de_int0 (pe_cmpR op_ge ha hb (nomark _)) fun _ _ => .bl _
mutual
def noDict : D → Bool
  | .list xs => noDictA xs
  | .tuple xs => noDictA xs
  | .dict _ => false
  | _ => true
def noDictA : List D → Bool
  | [] => true
  | x :: xs => noDict x && noDictA xs
end
mutual
theorem Rp.dp {K : Fg} {H : Hp} : ∀ {v : V} {d : D}, Rp K H v d → noDict d = true → Dp K H v d
  | _, _, .non, _ => .non
  | _, _, .bl b, _ => .bl b
  | _, _, .int i, _ => .int i
  | _, _, .str x, _ => .str x
  | _, _, .lst h r, n => .lst h (RpA.dp r (by simpa [noDict] using n))
  | _, _, .tup h r, n => .tup h (RpA.dp r (by simpa [noDict] using n))
  | _, _, .dct h, n => by simp [noDict] at n
theorem RpA.dp {K : Fg} {H : Hp} : ∀ {v : List V} {d : List D}, RpA K H v d → noDictA d = true → DpAll K H v d
  | _, _, .nil, _ => .nil
  | _, _, .cons h r, n => by
    simp only [noDictA, Bool.and_eq_true] at n
    exact .cons (Rp.dp h n.1) (RpA.dp r n.2)
end
def eqOk (d : D) : Bool := SeqAt.shaped d && noDict d
def gEq : D → D → Option D := fun x y => if eqOk x = true ∧ eqOk y = true then some (.bool (PyData.eqv x y)) else none
def gNe : D → D → Option D := fun x y => if eqOk x = true ∧ eqOk y = true then some (.bool (!PyData.eqv x y)) else none
theorem eqOk_of {d : D} (h : eqOk d = true) : SeqAt.shaped d = true ∧ noDict d = true := by simpa [eqOk] using h
theorem de_eq (hu : X.A.units + 64 < cLine) (ha : DE X T9 a fa) (hb : DE X T9 b fb) : DE X T9 (.Compare a [.Eq] [b] pos) (eB2 gEq fa fb) :=
  de_b2 (a := a) (b := b) (pe_cmpR (op_eqD hu) ha hb (nomark _)) fun x y dx dy d H Q rx ry hgd k => by
    unfold gEq at hgd
    split at hgd
    · rename_i h
      cases hgd
      obtain ⟨h1, h2⟩ := eqOk_of h.1
      obtain ⟨h3, h4⟩ := eqOk_of h.2
      exact ⟨dx, dy, rx.dp h2, ry.dp h4, h1, h3, k _ (.bl _)⟩
    · cases hgd
def eCh (p q : Int → Int → Bool) (fa fb fc : Sm) : Sm := fun ρ => (fa ρ).bind fun x => (fb ρ).bind fun y => match x.1, y.1 with
  | .int i, .int j => if p i j = true then (fc ρ).bind fun z => match z.1 with | .int l => some (.bool (q j l), mF) | _ => none else some (.bool false, mF)
  | _, _ => none
theorem de_chain {op op' : CmpOp} {p q : Int → Int → Bool} (ho : OpR X (compareOp op) (rI0 fun i j => .bl (p i j))) (ho' : OpR X (compareOp op') (rI0 fun i j => .bl (q i j))) (ha : DE X T9 a fa) (hb : DE X T9 b fb) (hc : DE X T9 c fc)
    (hm : lastMarks [op, op'] [b, c] = false := by with_unfolding_all rfl) : DE X T9 (.Compare a [op, op'] [b, c] pos) (eCh p q fa fb fc) := by
  refine PE.mono (pe_chain ho ho' ha hb hc hm) fun σ H Q ⟨H0, Hy, Fs, ρ, d, m, s, hf, k⟩ => ?_
  obtain ⟨⟨dx, mx⟩, h1, hf⟩ := Option.bind_eq_some_iff.mp hf
  obtain ⟨⟨dy, my⟩, h2, hf⟩ := Option.bind_eq_some_iff.mp hf
  simp only at hf
  split at hf
  · rename_i i j _
    refine ⟨H0, Hy, Fs, ρ, _, mx, s, h1, fun x Hy1 H1 F1 e1 v1 f1 => ?_⟩
    have s1 := s.ext e1
    refine ⟨H0, Hy1, Fs, ρ, _, my, s1, h2, fun y Hy2 H2 F2 e2 v2 f2 => ?_⟩
    have s2 := s1.ext e2
    refine ⟨i, j, (v1.rep.le e2.le).int_inv, v2.rep.int_inv, p i j, rfl, ?_⟩
    by_cases hp : p i j = true
    · rw [if_pos hp] at hf ⊢
      obtain ⟨⟨dz, mz⟩, h3, hf⟩ := Option.bind_eq_some_iff.mp hf
      simp only at hf
      split at hf
      · rename_i l
        cases hf
        refine ⟨H0, Hy2, Fs, ρ, _, mz, s2, h3, fun z Hy3 H3 F3 e3 v3 f3 => ?_⟩
        exact ⟨j, l, (v2.rep.le e3.le).int_inv, v3.rep.int_inv, k _ Hy3 H3 [] ((e1.trans e2).trans e3) (Vl.flat (.bl _) _ _) (fun _ h => nomatch h)⟩
      · cases hf
    · rw [if_neg hp] at hf ⊢
      cases hf
      exact k _ Hy2 H2 [] (e1.trans e2) (Vl.flat (by have : p i j = false := by simpa using hp
                                                     first | (rw [this]; exact .bl _) | exact .bl _) _ _) (fun _ h => nomatch h)
  · cases hf
def eU1 (g : D → Option D) (fa : Sm) : Sm := fun ρ => (fa ρ).bind fun x => (g x.1).map fun d => (d, mF)
def gNeg : D → Option D := fun x => match x with | .int i => some (.int (-i)) | _ => none
def gNot : D → Option D := fun x => match x with | .bool i => some (.bool (!i)) | _ => none
theorem de_neg (ha : DE X T9 a fa) : DE X T9 (.UnaryOp .USub a pos) (eU1 gNeg fa) := by
  refine PE.mono (pe_un un_neg ha) fun σ H Q ⟨H0, Hy, Fs, ρ, d, m, s, hf, k⟩ => ?_
  obtain ⟨⟨dx, mx⟩, h1, hf⟩ := Option.bind_eq_some_iff.mp hf
  obtain ⟨d', h3, hf⟩ := Option.map_eq_some_iff.mp hf
  cases hf
  unfold gNeg at h3
  split at h3
  · rename_i i e; cases e; cases h3
    refine ⟨H0, Hy, Fs, ρ, _, mx, s, h1, fun x Hy1 H1 F1 e1 v1 f1 => ⟨i, v1.rep.int_inv, k _ Hy1 H1 [] e1 (Vl.flat (.int _) _ _) (fun _ h => nomatch h)⟩⟩
  · cases h3
theorem de_not (ha : DE X T9 a fa) : DE X T9 (.UnaryOp .Not a pos) (eU1 gNot fa) := by
  refine PE.mono (pe_not ha) fun σ H Q ⟨H0, Hy, Fs, ρ, d, m, s, hf, k⟩ => ?_
  obtain ⟨⟨dx, mx⟩, h1, hf⟩ := Option.bind_eq_some_iff.mp hf
  obtain ⟨d', h3, hf⟩ := Option.map_eq_some_iff.mp hf
  cases hf
  unfold gNot at h3
  split at h3
  · rename_i i e; cases e; cases h3
    refine ⟨H0, Hy, Fs, ρ, _, mx, s, h1, fun x Hy1 H1 F1 e1 v1 f1 => ⟨i, v1.rep.bl_inv, k _ Hy1 H1 [] e1 (Vl.flat (.bl _) _ _) (fun _ h => nomatch h)⟩⟩
  · cases h3
def eAnd (fa fb : Sm) : Sm := fun ρ => (fa ρ).bind fun x => match x.1 with | .bool true => fb ρ | .bool false => some (.bool false, mF) | _ => none
theorem de_one {op : BoolOp} (ha : DE X T9 a fa) : DE X T9 (.BoolOp op [a] pos) fa := pe_one ha
theorem de_and {rest : List Expr} (ha : DE X T9 a fa) (hb : DE X T9 (.BoolOp .And (b :: rest) pos) fb) : DE X T9 (.BoolOp .And (a :: b :: rest) pos) (eAnd fa fb) := by
  refine PE.mono (pe_and ha hb) fun σ H Q ⟨H0, Hy, Fs, ρ, d, m, s, hf, k⟩ => ?_
  obtain ⟨⟨dx, mx⟩, h1, hf⟩ := Option.bind_eq_some_iff.mp hf
  simp only at hf
  refine ⟨H0, Hy, Fs, ρ, _, mx, s, h1, fun x Hy1 H1 F1 e1 v1 f1 => ?_⟩
  split at hf
  · refine ⟨true, v1.rep.bl_inv, ?_⟩
    rw [if_pos rfl]
    exact ⟨H0, Hy1, Fs, ρ, d, m, s.ext e1, hf, fun v Hy2 H2 F2 e2 v2 f2 => k v Hy2 H2 F2 (e1.trans e2) v2 fun a ha => e1.le.fr (f2 a ha)⟩
  · cases hf
    refine ⟨false, v1.rep.bl_inv, ?_⟩
    exact k _ Hy1 H1 [] e1 (Vl.flat (.bl _) _ _) (fun _ h => nomatch h)
  · cases hf
end
abbrev Tm := Env → Option Bool
def tDT (K : Fg) (T9 : List Addr) (f : Tm) : TT := fun σ H Q => ∃ H0 Hy Fs ρ b, SR K T9 H0 Hy Fs ρ σ H ∧ f ρ = some b ∧ ∀ Hy' H', Ext Hy H Hy' H' → Q b H'
def DT (X : Cx) (T9 : List Addr) (e : Expr) (f : Tm) : Prop := PT X e (tDT X.K T9 f)
def DW (X : Cx) (T9 : List Addr) (e : Expr) (f : Tm) : Prop := PW X e (tDT X.K T9 f)
def tV (fa : Sm) : Tm := fun ρ => (fa ρ).bind fun x => match x.1 with | .bool b => some b | _ => none
def tN (f : Tm) : Tm := fun ρ => (f ρ).map fun b => !b
def tO2 (f g : Tm) : Tm := fun ρ => (f ρ).bind fun b => if b = true then some true else g ρ
section
variable {a b c : Expr} {pos : Pos} {fa fb fc : Sm} {ta tb : Tm}
theorem dt_val (ha : DE X T9 a fa) (he : ∀ whole, isTrue a X.env whole = (do let v ← whole; standAt a.pos; holding [v] (truthy v)) := by intro _; rfl) : DT X T9 a (tV fa) := by
  refine PT.mono (pt_val ha he) fun σ H Q ⟨H0, Hy, Fs, ρ, b, s, hf, k⟩ => ?_
  obtain ⟨⟨dx, mx⟩, h1, hf⟩ := Option.bind_eq_some_iff.mp hf
  simp only at hf
  refine ⟨H0, Hy, Fs, ρ, _, mx, s, h1, fun x Hy1 H1 F1 e1 v1 f1 => ?_⟩
  split at hf
  · cases hf
    exact ⟨_, v1.rep.bl_inv, k Hy1 H1 e1⟩
  · cases hf
theorem dt_not (ha : DT X T9 a ta) : DT X T9 (.UnaryOp .Not a pos) (tN ta) := by
  refine PT.mono (pt_not ha) fun σ H Q ⟨H0, Hy, Fs, ρ, b, s, hf, k⟩ => ?_
  obtain ⟨c, h1, hf⟩ := Option.map_eq_some_iff.mp hf
  subst hf
  exact ⟨H0, Hy, Fs, ρ, c, s, h1, fun Hy1 H1 e1 => k Hy1 H1 e1⟩
theorem dw_or1 (ha : DT X T9 a ta) : DW X T9 (.BoolOp .Or [a] pos) ta := pw_or1 ha
theorem dw_or {rest : List Expr} (ha : DT X T9 a ta) (hb : DW X T9 (.BoolOp .Or (b :: rest) pos) tb) : DW X T9 (.BoolOp .Or (a :: b :: rest) pos) (tO2 ta tb) := by
  refine PW.mono (pw_or ha hb) fun σ H Q ⟨H0, Hy, Fs, ρ, b, s, hf, k⟩ => ?_
  obtain ⟨c, h1, hf⟩ := Option.bind_eq_some_iff.mp hf
  refine ⟨H0, Hy, Fs, ρ, c, s, h1, fun Hy1 H1 e1 => ?_⟩
  by_cases hc : c = true
  · rw [if_pos hc] at hf ⊢
    cases hf
    exact k Hy1 H1 e1
  · rw [if_neg hc] at hf ⊢
    exact ⟨H0, Hy1, Fs, ρ, b, s.ext e1, hf, fun Hy2 H2 e2 => k Hy2 H2 (e1.trans e2)⟩
theorem DW.dt (h : DW X T9 a ta) : DT X T9 a ta := PW.pt h
end
end
end EV
namespace EV
open PySem PySem.Spec PyProof.Rows L2
inductive VlA (K : Fg) (H0 Hy H : Hp) : List V → List (D × Md) → List Addr → Prop
  | nil : VlA K H0 Hy H [] [] []
  | cons {v : V} {vs : List V} {d : D} {m : Md} {r : List (D × Md)} {F G : List Addr} : Vl K H0 Hy H v d m F → VlA K H0 Hy H vs r G → (∀ a ∈ F, a ∉ G) → VlA K H0 Hy H (v :: vs) ((d, m) :: r) (F ++ G)
section
variable {K : Fg} {H0 Hy H : Hp}
theorem VlA.rpA : ∀ {vs r F}, VlA K H0 Hy H vs r F → RpA K H vs (r.map (·.1))
  | _, _, _, .nil => .nil
  | _, _, _, .cons h r _ => .cons h.rep r.rpA
theorem VlA.lst : ∀ {vs r F}, VlA K H0 Hy H vs r F → ∀ a ∈ F, ∃ xs, H a = some (.lst xs)
  | _, _, _, .nil, _, h => nomatch h
  | _, _, _, .cons h r _, a, ha => (List.mem_append.mp ha).elim (h.lst a) (r.lst a)
theorem VlA.hy : ∀ {vs r F}, VlA K H0 Hy H vs r F → ∀ a ∈ F, Hy a = none
  | _, _, _, .nil, _, h => nomatch h
  | _, _, _, .cons h r _, a, ha => (List.mem_append.mp ha).elim (h.hy a) (r.hy a)
theorem VlA.nod : ∀ {vs r F}, VlA K H0 Hy H vs r F → F.Nodup
  | _, _, _, .nil => .nil
  | _, _, _, .cons h r n => List.nodup_append.mpr ⟨h.nod, r.nod, fun a ha b hb e => n a ha (e ▸ hb)⟩
end
abbrev Sa := Env → Option (List (D × Md))
def tDA (K : Fg) (T9 : List Addr) (f : Sa) : TA := fun σ H Q => ∃ H0 Hy Fs ρ r, SR K T9 H0 Hy Fs ρ σ H ∧ f ρ = some r ∧ ∀ vs Hy' H' F, Ext Hy H Hy' H' → VlA K H0 Hy' H' vs r F → (∀ a ∈ F, H a = none) → Q vs H'
def DA (X : Cx) (T9 : List Addr) (es : List Expr) (f : Sa) : Prop := PA X es (tDA X.K T9 f)
def aNil : Sa := fun _ => some []
def aCons (fa : Sm) (fr : Sa) : Sa := fun ρ => (fa ρ).bind fun x => (fr ρ).bind fun r => some (x :: r)
section
variable {X : Cx} {T9 : List Addr}
theorem da_nil : DA X T9 [] aNil := PA.mono pa_nil fun σ H Q ⟨H0, Hy, Fs, ρ, r, s, hf, k⟩ => by
  cases hf
  exact k [] Hy H [] s.rfl .nil (fun _ h => nomatch h)
theorem da_cons {e : Expr} {es : List Expr} {fa : Sm} {fr : Sa} (ha : DE X T9 e fa) (hr : DA X T9 es fr) (hs : starEach (e :: es) X.env = (false, eval e X.env) :: starEach es X.env := by rfl) : DA X T9 (e :: es) (aCons fa fr) := by
  refine PA.mono (pa_cons ha hr hs) fun σ H Q ⟨H0, Hy, Fs, ρ, r, s, hf, k⟩ => ?_
  obtain ⟨⟨dx, mx⟩, h1, hf⟩ := Option.bind_eq_some_iff.mp hf
  obtain ⟨r', h2, hf⟩ := Option.bind_eq_some_iff.mp hf
  cases hf
  refine ⟨H0, Hy, Fs, ρ, dx, mx, s, h1, fun x Hy1 H1 F1 e1 v1 f1 => ?_⟩
  have s1 := s.ext e1
  refine ⟨H0, Hy1, Fs, ρ, r', s1, h2, fun xs Hy2 H2 F2 e2 v2 f2 => ?_⟩
  have s2 := s1.ext e2
  refine k (x :: xs) Hy2 H2 (F1 ++ F2) (e1.trans e2) (.cons (v1.ext e2 s2.sep) v2 fun a ha hb => ?_) fun a ha => (List.mem_append.mp ha).elim (f1 a) fun z => e1.le.fr (f2 a z)
  obtain ⟨zs, q⟩ := v1.lst a ha
  rw [f2 a hb] at q; cases q
def lvl1 : List (D × Md) → Bool
  | [] => true
  | (d, m) :: r => (flatD d || (match m with | .own 1 _ => true | _ => false)) && lvl1 r
def yAll : List (D × Md) → Bool
  | [] => true
  | (d, m) :: r => (flatD d || (match m with | .own _ y => y | _ => false)) && yAll r
def elOk : List (D × Md) → Bool
  | [] => true
  | (d, m) :: r => (flatD d || (match m with | .own _ _ => true | _ => false)) && elOk r
def flA : List (D × Md) → Bool
  | [] => true
  | (d, _) :: r => flatD d && flA r
def mkL (r : List (D × Md)) : Option Md := if flA r = true then some (.own 1 true) else if lvl1 r = true then some (.own 2 (yAll r)) else if elOk r = true then some (.own 1 (yAll r)) else none
def mkT (r : List (D × Md)) : Option Md := if elOk r = true then some (.own 0 (yAll r)) else none
section
variable {K : Fg} {H0 Hy H : Hp}
theorem lf_le {y Y : Bool} (h : Y = true → y = true) : Same (lf y H0 Hy) (lf Y H0 Hy) := by
  cases Y with
  | false => exact lf_ff
  | true => rw [h rfl]; exact Same.refl _
theorem own_flA : ∀ {vs r F} (n : Nat) (L : Hp), VlA K H0 Hy H vs r F → flA r = true → OwL (Own K L H n) vs (r.map (·.1)) []
  | _, _, _, _, _, .nil, _ => .nil
  | _, _, _, n, L, .cons (d := d) h r _, f => by
    simp only [flA, Bool.and_eq_true] at f
    have q : OwL (Own K L H n) _ _ ([] ++ []) := .cons (Own.flat (h.rep.fl f.1) n) (own_flA n L r f.2)
    exact q
theorem own_lvl1 : ∀ {vs r F} {Y : Bool}, VlA K H0 Hy H vs r F → lvl1 r = true → (Y = true → yAll r = true) → ∃ G, OwL (Own K (lf Y H0 Hy) H 1) vs (r.map (·.1)) G ∧ (∀ a ∈ G, a ∈ F) ∧ G.Nodup
  | _, _, _, _, .nil, _, _ => ⟨[], .nil, fun _ h => h, .nil⟩
  | _, _, _, Y, .cons (v := v) (d := d) (m := m) (F := F) h r n, f, y => by
    simp only [lvl1, Bool.and_eq_true, Bool.or_eq_true] at f
    obtain ⟨G, g1, g2, g3⟩ := own_lvl1 (Y := Y) r f.2 fun z => by
      have := y z
      simp only [yAll, Bool.and_eq_true] at this
      exact this.2
    rcases f.1 with q | q
    · have w : OwL (Own K (lf Y H0 Hy) H 1) _ _ ([] ++ G) := .cons (Own.flat (h.rep.fl q) 1) g1
      exact ⟨G, w, fun a ha => List.mem_append_right _ (g2 a ha), g3⟩
    · split at q
      · rename_i y' 
        have hy : Y = true → y' = true ∨ flatD d = true := fun z => by
          have := y z
          simp only [yAll, Bool.and_eq_true, Bool.or_eq_true] at this
          exact this.1.elim .inr .inl
        have ho := h.own 1 y' rfl
        have ho' : ∃ F', Own K (lf Y H0 Hy) H 1 v d F' ∧ (∀ a ∈ F', a ∈ F) ∧ F'.Nodup := by
          by_cases hf : flatD d = true
          · exact ⟨[], Own.flat (h.rep.fl hf) 1, (fun _ h => nomatch h), .nil⟩
          · exact ⟨F, ho.mono (lf_le fun z => (hy z).elim id fun w => absurd w hf) fun _ _ _ e => e, fun _ h => h, h.nod⟩
        obtain ⟨F', o1, o2, o3⟩ := ho'
        exact ⟨F' ++ G, .cons o1 g1, fun a ha => (List.mem_append.mp ha).elim (fun z => List.mem_append_left _ (o2 a z)) fun z => List.mem_append_right _ (g2 a z),
          List.nodup_append.mpr ⟨o3, g3, fun a ha b hb e => n a (o2 a ha) (e ▸ g2 b hb)⟩⟩
      · cases q
theorem share_rpA : ∀ {vs r F} {Y : Bool} {M : Hp}, VlA K H0 Hy H vs r F → elOk r = true → (Y = true → yAll r = true) → Same Hy M → (∀ a, M a ≠ none → H0 a = none) → (∀ a ∈ F, M a = H a) → RpA K (lf Y H0 M) vs (r.map (·.1))
  | _, _, _, _, _, .nil, _, _, _, _, _ => .nil
  | _, _, _, Y, M, .cons (d := d) (m := m) (F := F) h r n, f, y, sm, sp, k => by
    simp only [elOk, Bool.and_eq_true, Bool.or_eq_true] at f
    have rest := share_rpA (Y := Y) (M := M) r f.2 (fun z => by
      have := y z
      simp only [yAll, Bool.and_eq_true] at this
      exact this.2) sm sp fun a ha => k a (List.mem_append_right _ ha)
    refine .cons ?_ rest
    by_cases hf : flatD d = true
    · exact (h.rep.fl hf).rp
    · rcases f.1 with q | q
      · exact absurd q hf
      · split at q
        · rename_i n' y'
          have hy : Y = true → y' = true := fun z => by
            have := y z
            simp only [yAll, Bool.and_eq_true, Bool.or_eq_true] at this
            exact this.1.elim (fun w => absurd w hf) id
          refine ((h.own n' y' rfl).give (lf_mono sm sp) fun a ha => ?_).mono (lf_le hy)
          obtain ⟨xs, e⟩ := h.lst a ha
          have e2 : M a = some (.lst xs) := (k a (List.mem_append_left _ ha)).trans e
          rw [lf_any a _ e2, e]
        · cases q
theorem cut_sm {F : List Addr} (s : Same Hy H) : Same (cut Hy H F) H := fun b o e => by
  by_cases hb : b ∈ F
  · rw [cut_in hb] at e; exact e
  · rw [cut_out hb] at e; exact s b o e
theorem give_ext {Hyb Hb : Hp} {F : List Addr} (e : Ext Hyb Hb Hy H) (hy : ∀ a ∈ F, Hy a = none) (hf : ∀ a ∈ F, Hb a = none) (hl : ∀ a ∈ F, ∃ xs, H a = some (.lst xs)) : Ext Hyb Hb (cut Hy H F) H := by
  refine ⟨e.le, e.yn.trans (cut_same hy), cut_sm e.sm, fun a o h => ?_, fun a h => ?_⟩
  · by_cases ha : a ∈ F
    · rw [cut_in ha] at h
      obtain ⟨xs, q⟩ := hl a ha
      rw [h] at q; cases q
      intro ps z; cases z
    · rw [cut_out ha] at h; exact e.nt a o h
  by_cases ha : a ∈ F
  · exact .inr (hf a ha)
  · rw [cut_out ha] at h; exact e.nw a h
theorem mk_list {Hyb Hb : Hp} {vs : List V} {r : List (D × Md)} {F : List Addr} {p : Addr} {m : Md} (e : Ext Hyb Hb Hy H) (l0 : Le H0 Hb) (sp : ∀ a, Hy a ≠ none → H0 a = none) (va : VlA K H0 Hy H vs r F) (hf : ∀ a ∈ F, Hb a = none) (hp : H p = none) (hm : mkL r = some m) :
    ∃ Hy' F', Ext Hyb Hb Hy' (upd H p (.lst vs)) ∧ Vl K H0 Hy' (upd H p (.lst vs)) (.ref p) (.list (r.map (·.1))) m F' ∧ ∀ a ∈ F', Hb a = none := by
  have hpb : Hb p = none := e.le.fr hp
  have pF : ∀ a ∈ F, a ≠ p := fun a ha z => by
    obtain ⟨xs, q⟩ := va.lst a ha
    rw [z, hp] at q; cases q
  have pHy : Hy p = none := by
    cases q : Hy p with
    | none => rfl
    | some o => rw [e.sm p o q] at hp; cases hp
  have su : ∀ M : Hp, Same M H → Same M (upd H p (.lst vs)) := fun M s b o q => by
    rw [upd_ne (ne_of_none (s b o q) hp)]; exact s b o q
  have kp : ∀ a ∈ F, ∀ xs, H a = some (.lst xs) → (upd H p (.lst vs)) a = some (.lst xs) := fun a ha xs q => by rw [upd_ne (pF a ha)]; exact q
  have lu : Le Hb (upd H p (.lst vs)) := e.le.trans (Le.upd hp)
  have rep : Rp K (upd H p (.lst vs)) (.ref p) (.list (r.map (·.1))) := .lst (SqL.of upd_same) (va.rpA.le (Le.upd hp))
  unfold mkL at hm
  split at hm
  · rename_i h
    cases hm
    refine ⟨Hy, [p], ⟨lu, e.yn, su Hy e.sm, e.nt, e.nw⟩, ⟨rep, fun n y z => ?_, by simp, fun a ha => by rw [List.mem_singleton.mp ha]; exact pHy, fun a ha => by rw [List.mem_singleton.mp ha]; exact ⟨vs, upd_same⟩⟩, fun a ha => by rw [List.mem_singleton.mp ha]; exact hpb⟩
    cases z
    exact ⟨p, vs, [], rfl, rfl, upd_same, (own_flA 0 (lf true H0 Hy) va h).mono' fun v d G hG q => q.mono (Same.refl _) fun a ha => absurd (hG a ha) (by simp)⟩
  · split at hm
    · rename_i h
      cases hm
      obtain ⟨G, g1, g2, g3⟩ := own_lvl1 (Y := yAll r) va h id
      refine ⟨Hy, p :: G, ⟨lu, e.yn, su Hy e.sm, e.nt, e.nw⟩, ⟨rep, fun n y z => ?_, List.nodup_cons.mpr ⟨fun z => pF p (g2 p z) rfl, g3⟩, fun a ha => ?_, fun a ha => ?_⟩, fun a ha => ?_⟩
      · cases z
        exact ⟨p, vs, G, rfl, rfl, upd_same, g1.mono' fun v d G' hG q => q.mono (Same.refl _) fun a ha => kp a (g2 a (hG a ha))⟩
      · rcases List.mem_cons.mp ha with z | z
        · rw [z]; exact pHy
        · exact va.hy a (g2 a z)
      · rcases List.mem_cons.mp ha with z | z
        · rw [z]; exact ⟨vs, upd_same⟩
        · exact (va.lst a (g2 a z)).imp fun xs q => kp a (g2 a z) xs q
      · rcases List.mem_cons.mp ha with z | z
        · rw [z]; exact hpb
        · exact hf a (g2 a z)
    · split at hm
      · rename_i h
        cases hm
        have eg := give_ext e va.hy hf va.lst
        have sp' : ∀ a, cut Hy H F a ≠ none → H0 a = none := fun a ha => by
          by_cases hb : a ∈ F
          · exact l0.fr (hf a hb)
          · rw [cut_out hb] at ha; exact sp a ha
        have pc : cut Hy H F p = none := by rw [cut_out fun z => pF p z rfl]; exact pHy
        refine ⟨cut Hy H F, [p], ⟨lu, eg.yn, su _ eg.sm, eg.nt, eg.nw⟩, ⟨rep, fun n y z => ?_, by simp, fun a ha => by rw [List.mem_singleton.mp ha]; exact pc, fun a ha => by rw [List.mem_singleton.mp ha]; exact ⟨vs, upd_same⟩⟩, fun a ha => by rw [List.mem_singleton.mp ha]; exact hpb⟩
        cases z
        have ra := share_rpA (Y := yAll r) (M := cut Hy H F) va h id (cut_same va.hy) sp' fun a ha => cut_in ha
        have key : ∀ {vs : List V} {ds : List D}, RpA K (lf (yAll r) H0 (cut Hy H F)) vs ds → OwL (Own K (lf (yAll r) H0 (cut Hy H F)) (upd H p (.lst vs)) 0) vs ds [] := by
          intro vs' ds ra
          have : ∀ {us : List V} {ds : List D}, RpA K (lf (yAll r) H0 (cut Hy H F)) us ds → OwL (Own K (lf (yAll r) H0 (cut Hy H F)) (upd H p (.lst vs')) 0) us ds [] := by
            intro us ds ra
            induction us generalizing ds with
            | nil => cases ra; exact .nil
            | cons u us ih =>
              cases ra with
              | cons a b =>
                have q : OwL (Own K (lf (yAll r) H0 (cut Hy H F)) (upd H p (.lst vs')) 0) _ _ ([] ++ []) := .cons ⟨rfl, a⟩ (ih b)
                exact q
          exact this ra
        exact ⟨p, vs, [], rfl, rfl, upd_same, key ra⟩
      · cases hm
theorem mk_tup {Hyb Hb : Hp} {vs : List V} {r : List (D × Md)} {F : List Addr} {p : Addr} {m : Md} (e : Ext Hyb Hb Hy H) (l0 : Le H0 Hb) (sp : ∀ a, Hy a ≠ none → H0 a = none) (va : VlA K H0 Hy H vs r F) (hf : ∀ a ∈ F, Hb a = none) (hp : H p = none) (hm : mkT r = some m) :
    ∃ Hy' F', Ext Hyb Hb Hy' (upd H p (.tup vs)) ∧ Vl K H0 Hy' (upd H p (.tup vs)) (.ref p) (.tuple (r.map (·.1))) m F' ∧ ∀ a ∈ F', Hb a = none := by
  have hpb : Hb p = none := e.le.fr hp
  have pF : ∀ a ∈ F, a ≠ p := fun a ha z => by
    obtain ⟨xs, q⟩ := va.lst a ha
    rw [z, hp] at q; cases q
  have pHy : Hy p = none := by
    cases q : Hy p with
    | none => rfl
    | some o => rw [e.sm p o q] at hp; cases hp
  unfold mkT at hm
  split at hm
  · rename_i h
    cases hm
    have eg := give_ext e va.hy hf va.lst
    have pc : cut Hy H F p = none := by rw [cut_out fun z => pF p z rfl]; exact pHy
    have sp' : ∀ a, cut Hy H F a ≠ none → H0 a = none := fun a ha => by
      by_cases hb : a ∈ F
      · exact l0.fr (hf a hb)
      · rw [cut_out hb] at ha; exact sp a ha
    have sp2 : ∀ a, upd (cut Hy H F) p (.tup vs) a ≠ none → H0 a = none := fun a ha => by
      by_cases hb : a = p
      · rw [hb]; exact l0.fr hpb
      · rw [upd_ne hb] at ha; exact sp' a ha
    have s1 : Same (cut Hy H F) (upd (cut Hy H F) p (.tup vs)) := fun b o q => by rw [upd_ne (ne_of_none q pc)]; exact q
    have s2 : Same (upd (cut Hy H F) p (.tup vs)) (upd H p (.tup vs)) := fun b o q => by
      by_cases hb : b = p
      · rw [hb, upd_same] at q ⊢; exact q
      · rw [upd_ne hb] at q ⊢; exact eg.sm b o q
    have le2 : Le Hb (upd H p (.tup vs)) := e.le.trans (Le.upd hp)
    have ra := share_rpA (Y := yAll r) (M := cut Hy H F) va h id (cut_same va.hy) sp' fun a ha => cut_in ha
    refine ⟨upd (cut Hy H F) p (.tup vs), [], ⟨le2, eg.yn.trans s1, s2, fun a o h => ?_, fun a ha => ?_⟩, Vl.sh ?_ (lf_sub (fun b o q => le2.ol b o (l0.nts b o q)) s2), (fun _ h => nomatch h)⟩
    · by_cases hb : a = p
      · rw [hb, upd_same] at h; cases h
        intro ps z; cases z
      · rw [upd_ne hb] at h; exact eg.nt a o h
    · by_cases hb : a = p
      · rw [hb]; exact .inr hpb
      · rw [upd_ne hb] at ha; exact eg.nw a ha
    · exact .tup (SqT.of (lf_any p _ upd_same)) (ra.mono (lf_mono s1 sp2))
  · cases hm
end
def eLst (f : Sa) : Sm := fun ρ => (f ρ).bind fun r => if r.length ≤ 1000000 then (mkL r).map fun m => (.list (r.map (·.1)), m) else none
def eTup (f : Sa) : Sm := fun ρ => (f ρ).bind fun r => if r.length ≤ 1000000 then (mkT r).map fun m => (.tuple (r.map (·.1)), m) else none
theorem sz_ok {n : Nat} (h : n ≤ 1000000) : n ≤ sizeLine := Nat.le_trans h (by decide)
theorem VlA.len {K : Fg} {H0 Hy H : Hp} : ∀ {vs r F}, VlA K H0 Hy H vs r F → vs.length = r.length
  | _, _, _, .nil => rfl
  | _, _, _, .cons _ r _ => by rw [List.length_cons, List.length_cons, r.len]
theorem de_lst {es : List Expr} {pos : Pos} {f : Sa} (h : DA X T9 es f) : DE X T9 (.List es pos) (eLst f) := by
  refine PE.mono (pe_lst h) fun σ H Q ⟨H0, Hy, Fs, ρ, d, m, s, hf, k⟩ => ?_
  obtain ⟨r, h1, hf⟩ := Option.bind_eq_some_iff.mp hf
  split at hf
  · rename_i hz
    obtain ⟨m', hm, hf⟩ := Option.map_eq_some_iff.mp hf
    cases hf
    refine ⟨H0, Hy, Fs, ρ, r, s, h1, fun vs Hy1 H1 F1 e1 va f1 => ⟨by rw [va.len]; exact sz_ok hz, fun p hp => ?_⟩⟩
    obtain ⟨Hy2, F2, e2, v2, f2⟩ := mk_list e1 s.le (s.ext e1).sep va f1 hp hm
    exact k _ Hy2 _ F2 e2 v2 f2
  · cases hf
theorem de_tup {es : List Expr} {x1 : Nat} {pos : Pos} {f : Sa} (h : DA X T9 es f) : DE X T9 (.Tuple es x1 pos) (eTup f) := by
  refine PE.mono (pe_tup h) fun σ H Q ⟨H0, Hy, Fs, ρ, d, m, s, hf, k⟩ => ?_
  obtain ⟨r, h1, hf⟩ := Option.bind_eq_some_iff.mp hf
  split at hf
  · rename_i hz
    obtain ⟨m', hm, hf⟩ := Option.map_eq_some_iff.mp hf
    cases hf
    refine ⟨H0, Hy, Fs, ρ, r, s, h1, fun vs Hy1 H1 F1 e1 va f1 => ⟨by rw [va.len]; exact sz_ok hz, fun p hp => ?_⟩⟩
    obtain ⟨Hy2, F2, e2, v2, f2⟩ := mk_tup e1 s.le (s.ext e1).sep va f1 hp hm
    exact k _ Hy2 _ F2 e2 v2 f2
  · cases hf
end
end EV
namespace L2
open PySem PySem.Spec PyProof.Rows
section
variable {X : Cx}
def tLR (ta : TA) : TE := fun σ H Q => ta σ H fun vs H1 => ∃ j : Int, vs = [.int j] ∧ j ≤ 1000000 ∧ 0 ≤ j ∧ ∀ p, H1 p = none → Q (.ref p) (upd H1 p (.lst ((List.range j.toNat).map fun i => V.int (i : Nat))))
theorem pe_lrange {a : Expr} {ta : TA} {p p2 pos pos2 : Pos} (hc : X.calm = true) (hl : Gl X "list") (hml : X.mg "list" = none) (hg : Gl X "range") (hm : X.mg "range" = none) (ha : PA X [a] ta) (hs : starEach [a] X.env = [(false, eval a X.env)] := by rfl) :
    PE X (.Call (.Name "list" p) [.Call (.Name "range" p2) [a] [] pos2] [] pos) (tLR ta) := by
  intro pins s σ H Q I h
  refine wpAny_Call_Name_kw (ld_blt I hl hml PyProof.Rows.boot_list ?_)
  refine PyProof.Rows.callWith_type1 (T := "list") ?_
  show wpAny _ _ (spliced ((false, eval (.Call (.Name "range" p2) [a] [] pos2) X.env) :: backTo pos (starEach [] X.env))) _ _ s
  refine Calls.spliced_cons ?_
  refine wpAny_Call_Name_kw (ld_blt I hg hm PyProof.Rows.boot_range ?_)
  refine PyProof.Rows.callWith_type1 (T := "range") (thn (ha pos2 pins s σ H _ I h) fun us s1 ⟨vs, H1, I1, r1, q1⟩ => ?_) hs rfl
  obtain ⟨j, e, hj, hj2, q⟩ := q1
  subst e
  obtain ⟨u, rfl, ru⟩ := vals1 r1
  obtain ⟨t, rfl⟩ := ru
  refine call_range_1 ?_
  refine Calls.spliced_nil ?_
  have I2 := I1.kept (h' := s1.heap.push { cls := .type "range", data := .fields #[.int 0 s1.toks, .int j t, .int 1 (s1.toks + 1)] }) (t' := s1.toks + 1 + 1) fun b u e => Heap.get?_push_of_some _ e
  have hsz : Builtin.Range.rangeSize 0 j 1 = (j.toNat : Int) := by
    unfold Builtin.Range.rangeSize
    rw [if_pos (by decide)]
    split
    · rw [Int.ediv_one]; omega
    · omega
  refine call_list_range (n := j.toNat) (I2.ok.hd hc) (Heap.get?_push_size _ rfl) (small_one (by decide) (by decide) (by omega) (by omega)) hsz (Nat.le_trans (show j.toNat ≤ 1000000 by omega) (by decide)) fun h' tk acc' c' kp e it => ?_
  refine ⟨.ref _, _, I2.laid (t' := tk) (o := .lst ((List.range j.toNat).map fun i => V.int (i : Nat))) kp (Nat.le_refl _) ⟨?_, acc'.toList, c', ?_, by simpa using e⟩, rfl, q _ (I2.hok.fresh (Nat.le_refl _))⟩
  · rw [List.length_map, List.length_range]
    have : j.toNat ≤ 1000000 := by omega
    exact Nat.le_trans this (by decide)
  · obtain ⟨z1, z2⟩ := it
    have key : ∀ (n : Nat) (f : Nat → V) (l : List Value), l.length = n → (∀ i v, l[i]? = some v → RelV (f i) v) → Vals ((List.range n).map f) l := by
      intro n
      induction n with
      | zero =>
        intro f l hl _
        rw [List.length_eq_zero_iff.mp hl]; exact .nil
      | succ n ih =>
        intro f l hl hv
        cases l with
        | nil => simp at hl
        | cons x l =>
          rw [List.range_succ_eq_map, List.map_cons, List.map_map]
          exact .cons (hv 0 x rfl) (ih (fun i => f (i + 1)) l (by simpa using hl) fun i v e => hv (i + 1) v (by simpa using e))
    refine key j.toNat (fun i => V.int (i : Nat)) acc'.toList (by simpa using z1) fun i v e => ?_
    obtain ⟨t', q'⟩ := z2 i v (by simpa using e)
    exact ⟨t', by rw [q']; congr 1; omega⟩
def tRevL (K : PySem.W.Frag) (te : TE) : TE := fun σ H Q => te σ H fun x H1 => ∃ a xs, x = .ref a ∧ SqL K H1 a xs ∧ ∀ p, H1 p = none → Q (.ref p) (upd H1 p (.lst xs.reverse))
theorem pe_rev {e : Expr} {te : TE} {j : Nat} {p1 p2 p3 pos : Pos} (he : PE X e te) : PE X (.Subscript e (.Slice none none (some (.UnaryOp .USub (.Constant (.int 1) j p1) p2)) p3) pos) (tRevL X.K te) := by
  intro pins s σ H Q I h
  refine Subscript_ (thn (he pins s σ H _ I h) fun v s1 ⟨x, H1, I1, r1, q1⟩ => ?_)
  refine wpAny_Slice ?_
  rw [evalPart_none]
  refine wpAny_pure (wpAny_pure ?_)
  rw [evalPart_some]
  refine thn (pe_un un_neg (pe_int (X := X)) pins s1 σ H1 (fun v' H' => v' = .int (-1) ∧ H' = H1) I1 ⟨1, rfl, rfl, rfl⟩) fun vs s2 ⟨x2, H2, I2, r2, e2, e3⟩ => ?_
  subst e2 e3
  obtain ⟨a, xs, rfl, hx, q⟩ := q1
  cases r1
  obtain ⟨t2, rfl⟩ := r2
  have I4 : Inv X pins σ H2 { s2 with heap := s2.heap.push { cls := .type "slice", data := .fields #[.none, .none, .int (-1) t2] } } := I2.kept (t' := s2.toks) fun b ob q => Heap.get?_push_of_some _ q
  obtain ⟨its, r, ht, hz⟩ := I4.list hx
  have hlen := r.length
  refine tail_any (ops := [.ref a, .ref s2.heap.objs.size]) ht.isList.typeIs slot_list_getitem.lookup ?_ (by with_unfolding_all rfl)
  refine wpAny_getItem_list_slice ht.isList (Heap.IsSliceOf.new ..) .none .none (.int (-1) t2) (by simp) ?_ (by rw [List.size_toArray] <;> omega)
  rw [PySem.W.krv_pick]
  refine ⟨.ref _, _, I4.laid (t' := s2.toks) (o := .lst xs.reverse) (fun b ob q => Heap.get?_push_of_some _ q) (Nat.le_refl _) ⟨by rw [List.length_reverse]; exact hz, _, 0, Vals.reverse r, Heap.get?_push_size _ rfl⟩, rfl, q _ (I4.hok.fresh (Nat.le_refl _))⟩
def tLS (K : PySem.W.Frag) (ta : TA) : TE := fun σ H Q => ta σ H fun vs H1 => ∃ (a : Addr) (ns : List Int), vs = [.ref a] ∧ SqL K H1 a (ns.map V.int) ∧ ns.length ≤ 4000 ∧ Q (.int ((firstMet (fun i => ns.getD i 0) ns.length).length : Nat)) H1
theorem pe_lenset {a : Expr} {ta : TA} {p p2 pos pos2 : Pos} (hc : X.calm = true) (hl : Gl X "len") (hml : X.mg "len" = none) (hg : Gl X "set") (hm : X.mg "set" = none) (ha : PA X [a] ta) (hs : starEach [a] X.env = [(false, eval a X.env)] := by rfl) :
    PE X (.Call (.Name "len" p) [.Call (.Name "set" p2) [a] [] pos2] [] pos) (tLS X.K ta) := by
  intro pins s σ H Q I h
  refine wpAny_Call_Name_kw (ld_blt I hl hml PySem.boot_len ?_)
  refine PyProof.Rows.callWith_builtin1 (id := "len") ?_
  show wpAny _ _ (spliced ((false, eval (.Call (.Name "set" p2) [a] [] pos2) X.env) :: backTo pos (starEach [] X.env))) _ _ s
  refine Calls.spliced_cons ?_
  refine wpAny_Call_Name_kw (ld_blt I hg hm PyProof.Rows.boot_set ?_)
  refine PyProof.Rows.callWith_type1 (T := "set") (thn (ha pos2 pins s σ H _ I h) fun us s1 ⟨vs, H1, I1, r1, q1⟩ => ?_) hs rfl
  obtain ⟨l, ns, e, hx, hz, q⟩ := q1
  subst e
  obtain ⟨u, rfl, ru⟩ := vals1 r1
  cases ru
  obtain ⟨its, r, ht, hz'⟩ := I1.list hx
  have hi := intsAre_of r
  have hlen : its.length = ns.length := by have := r.length; rw [List.length_map] at this; exact this.symm
  refine PySem.call_set_list (items := its.toArray) (ns := ns) (I1.ok.hd hc) ht.isList (by simpa using hi) (by rw [List.size_toArray, hlen]; unfold scanBound; omega) fun h' tk hS hk => ?_
  refine Calls.spliced_nil ?_
  have hsz : its.toArray.size = ns.length := by rw [List.size_toArray, hlen]
  rw [hsz] at hS
  have I2 := I1.kept (h' := h') (t' := tk) fun b u e => hk b u (Heap.lt_size e) e
  obtain ⟨o, es, ep, t, ho, hex, hd, _, _, _, hf, hn⟩ := hS
  have hfl := firstMet_length_le (fun i => ns.getD i 0) ns.length
  refine PySem.call_len_set ho hex hd hf (by rw [hn]; omega) ?_
  rw [hn]
  exact ⟨.int _, H1, I2.tok _, ⟨_, rfl⟩, q⟩
end
end L2
namespace EV
open PySem PySem.Spec PyProof.Rows L2
section
variable {X : Cx} {T9 : List Addr} {a b c : Expr} {pos : Pos} {fa fb fc : Sm}
def ixD (x y : D) : Option D := match x, y with
  | .list ds, .int i => atI ds i
  | .tuple ds, .int i => atI ds i
  | _, _ => none
def mIx (m : Md) (d : D) : Md := if flatD d = true then mF else match m with | .own 0 y => .own 0 y | _ => .bor
def eIx (fa fb : Sm) : Sm := fun ρ => (fa ρ).bind fun x => (fb ρ).bind fun y => (ixD x.1 y.1).map fun d => (d, mIx x.2 d)
theorem RpA.at {K : Fg} {H : Hp} {vs : List V} {ds : List D} {i : Int} {d : D} (r : RpA K H vs ds) (h : atI ds i = some d) : ∃ v, atI vs i = some v ∧ Rp K H v d := by
  unfold atI at h ⊢
  obtain ⟨j, h1, h2⟩ := Option.bind_eq_some_iff.mp h
  obtain ⟨v, h3, h4⟩ := r.get h2
  exact ⟨v, by rw [r.len, h1]; exact h3, h4⟩
theorem ix_rd {K : Fg} {L H : Hp} (sl : Same L H) {x y : V} {dx dy d : D} (rx : Rp K L x dx) (ry : Rp K H y dy) (h : ixD dx dy = some d) {Q : VK} (k : ∀ v, Rp K L v d → Q v H) : rIx K x y H Q := by
  unfold ixD at h
  split at h
  · obtain rfl := ry.int_inv
    cases rx with
    | lst hs hr =>
      obtain ⟨v, h1, h2⟩ := hr.at h
      exact .inl ⟨_, _, _, v, rfl, rfl, Same.sqL sl hs, h1, k v h2⟩
  · obtain rfl := ry.int_inv
    cases rx with
    | tup hs hr =>
      obtain ⟨v, h1, h2⟩ := hr.at h
      exact .inr (.inl ⟨_, _, _, v, rfl, rfl, Same.sqT sl hs, h1, k v h2⟩)
  · cases h
theorem de_ix (ha : DE X T9 a fa) (hb : DE X T9 b fb) (hs : PlainIx b := by exact fun _ _ => rfl) : DE X T9 (.Subscript a b pos) (eIx fa fb) := by
  refine PE.mono (pe_ix ix_seq ha hb hs) fun σ H Q ⟨H0, Hy, Fs, ρ, d, m, s, hf, k⟩ => ?_
  obtain ⟨⟨dx, mx⟩, h1, hf⟩ := Option.bind_eq_some_iff.mp hf
  obtain ⟨⟨dy, my⟩, h2, hf⟩ := Option.bind_eq_some_iff.mp hf
  obtain ⟨d', h3, hf⟩ := Option.map_eq_some_iff.mp hf
  cases hf
  refine ⟨H0, Hy, Fs, ρ, dx, mx, s, h1, fun x Hy1 H1 F1 e1 v1 f1 => ?_⟩
  have s1 := s.ext e1
  refine ⟨H0, Hy1, Fs, ρ, dy, my, s1, h2, fun y Hy2 H2 F2 e2 v2 f2 => ?_⟩
  have s2 := s1.ext e2
  have e12 := e1.trans e2
  have v1' := v1.ext e2 s2.sep
  by_cases hfl : flatD d = true
  · refine ix_rd (Same.refl _) v1'.rep v2.rep h3 fun v r => ?_
    unfold mIx at k; rw [if_pos hfl] at k
    exact k v Hy2 H2 [] e12 (Vl.flat (r.fl hfl) _ _) (fun _ h => nomatch h)
  · unfold mIx at k; rw [if_neg hfl] at k
    split at k
    · rename_i yy hm
      have lo := lf_sub (y := yy) s2.le.ol s2.yng
      exact ix_rd lo (v1'.own 0 yy hm).2 v2.rep h3 fun v r => k v Hy2 H2 [] e12 (Vl.sh r lo) (fun _ h => nomatch h)
    · exact ix_rd (Same.refl _) v1'.rep v2.rep h3 fun v r => k v Hy2 H2 [] e12 (Vl.bor r) (fun _ h => nomatch h)
def mCp (m : Md) (ds : List D) : Md := if ds.all flatD = true then .own 1 true else match m with | .own 0 y => .own 1 y | _ => .bor
theorem ext_new {Hyb Hb Hy H : Hp} {p : Addr} {o : HO} (e : Ext Hyb Hb Hy H) (hp : H p = none) : Ext Hyb Hb Hy (upd H p o) :=
  ⟨e.le.trans (Le.upd hp), e.yn, fun b u q => by rw [upd_ne (ne_of_none (e.sm b u q) hp)]; exact e.sm b u q, e.nt, e.nw⟩
theorem owl0 {K : Fg} {L H : Hp} : ∀ {vs : List V} {ds : List D}, RpA K L vs ds → OwL (Own K L H 0) vs ds []
  | _, _, .nil => .nil
  | _, _, .cons a b => by
    have q : OwL (Own K L H 0) _ _ ([] ++ []) := .cons ⟨rfl, a⟩ (owl0 b)
    exact q
theorem rpA_flat {K : Fg} {H H' : Hp} : ∀ {vs : List V} {ds : List D}, RpA K H vs ds → ds.all flatD = true → RpA K H' vs ds
  | _, _, .nil, _ => .nil
  | _, _, .cons a b, h => by
    simp only [List.all_cons, Bool.and_eq_true] at h
    exact .cons (a.fl h.1).rp (rpA_flat b h.2)
theorem new_cp {K : Fg} {H0 Hy H : Hp} {p : Addr} {vs : List V} {ds : List D} {m : Md} (hp : H p = none) (pHy : Hy p = none) (ra : RpA K H vs ds) (rs : ∀ y, m = .own 0 y → RpA K (lf y H0 Hy) vs ds) :
    ∃ F, Vl K H0 Hy (upd H p (.lst vs)) (.ref p) (.list ds) (mCp m ds) F ∧ ∀ a ∈ F, a = p := by
  have rep : Rp K (upd H p (.lst vs)) (.ref p) (.list ds) := .lst (SqL.of upd_same) (ra.le (Le.upd hp))
  have one : ∀ y, RpA K (lf y H0 Hy) vs ds → Vl K H0 Hy (upd H p (.lst vs)) (.ref p) (.list ds) (.own 1 y) [p] := fun y r =>
    ⟨rep, fun n y' e => by cases e; exact ⟨p, vs, [], rfl, rfl, upd_same, owl0 r⟩, by simp, fun a ha => by rw [List.mem_singleton.mp ha]; exact pHy, fun a ha => by rw [List.mem_singleton.mp ha]; exact ⟨vs, upd_same⟩⟩
  unfold mCp
  by_cases hf : ds.all flatD = true
  · rw [if_pos hf]
    exact ⟨[p], one true (rpA_flat ra hf), fun a ha => List.mem_singleton.mp ha⟩
  · rw [if_neg hf]
    split
    · rename_i y
      exact ⟨[p], one y (rs y rfl), fun a ha => List.mem_singleton.mp ha⟩
    · exact ⟨[], Vl.bor rep, (fun _ h => nomatch h)⟩
theorem hy_none {Hy H : Hp} (s : Same Hy H) {p : Addr} (hp : H p = none) : Hy p = none := by
  cases q : Hy p with
  | none => rfl
  | some o => rw [s p o q] at hp; cases hp
theorem Vl.items {K : Fg} {H0 Hy H : Hp} {x : V} {ds : List D} {m : Md} {F : List Addr} (v : Vl K H0 Hy H x (.list ds) m F) (sub : ∀ y, Same (lf y H0 Hy) H) :
    ∃ a xs, x = .ref a ∧ SqL K H a xs ∧ RpA K H xs ds ∧ ∀ y, m = .own 0 y → RpA K (lf y H0 Hy) xs ds := by
  cases m with
  | bor =>
    cases v.rep with
    | lst hs hr => exact ⟨_, _, rfl, hs, hr, fun y e => by cases e⟩
  | own n y =>
    cases n with
    | zero =>
      have o := (v.own 0 y rfl).2
      cases o with
      | lst hs hr => exact ⟨_, _, rfl, Same.sqL (sub y) hs, hr.mono (sub y), fun y' e => by cases e; exact hr⟩
    | succ n =>
      cases v.rep with
      | lst hs hr => exact ⟨_, _, rfl, hs, hr, fun y e => by cases e⟩
theorem Vl.itemsT {K : Fg} {H0 Hy H : Hp} {x : V} {ds : List D} {m : Md} {F : List Addr} (v : Vl K H0 Hy H x (.tuple ds) m F) (sub : ∀ y, Same (lf y H0 Hy) H) :
    ∃ a xs, x = .ref a ∧ SqT K H a xs ∧ RpA K H xs ds ∧ ∀ y, m = .own 0 y → RpA K (lf y H0 Hy) xs ds := by
  cases m with
  | bor =>
    cases v.rep with
    | tup hs hr => exact ⟨_, _, rfl, hs, hr, fun y e => by cases e⟩
  | own n y =>
    cases n with
    | zero =>
      have o := (v.own 0 y rfl).2
      cases o with
      | tup hs hr => exact ⟨_, _, rfl, Same.sqT (sub y) hs, hr.mono (sub y), fun y' e => by cases e; exact hr⟩
    | succ n =>
      cases v.rep with
      | tup hs hr => exact ⟨_, _, rfl, hs, hr, fun y e => by cases e⟩
theorem SR.sub {K : Fg} {H0 Hy : Hp} {Fs : Nat → List Addr} {ρ : Env} {σ : L2.St} {H : Hp} (s : SR K T9 H0 Hy Fs ρ σ H) (y : Bool) : Same (lf y H0 Hy) H := lf_sub s.le.ol s.yng
def cutG {α : Type} (xs : List α) (lo hi : Option Int) : List α := (xs.drop (HT.sIx xs.length 0 lo)).take (HT.sIx xs.length xs.length hi - HT.sIx xs.length 0 lo)
theorem RpA.cut {K : Fg} {H : Hp} {vs : List V} {ds : List D} (r : RpA K H vs ds) (lo hi : Option Int) : RpA K H (cutV vs lo hi) (cutG ds lo hi) := by
  unfold cutV cutG
  rw [r.len]
  exact (r.drop _).take _
abbrev So := Env → Option (Option Int)
def tDO (K : Fg) (T9 : List Addr) (f : So) : TO := fun σ H Q => ∃ H0 Hy Fs ρ r, SR K T9 H0 Hy Fs ρ σ H ∧ f ρ = some r ∧ ∀ Hy' H', Ext Hy H Hy' H' → Q r H'
def DO (X : Cx) (T9 : List Addr) (o : Option Expr) (f : So) : Prop := PO X o (tDO X.K T9 f)
theorem PO.mono {o : Option Expr} {t t' : TO} (h : PO X o t) (k : ∀ σ H Q, t' σ H Q → t σ H Q) : PO X o t' := fun pins s σ H Q I q => h pins s σ H Q I (k σ H Q q)
def oN : So := fun _ => some none
def oS (fa : Sm) : So := fun ρ => (fa ρ).bind fun x => match x.1 with | .int i => some (some i) | _ => none
theorem do_none : DO X T9 none oN := PO.mono po_none fun σ H Q ⟨H0, Hy, Fs, ρ, r, s, hf, k⟩ => by
  cases hf
  exact k Hy H s.rfl
theorem do_some (ha : DE X T9 a fa) : DO X T9 (some a) (oS fa) := by
  refine PO.mono (po_some ha) fun σ H Q ⟨H0, Hy, Fs, ρ, r, s, hf, k⟩ => ?_
  obtain ⟨⟨dx, mx⟩, h1, hf⟩ := Option.bind_eq_some_iff.mp hf
  simp only at hf
  split at hf
  · cases hf
    exact ⟨H0, Hy, Fs, ρ, _, mx, s, h1, fun x Hy1 H1 F1 e1 v1 f1 => ⟨_, v1.rep.int_inv, k Hy1 H1 e1⟩⟩
  · cases hf
def eSl (fa : Sm) (lo hi : So) : Sm := fun ρ => (fa ρ).bind fun x => (lo ρ).bind fun l => (hi ρ).bind fun h => match x.1 with | .list ds => some (.list (cutG ds l h), mCp x.2 (cutG ds l h)) | _ => none
theorem de_sl {lo hi : Option Expr} {p2 : Pos} {fl fh : So} (ha : DE X T9 a fa) (hl : DO X T9 lo fl) (hh : DO X T9 hi fh) : DE X T9 (.Subscript a (.Slice lo hi none p2) pos) (eSl fa fl fh) := by
  refine PE.mono (pe_slice sl_list ha hl hh) fun σ H Q ⟨H0, Hy, Fs, ρ, d, m, s, hf, k⟩ => ?_
  obtain ⟨⟨dx, mx⟩, h1, hf⟩ := Option.bind_eq_some_iff.mp hf
  obtain ⟨l, h2, hf⟩ := Option.bind_eq_some_iff.mp hf
  obtain ⟨h, h3, hf⟩ := Option.bind_eq_some_iff.mp hf
  simp only at hf
  split at hf
  · cases hf
    refine ⟨H0, Hy, Fs, ρ, _, mx, s, h1, fun x Hy1 H1 F1 e1 v1 f1 => ?_⟩
    have s1 := s.ext e1
    refine ⟨H0, Hy1, Fs, ρ, l, s1, h2, fun Hy2 H2 e2 => ?_⟩
    have s2 := s1.ext e2
    refine ⟨H0, Hy2, Fs, ρ, h, s2, h3, fun Hy3 H3 e3 => ?_⟩
    have s3 := s2.ext e3
    have v3 := v1.ext (e2.trans e3) s3.sep
    have e13 := e1.trans (e2.trans e3)
    obtain ⟨q, xs, rfl, hs, hr, hr0⟩ := v3.items s3.sub
    refine ⟨q, xs, rfl, hs, fun p hp => ?_⟩
    obtain ⟨F, vv, hF⟩ := new_cp (H0 := H0) (m := mx) hp (hy_none s3.yng hp) (hr.cut l h) fun y e => (hr0 y e).cut l h
    exact k _ Hy3 _ F (ext_new e13 hp) vv fun a ha => by rw [hF a ha]; exact e13.le.fr hp
  · cases hf
def eRev (fa : Sm) : Sm := fun ρ => (fa ρ).bind fun x => match x.1 with | .list ds => some (.list ds.reverse, mCp x.2 ds.reverse) | _ => none
theorem RpA.rev {K : Fg} {H : Hp} : ∀ {vs : List V} {ds : List D}, RpA K H vs ds → RpA K H vs.reverse ds.reverse
  | _, _, .nil => .nil
  | _, _, .cons h r => by
    rw [List.reverse_cons, List.reverse_cons]
    exact (RpA.rev r).app (.cons h .nil)
theorem de_rev {j : Nat} {p1 p2 p3 : Pos} (ha : DE X T9 a fa) : DE X T9 (.Subscript a (.Slice none none (some (.UnaryOp .USub (.Constant (.int 1) j p1) p2)) p3) pos) (eRev fa) := by
  refine PE.mono (pe_rev ha) fun σ H Q ⟨H0, Hy, Fs, ρ, d, m, s, hf, k⟩ => ?_
  obtain ⟨⟨dx, mx⟩, h1, hf⟩ := Option.bind_eq_some_iff.mp hf
  simp only at hf
  split at hf
  · cases hf
    refine ⟨H0, Hy, Fs, ρ, _, mx, s, h1, fun x Hy1 H1 F1 e1 v1 f1 => ?_⟩
    have s1 := s.ext e1
    obtain ⟨q, xs, rfl, hs, hr, hr0⟩ := v1.items s1.sub
    refine ⟨q, xs, rfl, hs, fun p hp => ?_⟩
    obtain ⟨F, vv, hF⟩ := new_cp (H0 := H0) (m := mx) hp (hy_none s1.yng hp) hr.rev fun y e => (hr0 y e).rev
    exact k _ Hy1 _ F (ext_new e1 hp) vv fun a ha => by rw [hF a ha]; exact e1.le.fr hp
  · cases hf
theorem de_b1 {e : Expr} {r : List V → Hp → VK → Prop} {g : D → Option D} (h : PE X e (tCB r (tDA X.K T9 (aCons fa aNil))))
    (hr : ∀ x dx d H Q, Rp X.K H x dx → g dx = some d → (∀ v, Fl v d → Q v H) → r [x] H Q) : DE X T9 e (eU1 g fa) := by
  refine PE.mono h fun σ H Q ⟨H0, Hy, Fs, ρ, d, m, s, hf, k⟩ => ?_
  obtain ⟨⟨dx, mx⟩, h1, hf⟩ := Option.bind_eq_some_iff.mp hf
  obtain ⟨d', h3, hf⟩ := Option.map_eq_some_iff.mp hf
  cases hf
  refine ⟨H0, Hy, Fs, ρ, [(dx, mx)], s, by simp only [aCons, aNil, h1, Option.bind_some], fun vs Hy1 H1 F1 e1 va f1 => ?_⟩
  cases va with
  | cons v1 rest n =>
    cases rest
    exact hr _ dx d H1 Q v1.rep h3 fun v f => k v Hy1 H1 [] e1 (Vl.flat f _ _) (fun _ h => nomatch h)
def gLen : D → Option D
  | .list ds => some (.int ds.length)
  | .tuple ds => some (.int ds.length)
  | _ => none
theorem de_len {p : Pos} (hg : Gl X "len") (hm : X.mg "len" = none) (ha : DE X T9 a fa) (he : starEach [a] X.env = [(false, eval a X.env)] := by rfl) : DE X T9 (.Call (.Name "len" p) [a] [] pos) (eU1 gLen fa) :=
  de_b1 (pe_callB call_len_seq hg hm PySem.boot_len (da_cons ha da_nil he) (by decide) (by decide) he) fun x dx d H Q rx hg k => by
    unfold gLen at hg
    split at hg
    · cases hg
      cases rx with
      | lst hs hr => exact ⟨_, _, rfl, .inl hs, k _ (by rw [hr.len]; exact .int _)⟩
    · cases hg
      cases rx with
      | tup hs hr => exact ⟨_, _, rfl, .inr hs, k _ (by rw [hr.len]; exact .int _)⟩
    · cases hg
def intsOf : List D → Option (List Int)
  | [] => some []
  | .int i :: r => (intsOf r).map fun l => i :: l
  | _ :: _ => none
theorem intsOf_of : ∀ {ds : List D} {ns : List Int}, intsOf ds = some ns → ds = ns.map PyData.int
  | [], _, h => by cases h; rfl
  | d :: ds, ns, h => by
    unfold intsOf at h
    split at h
    · rename_i e; cases e
    · rename_i i r e
      cases e
      obtain ⟨l, h1, h2⟩ := Option.map_eq_some_iff.mp h
      subst h2
      rw [intsOf_of h1]; rfl
    · cases h
theorem intsOf_map (ns : List Int) : intsOf (ns.map PyData.int) = some ns := by
  induction ns with
  | nil => rfl
  | cons n ns ih => rw [List.map_cons]; unfold intsOf; rw [ih]; rfl
def gSum : D → Option D
  | .list ds => (intsOf ds).map fun ns => .int ns.sum
  | _ => none
theorem de_sum {p : Pos} (hc : X.calm = true) (hg : Gl X "sum") (hm : X.mg "sum" = none) (ha : DE X T9 a fa) (he : starEach [a] X.env = [(false, eval a X.env)] := by rfl) : DE X T9 (.Call (.Name "sum" p) [a] [] pos) (eU1 gSum fa) :=
  de_b1 (pe_callB (cr_sum hc) hg hm (by decide +kernel) (da_cons ha da_nil he) (by decide) (by decide) he) fun x dx d H Q rx hg k => by
    unfold gSum at hg
    split at hg
    · obtain ⟨ns, h1, h2⟩ := Option.map_eq_some_iff.mp hg
      subst h2
      rw [intsOf_of h1] at rx
      cases rx with
      | lst hs hr => rw [hr.ints] at hs; exact ⟨_, ns, rfl, hs, k _ (.int _)⟩
    · cases hg
def boolsOf : List D → Option (List Bool)
  | [] => some []
  | .bool i :: r => (boolsOf r).map fun l => i :: l
  | _ :: _ => none
theorem boolsOf_of : ∀ {ds : List D} {ns : List Bool}, boolsOf ds = some ns → ds = ns.map PyData.bool
  | [], _, h => by cases h; rfl
  | d :: ds, ns, h => by
    unfold boolsOf at h
    split at h
    · rename_i e; cases e
    · rename_i i r e
      cases e
      obtain ⟨l, h1, h2⟩ := Option.map_eq_some_iff.mp h
      subst h2
      rw [boolsOf_of h1]; rfl
    · cases h
theorem RpA.bools {K : Fg} {H : Hp} : ∀ {vs : List V} {ns : List Bool}, RpA K H vs (ns.map PyData.bool) → vs = ns.map V.bl
  | _, [], .nil => rfl
  | _, n :: ns, .cons h r => by
    cases h
    rw [List.map_cons, RpA.bools r]
def gAll : D → Option D
  | .list ds => (boolsOf ds).map fun ns => .bool (ns.all id)
  | _ => none
theorem de_all {p : Pos} (hc : X.calm = true) (hg : Gl X "all") (hm : X.mg "all" = none) (ha : DE X T9 a fa) (he : starEach [a] X.env = [(false, eval a X.env)] := by rfl) : DE X T9 (.Call (.Name "all" p) [a] [] pos) (eU1 gAll fa) :=
  de_b1 (pe_callB (cr_all hc) hg hm (by decide +kernel) (da_cons ha da_nil he) (by decide) (by decide) he) fun x dx d H Q rx hg k => by
    unfold gAll at hg
    split at hg
    · obtain ⟨ns, h1, h2⟩ := Option.map_eq_some_iff.mp hg
      subst h2
      rw [boolsOf_of h1] at rx
      cases rx with
      | lst hs hr => rw [hr.bools] at hs; exact ⟨_, ns, rfl, hs, k _ (.bl _)⟩
    · cases hg
def eLo (fa : Sm) : Sm := fun ρ => (fa ρ).bind fun x => match x.1 with | .list ds => some (.list ds, mCp x.2 ds) | .tuple ds => some (.list ds, mCp x.2 ds) | _ => none
theorem de_lo {p : Pos} (hg : Gl X "list") (hm : X.mg "list" = none) (ha : DE X T9 a fa) (he : starEach [a] X.env = [(false, eval a X.env)] := by rfl) : DE X T9 (.Call (.Name "list" p) [a] [] pos) (eLo fa) := by
  refine PE.mono (pe_callTy call_list_of hg hm PyProof.Rows.boot_list (da_cons ha da_nil he) (by decide) (by decide) he) fun σ H Q ⟨H0, Hy, Fs, ρ, d, m, s, hf, k⟩ => ?_
  obtain ⟨⟨dx, mx⟩, h1, hf⟩ := Option.bind_eq_some_iff.mp hf
  refine ⟨H0, Hy, Fs, ρ, [(dx, mx)], s, by simp only [aCons, aNil, h1, Option.bind_some], fun vs Hy1 H1 F1 e1 va f1 => ?_⟩
  have s1 := s.ext e1
  cases va with
  | cons v1 rest n =>
    cases rest
    simp only at hf
    split at hf
    · cases hf
      obtain ⟨q, xs, rfl, hs, hr, hr0⟩ := v1.items s1.sub
      refine ⟨q, xs, rfl, .inl hs, fun p hp => ?_⟩
      obtain ⟨F, vv, hF⟩ := new_cp (H0 := H0) (m := mx) hp (hy_none s1.yng hp) hr hr0
      exact k _ Hy1 _ F (ext_new e1 hp) vv fun a ha => by rw [hF a ha]; exact e1.le.fr hp
    · cases hf
      obtain ⟨q, xs, rfl, hs, hr, hr0⟩ := v1.itemsT s1.sub
      refine ⟨q, xs, rfl, .inr hs, fun p hp => ?_⟩
      obtain ⟨F, vv, hF⟩ := new_cp (H0 := H0) (m := mx) hp (hy_none s1.yng hp) hr hr0
      exact k _ Hy1 _ F (ext_new e1 hp) vv fun a ha => by rw [hF a ha]; exact e1.le.fr hp
    · cases hf
def rgD (j : Int) : List D := (List.range j.toNat).map fun i => .int (i : Nat)
def eLr (fa : Sm) : Sm := fun ρ => (fa ρ).bind fun x => match x.1 with | .int j => if 0 ≤ j ∧ j ≤ 1000000 then some (.list (rgD j), .own 1 true) else none | _ => none
theorem rpA_range {K : Fg} {H : Hp} (l : List Nat) : RpA K H (l.map fun i => V.int (i : Nat)) (l.map fun i => PyData.int (i : Nat)) := by
  induction l with
  | nil => exact .nil
  | cons x l ih => exact .cons (.int _) ih
theorem flat_range (l : List Nat) : (l.map fun i => PyData.int (i : Nat)).all flatD = true := by
  induction l with
  | nil => rfl
  | cons x l ih => rw [List.map_cons, List.all_cons, ih]; rfl
theorem de_lr {p p2 pos2 : Pos} (hc : X.calm = true) (hl : Gl X "list") (hml : X.mg "list" = none) (hg : Gl X "range") (hm : X.mg "range" = none) (ha : DE X T9 a fa) (he : starEach [a] X.env = [(false, eval a X.env)] := by rfl) :
    DE X T9 (.Call (.Name "list" p) [.Call (.Name "range" p2) [a] [] pos2] [] pos) (eLr fa) := by
  refine PE.mono (pe_lrange hc hl hml hg hm (da_cons ha da_nil he) he) fun σ H Q ⟨H0, Hy, Fs, ρ, d, m, s, hf, k⟩ => ?_
  obtain ⟨⟨dx, mx⟩, h1, hf⟩ := Option.bind_eq_some_iff.mp hf
  refine ⟨H0, Hy, Fs, ρ, [(dx, mx)], s, by simp only [aCons, aNil, h1, Option.bind_some], fun vs Hy1 H1 F1 e1 va f1 => ?_⟩
  have s1 := s.ext e1
  cases va with
  | cons v1 rest n =>
    cases rest
    simp only at hf
    split at hf
    · rename_i j
      split at hf
      · rename_i hj
        cases hf
        refine ⟨j, by rw [v1.rep.int_inv], hj.2, hj.1, fun p hp => ?_⟩
        obtain ⟨F, vv, hF⟩ := new_cp (K := X.K) (H0 := H0) (m := .bor) hp (hy_none s1.yng hp) (rpA_range (List.range j.toNat)) fun y e => by cases e
        unfold mCp at vv
        rw [if_pos (flat_range _)] at vv
        exact k _ Hy1 _ F (ext_new e1 hp) vv fun a ha => by rw [hF a ha]; exact e1.le.fr hp
      · cases hf
    · cases hf
def gLs : D → Option D
  | .list ds => (intsOf ds).bind fun ns => if ns.length ≤ 4000 then some (.int ((firstMet (fun i => ns.getD i 0) ns.length).length : Nat)) else none
  | _ => none
theorem de_lset {p p2 pos2 : Pos} (hc : X.calm = true) (hl : Gl X "len") (hml : X.mg "len" = none) (hg : Gl X "set") (hm : X.mg "set" = none) (ha : DE X T9 a fa) (he : starEach [a] X.env = [(false, eval a X.env)] := by rfl) :
    DE X T9 (.Call (.Name "len" p) [.Call (.Name "set" p2) [a] [] pos2] [] pos) (eU1 gLs fa) := by
  refine de_b1 (r := fun vs H1 Q => ∃ (a : Addr) (ns : List Int), vs = [.ref a] ∧ SqL X.K H1 a (ns.map V.int) ∧ ns.length ≤ 4000 ∧ Q (.int ((firstMet (fun i => ns.getD i 0) ns.length).length : Nat)) H1) (pe_lenset hc hl hml hg hm (da_cons ha da_nil he) he) fun x dx d H Q rx hg k => ?_
  unfold gLs at hg
  split at hg
  · obtain ⟨ns, h1, h2⟩ := Option.bind_eq_some_iff.mp hg
    rw [intsOf_of h1] at rx
    split at h2
    · rename_i hz
      cases h2
      cases rx with
      | lst hs hr => rw [hr.ints] at hs; exact ⟨_, ns, rfl, hs, hz, k _ (.int _)⟩
    · cases h2
  · cases hg
end
end EV
namespace EV
open PySem PySem.Spec PyProof.Rows L2
def tyN : D → String
  | .none => "NoneType"
  | .bool _ => "bool"
  | .int _ => "int"
  | .str _ => "str"
  | .list _ => "list"
  | .tuple _ => "tuple"
  | .dict _ => "dict"
theorem cr_isi {X : Cx} : CallR X (.builtin "isinstance") (fun xs H Q => ∃ (x : V) (T : String) (d : D) (b : Bool), xs = [x, .ty T] ∧ Rp X.K H x d ∧ PySem.W.kitOne X.K (.type (tyN d)) (.type T) = some b ∧ Q (.bl b) H) := by
  intro pins s σ H xs us Q I r h
  obtain ⟨x, T, d, b, rfl, hx, e, q⟩ := h
  cases r with
  | cons rx r2 =>
    cases r2 with
    | cons ry r3 =>
      cases r3
      cases ry
      have fin : ∀ tk, EP X pins σ Q (.bool b) { s with toks := tk } := fun tk => ⟨.bl b, H, I.tok tk, rfl, q⟩
      cases hx with
      | non => cases (show _ = Value.none from rx); exact PySem.W.kia_one PySem.W.kitx_none I.kIn True.intro e (fun z => nomatch z) fin
      | bl y => cases (show _ = Value.bool y from rx); exact PySem.W.kia_one PySem.W.kitx_bool I.kIn True.intro e (fun z => nomatch z) fin
      | int i => obtain ⟨t, z⟩ := (show ∃ t, _ = Value.int i t from rx); cases z; exact PySem.W.kia_one PySem.W.kitx_int I.kIn True.intro e (fun z => nomatch z) fin
      | str y => obtain ⟨t, z⟩ := (show ∃ t, _ = Value.str y t from rx); cases z; exact PySem.W.kia_one PySem.W.kitx_str I.kIn True.intro e (fun z => nomatch z) fin
      | lst hs hr =>
        cases rx
        obtain ⟨its, _, ⟨o, n, h1, h2, _, _⟩, _⟩ := I.list hs
        exact PySem.W.kia_one PySem.W.kitx_list I.kIn ⟨o, h1, h2⟩ e (fun z => nomatch z) fin
      | tup hs hr =>
        cases rx
        obtain ⟨its, _, ⟨o, h1, h2, _⟩, _⟩ := I.tuple hs
        exact PySem.W.kia_one PySem.W.kitx_tuple I.kIn ⟨o, h1, h2⟩ e (fun z => nomatch z) fin
      | dct ha =>
        cases rx
        obtain ⟨_, _, vs, _, o, es, ep, h1, h2, _⟩ := (show ObjOk X.prog X.w H s.heap _ (.dK []) from I.hok _ _ ha)
        exact PySem.W.kia_one PySem.W.kitx_dict I.kIn ⟨o, h1, h2.1⟩ e (fun z => nomatch z) fin
def isi (T : String) (d : D) : Bool := tyN d == T || (T == "int" && tyN d == "bool")
section
variable {X : Cx} {T9 : List Addr} {a b c : Expr} {pos : Pos} {fa fb fc : Sm}
theorem de_isi {T : String} {tn : Str} {p p2 : Pos} (hg : Gl X "isinstance") (hm : X.mg "isinstance" = none) (hgt : Gl X tn) (hmt : X.mg tn = none) (hv : bootBuiltins tn = some (.type T)) (hn : tn ≠ "__name__" := by decide) (hdb : (tn == ("__debug__" : Str)) = false := by decide)
    (hk : ∀ d : D, PySem.W.kitOne X.K (.type (tyN d)) (.type T) = some (isi T d) := by intro d; cases d <;> rfl) (ha : DE X T9 a fa) (he : starEach [a, .Name tn p2] X.env = (false, eval a X.env) :: starEach [.Name tn p2] X.env := by rfl) :
    DE X T9 (.Call (.Name "isinstance" p) [a, .Name tn p2] [] pos) (eU1 (fun d => some (.bool (isi T d))) fa) := by
  have pa : PA X [a, .Name tn p2] (tCons (tD X.K T9 fa) (tCons (tC (.ty T)) tNil)) := pa_cons ha (pa_cons (pe_bltn hgt hmt hv rfl hn hdb) pa_nil) he
  refine PE.mono (pe_callB cr_isi hg hm PyProof.Rows.boot_isinstance pa (by decide) (by decide) he) fun σ H Q ⟨H0, Hy, Fs, ρ, d, m, s, hf, k⟩ => ?_
  obtain ⟨⟨dx, mx⟩, h1, hf⟩ := Option.bind_eq_some_iff.mp hf
  cases hf
  refine ⟨H0, Hy, Fs, ρ, dx, mx, s, h1, fun x Hy1 H1 F1 e1 v1 f1 => ?_⟩
  exact ⟨x, T, dx, _, rfl, v1.rep, hk dx, k _ Hy1 H1 [] e1 (Vl.flat (.bl _) _ _) (fun _ h => nomatch h)⟩
def spD (K : Fg) (T9 : List Addr) (np : Nat) (F : List D → Option (D × Nat)) : Sp := fun vs H Q _ => ∃ ds d n, RpA K H vs ds ∧ ds.length = np ∧ (∀ P ∈ T9, TbAt H P) ∧ F ds = some (d, n) ∧
  ∀ v H' Hn G, Le H H' → Same Hn H' → NT Hn → (∀ a, Hn a ≠ none → H a = none) → Own K Hn H' n v d G → G.Nodup → (∀ a ∈ G, H a = none ∧ Hn a = none) → Q v H'
def eCall (F : List D → Option (D × Nat)) (fr : Sa) : Sm := fun ρ => (fr ρ).bind fun r => (F (r.map (·.1))).map fun x => (x.1, .own x.2 true)
theorem call_use {K : Fg} {F : List D → Option (D × Nat)} {np : Nat} {σ : L2.St} {H : Hp} {Q : VK} {E : XK} {H0 Hy : Hp} {Fs : Nat → List Addr} {ρ : Env} {d : D} {n : Nat} {vs : List V} {r : List (D × Md)} {Hy1 H1 : Hp} {F1 : List Addr}
    (s : SR K T9 H0 Hy Fs ρ σ H) (e1 : Ext Hy H Hy1 H1) (va : VlA K H0 Hy1 H1 vs r F1) (hl : r.length = np) (hF : F (r.map (·.1)) = some (d, n))
    (k : ∀ v Hy' H' F, Ext Hy H Hy' H' → Vl K H0 Hy' H' v d (.own n true) F → (∀ a ∈ F, H a = none) → Q v H') : spD K T9 np F vs H1 Q E := by
  have s1 := s.ext e1
  refine ⟨r.map (·.1), d, n, va.rpA, by rw [List.length_map]; exact hl, fun P hP => s1.le.tb P (s1.tbs P hP), hF, fun v H' Hn G l sm ntn fr o nd gf => ?_⟩
  have hyH : Same Hy1 H' := fun b u q => l.ol b u (nt_some (s1.yng b u q) (s1.ynt b u q))
  have djn : ∀ a, Hn a ≠ none → Hy1 a = none := fun a h => hy_none s1.yng (fr a h)
  have ex : Ext Hy1 H1 (jn Hy1 Hn) H' := by
    refine ⟨l, jn_l djn, jn_sub hyH sm, fun a u q => ?_, fun a h => ?_⟩
    · unfold jn at q
      cases z : Hn a with
      | some w => rw [z] at q; cases q; exact ntn a _ z
      | none => rw [z] at q; exact s1.ynt a u q
    · cases z : Hn a with
      | some w => exact .inr (fr a (by rw [z]; simp))
      | none =>
        unfold jn at h; rw [z] at h
        exact .inl h
  have s2 := s1.ext ex
  refine k v (jn Hy1 Hn) H' G (e1.trans ex) ⟨o.rp sm, fun n' y' z => ?_, nd, fun a ha => ?_, o.dom⟩ fun a ha => e1.le.fr (gf a ha).1
  · cases z
    exact o.mono jn_r fun _ _ _ z => z
  · unfold jn
    rw [(gf a ha).2]
    exact hy_none s1.yng (gf a ha).1
theorem aN_len : ∀ ρ r, aNil ρ = some r → r.length = 0 := fun ρ r h => by cases h; rfl
theorem aC_len {fa : Sm} {fr : Sa} {n : Nat} (h : ∀ ρ r, fr ρ = some r → r.length = n) : ∀ ρ r, aCons fa fr ρ = some r → r.length = n + 1 := fun ρ r q => by
  obtain ⟨x, _, q⟩ := Option.bind_eq_some_iff.mp q
  obtain ⟨r', h1, q⟩ := Option.bind_eq_some_iff.mp q
  cases q
  rw [List.length_cons, h ρ r' h1]
theorem de_call {x : Str} {p : Pos} {e : Expr} {es : List Expr} {fr : Sa} {F : List D → Option (D × Nat)} {f : Addr} {fd : FuncData} {ps : List Str} {k np : Nat} (G : FnOk X.prog X.w X.K X.mg X.base CX0 k f fd ps (spD X.K T9 np F)) (hr : Room k X.A) (hg : Gl X x) (hm : X.mg x = some (.ref f)) (hk : PySem.W.keepIn X.K (.ref f) = true) (hb : Binds X.K fd ps [])
    (ha : DA X T9 (e :: es) fr) (hl : (e :: es).length = np) (hdb : (x == ("__debug__" : Str)) = false := by decide) (he : starEach (e :: es) X.env = (false, eval e X.env) :: starEach es X.env := by rfl) (hpl : (backTo pos (starEach es X.env)).any (·.1) = false := by rfl)
    (hlen : ∀ ρ r, fr ρ = some r → r.length = (e :: es).length) :
    DE X T9 (.Call (.Name x p) (e :: es) [] pos) (eCall F fr) := by
  refine PE.mono (pe_call (E := E0) G hr hg hm hk hb .nil pass0 ha hdb he hpl) fun σ H Q ⟨H0, Hy, Fs, ρ, d, m, s, hf, kk⟩ => ?_
  obtain ⟨r, h1, hf⟩ := Option.bind_eq_some_iff.mp hf
  obtain ⟨⟨d', n⟩, h2, hf⟩ := Option.map_eq_some_iff.mp hf
  cases hf
  refine ⟨H0, Hy, Fs, ρ, r, s, h1, fun vs Hy1 H1 F1 e1 va f1 => ?_⟩
  show spD X.K T9 np F (vs ++ []) H1 Q E0
  rw [List.append_nil]
  exact call_use s e1 va ((hlen ρ r h1).trans hl) h2 kk
def eRep (fa fb : Sm) : Sm := fun ρ => (fa ρ).bind fun x => (fb ρ).bind fun y => match x, y.1 with
  | (.list ds, .own (_ + 1) _), .int k => if ds.all flatD = true ∧ -(2 ^ 63) ≤ k ∧ k < 2 ^ 63 ∧ ds.length * k.toNat ≤ 1000000 then some (.list (List.replicate k.toNat ds).flatten, .own 1 true) else none
  | _, _ => none
theorem rpA_rep {K : Fg} {H : Hp} {vs : List V} {ds : List D} (r : RpA K H vs ds) : ∀ n, RpA K H (List.replicate n vs).flatten (List.replicate n ds).flatten
  | 0 => .nil
  | n + 1 => by
    rw [List.replicate_succ, List.replicate_succ, List.flatten_cons, List.flatten_cons]
    exact r.app (rpA_rep r n)
theorem all_rep {ds : List D} (h : ds.all flatD = true) : ∀ n, (List.replicate n ds).flatten.all flatD = true
  | 0 => rfl
  | n + 1 => by
    rw [List.replicate_succ, List.flatten_cons, List.all_append, h, all_rep h n]; rfl
theorem de_rep (ha : DE X T9 a fa) (hb : DE X T9 b fb) : DE X T9 (.BinOp a .Mult b pos) (eRep fa fb) := by
  refine PE.mono (pe_op op_rep ha hb) fun σ H Q ⟨H0, Hy, Fs, ρ, d, m, s, hf, k⟩ => ?_
  obtain ⟨⟨dx, mx⟩, h1, hf⟩ := Option.bind_eq_some_iff.mp hf
  obtain ⟨⟨dy, my⟩, h2, hf⟩ := Option.bind_eq_some_iff.mp hf
  simp only at hf
  refine ⟨H0, Hy, Fs, ρ, dx, mx, s, h1, fun x Hy1 H1 F1 e1 v1 f1 => ?_⟩
  have s1 := s.ext e1
  refine ⟨H0, Hy1, Fs, ρ, dy, my, s1, h2, fun y Hy2 H2 F2 e2 v2 f2 => ?_⟩
  have s2 := s1.ext e2
  have e12 := e1.trans e2
  have v1' := v1.ext e2 s2.sep
  have hh : ∃ ds n yy kk, dx = .list ds ∧ mx = .own (n + 1) yy ∧ dy = .int kk := by
    split at hf
    · rename_i e2
      cases e2
      exact ⟨_, _, _, _, rfl, rfl, rfl⟩
    · cases hf
  obtain ⟨ds, n, yy, kk, rfl, rfl, rfl⟩ := hh
  simp only at hf
  · split at hf
    · rename_i hc
      cases hf
      obtain ⟨q, vs, G, rfl, rfl, hq, ol⟩ := v1'.own (n + 1) yy rfl
      have ra : RpA X.K H2 vs ds := by
        cases v1'.rep with
        | lst hs hr =>
          rcases hs with hs | ⟨o, its, nn, hK, _⟩
          · rcases hs with hs | ⟨o, hs⟩
            · rw [hq] at hs; cases hs; exact hr
            · rw [hq] at hs; cases hs
          · have key : ∀ {vs ds G}, OwL (Own X.K (lf yy H0 Hy2) H2 n) vs ds G → RpA X.K H2 vs ds := by
              intro vs ds G r
              induction r with
              | nil => exact .nil
              | cons z r ih => exact .cons (z.rp (s2.sub yy)) ih
            exact key ol
      refine ⟨q, kk, vs, rfl, v2.rep.int_inv, hq, hc.2.1, hc.2.2.1, by rw [ra.len]; exact sz_ok hc.2.2.2, fun p hp => ?_⟩
      obtain ⟨F, vv, hF⟩ := new_cp (K := X.K) (H0 := H0) (m := .bor) hp (hy_none s2.yng hp) (rpA_rep ra kk.toNat) fun y e => by cases e
      unfold mCp at vv
      rw [if_pos (all_rep hc.1 _)] at vv
      exact k _ Hy2 _ F (ext_new e12 hp) vv fun a ha => by rw [hF a ha]; exact e12.le.fr hp
    · cases hf
end
end EV
namespace EV
open PySem PySem.Spec PyProof.Rows L2
def uF (Fs : Nat → List Addr) (i : Nat) (F : List Addr) : Nat → List Addr := fun j => if j = i then F else Fs j
theorem uF_same {Fs : Nat → List Addr} {i : Nat} {F : List Addr} : uF Fs i F i = F := if_pos rfl
theorem uF_ne {Fs : Nat → List Addr} {i j : Nat} {F : List Addr} (h : j ≠ i) : uF Fs i F j = Fs j := if_neg h
theorem SR.set {K : Fg} {H0 Hy : Hp} {Fs : Nat → List Addr} {ρ : Env} {σ : L2.St} {H : Hp} (s : SR K T9 H0 Hy Fs ρ σ H) {i n : Nat} {y : Bool} {v : V} {d : D} {F : List Addr} (o : Own K (lf y H0 Hy) H n v d F) (nd : F.Nodup) (hf : ∀ a ∈ F, H0 a = none ∧ Hy a = none) (dj : ∀ j, j ≠ i → ∀ a ∈ F, a ∉ Fs j) :
    SR K T9 H0 Hy (uF Fs i F) (ρ.set i (some (d, n, y))) (σ.set i (some v)) H := by
  refine ⟨s.le, s.tbs, s.yng, s.ynt, s.sep, fun j a h => ?_, fun j => ?_, fun j l hjl a h h' => ?_, fun j d' n' y' h => ?_, by rw [List.length_set, List.length_set]; exact s.len⟩
  · by_cases hj : j = i
    · rw [hj, uF_same] at h; exact ⟨(hf a h).1, (hf a h).2, o.dom a h⟩
    · rw [uF_ne hj] at h; exact s.own j a h
  · by_cases hj : j = i
    · rw [hj, uF_same]; exact nd
    · rw [uF_ne hj]; exact s.nod j
  · by_cases hj : j = i
    · rw [hj, uF_same] at h
      rw [uF_ne (fun z => hjl (hj.trans z.symm))] at h'
      exact dj l (fun z => hjl (hj.trans z.symm)) a h h'
    · rw [uF_ne hj] at h
      by_cases hl : l = i
      · rw [hl, uF_same] at h'; exact dj j hj a h' h
      · rw [uF_ne hl] at h'; exact s.dis j l hjl a h h'
  · by_cases hj : j = i
    · subst hj
      have hlt : j < ρ.length := by
        rcases Nat.lt_or_ge j ρ.length with z | z
        · exact z
        · rw [List.getElem?_eq_none (by rw [List.length_set]; exact z)] at h; cases h
      rw [List.getElem?_set_self hlt] at h
      cases h
      rw [uF_same]
      exact ⟨v, List.getElem?_set_self (by rw [← s.len]; exact hlt), o⟩
    · rw [List.getElem?_set_ne (Ne.symm hj)] at h
      obtain ⟨v', h1, h2⟩ := s.slot j d' n' y' h
      rw [uF_ne hj]
      exact ⟨v', by rw [List.getElem?_set_ne (Ne.symm hj)]; exact h1, h2⟩
theorem SR.kill {K : Fg} {H0 Hy : Hp} {Fs : Nat → List Addr} {ρ : Env} {σ : L2.St} {H : Hp} (s : SR K T9 H0 Hy Fs ρ σ H) (i : Nat) : SR K T9 H0 Hy (uF Fs i []) (ρ.set i none) (σ.set i none) H := by
  refine ⟨s.le, s.tbs, s.yng, s.ynt, s.sep, fun j a h => ?_, fun j => ?_, fun j l hjl a h h' => ?_, fun j d' n' y' h => ?_, by rw [List.length_set, List.length_set]; exact s.len⟩
  · by_cases hj : j = i
    · rw [hj, uF_same] at h; cases h
    · rw [uF_ne hj] at h; exact s.own j a h
  · by_cases hj : j = i
    · rw [hj, uF_same]; exact .nil
    · rw [uF_ne hj]; exact s.nod j
  · by_cases hj : j = i
    · rw [hj, uF_same] at h; cases h
    · rw [uF_ne hj] at h
      by_cases hl : l = i
      · rw [hl, uF_same] at h'; cases h'
      · rw [uF_ne hl] at h'; exact s.dis j l hjl a h h'
  · by_cases hj : j = i
    · subst hj
      have hlt : j < ρ.length := by
        rcases Nat.lt_or_ge j ρ.length with z | z
        · exact z
        · rw [List.getElem?_eq_none (by rw [List.length_set]; exact z)] at h; cases h
      rw [List.getElem?_set_self hlt] at h
      cases h
    · rw [List.getElem?_set_ne (Ne.symm hj)] at h
      obtain ⟨v', h1, h2⟩ := s.slot j d' n' y' h
      rw [uF_ne hj]
      exact ⟨v', by rw [List.getElem?_set_ne (Ne.symm hj)]; exact h1, h2⟩
def wE (ρ : Env) : List Nat → Env
  | [] => ρ
  | v :: vs => (wE ρ vs).set v none
def wF (Fs : Nat → List Addr) : List Nat → Nat → List Addr
  | [] => Fs
  | v :: vs => uF (wF Fs vs) v []
theorem SR.wipe {K : Fg} {H0 Hy : Hp} {Fs : Nat → List Addr} {ρ : Env} {σ : L2.St} {H : Hp} (s : SR K T9 H0 Hy Fs ρ σ H) : ∀ vs, SR K T9 H0 Hy (wF Fs vs) (wE ρ vs) (L2.wipe σ vs) H
  | [] => s
  | v :: vs => (SR.wipe s vs).kill v
abbrev Gm := D → Bool → Env → Option Env
def tDG (K : Fg) (T9 : List Addr) (vs : List Nat) (g : Gm) : TG := fun v σ H Q => ∃ H0 Hy Fs ρ d y ρ', SR K T9 H0 Hy Fs ρ σ H ∧ Rp K (lf y H0 Hy) v d ∧ g d y ρ = some ρ' ∧ ∀ σ' Fs', SR K T9 H0 Hy Fs' ρ' σ' H → L2.wipe σ' vs = L2.wipe σ vs → Q σ' H
def DG (X : Cx) (T9 : List Addr) (tg : Expr) (vs : List Nat) (g : Gm) : Prop := PG X tg (tDG X.K T9 vs g)
theorem PG.mono {X : Cx} {tg : Expr} {t t' : TG} (h : PG X tg t) (k : ∀ v σ H Q, t' v σ H Q → t v σ H Q) : PG X tg t' := fun pins s σ H v u Q I r q => h pins s σ H v u Q I r (k v σ H Q q)
def gN (i : Nat) : Gm := fun d y ρ => some (ρ.set i (some (d, 0, y)))
theorem wipe_set {σ : L2.St} {i : Nat} {x : Option V} : ∀ {vs : List Nat}, i ∈ vs → L2.wipe (σ.set i x) vs = L2.wipe σ vs
  | v :: vs, h => by
    have key : ∀ {ws : List Nat} {j : Nat}, j ∉ ws → L2.wipe (σ.set j x) ws = (L2.wipe σ ws).set j x := by
      intro ws
      induction ws with
      | nil => intro j _; rfl
      | cons w ws ih =>
        intro j hj
        show (L2.wipe (σ.set j x) ws).set w none = ((L2.wipe σ ws).set w none).set j x
        rw [ih (fun z => hj (List.mem_cons_of_mem _ z)), List.set_comm]
        intro z; exact hj (by rw [z]; exact List.mem_cons_self ..)
    show (L2.wipe (σ.set i x) vs).set v none = (L2.wipe σ vs).set v none
    by_cases hm : i ∈ vs
    · rw [wipe_set hm]
    · rcases List.mem_cons.mp h with e | e
      · rw [key hm, e, List.set_set]
      · exact absurd e hm
section
variable {X : Cx} {T9 : List Addr} {a b c : Expr} {pos : Pos} {fa fb fc : Sm}
theorem dg_name {i : Nat} {x : Str} {vs : List Nat} (hN : X.N.Nodup) (hi : X.N[i]? = some x) (hx : Loc X.env.scope x) (hv : i ∈ vs) (hf : X.fn x = true ∨ X.env.scope.names.lookup x = some .local := by first | exact .inl rfl | exact .inr rfl | assumption) : DG X T9 (.Name x pos) vs (gN i) := by
  refine PG.mono (pg_name hN hi hx hf) fun v σ H Q ⟨H0, Hy, Fs, ρ, d, y, ρ', s, r, hg, k⟩ => ?_
  cases hg
  exact k _ _ (s.set (i := i) (n := 0) (y := y) (v := v) (d := d) (F := []) ⟨rfl, r⟩ .nil (fun _ h => nomatch h) (fun _ _ _ h => nomatch h)) (wipe_set hv)
abbrev Gs := List D → Bool → Env → Option Env
def tDGs (K : Fg) (T9 : List Addr) (vs : List Nat) (g : Gs) : TGs := fun us σ H Q => ∃ H0 Hy Fs ρ ds y ρ', SR K T9 H0 Hy Fs ρ σ H ∧ RpA K (lf y H0 Hy) us ds ∧ g ds y ρ = some ρ' ∧ ∀ σ' Fs', SR K T9 H0 Hy Fs' ρ' σ' H → L2.wipe σ' vs = L2.wipe σ vs → Q σ' H
def DGs (X : Cx) (T9 : List Addr) (ts : List Expr) (vs : List Nat) (g : Gs) : Prop := PGs X ts (tDGs X.K T9 vs g)
theorem PGs.mono {ts : List Expr} {t t' : TGs} (h : PGs X ts t) (k : ∀ v σ H Q, t' v σ H Q → t v σ H Q) : PGs X ts t' := fun pins s σ H v u Q I r q => h pins s σ H v u Q I r (k v σ H Q q)
def gsN : Gs := fun ds _ ρ => match ds with | [] => some ρ | _ => none
def gsC (g : Gm) (r : Gs) : Gs := fun ds y ρ => match ds with | d :: ds => (g d y ρ).bind fun ρ' => r ds y ρ' | _ => none
theorem dgs_nil {vs : List Nat} : DGs X T9 [] vs gsN := by
  refine PGs.mono pgs_nil fun us σ H Q ⟨H0, Hy, Fs, ρ, ds, y, ρ', s, r, hg, k⟩ => ?_
  cases r with
  | nil => cases hg; exact ⟨rfl, k σ Fs s rfl⟩
  | cons => cases hg
theorem dgs_cons {e : Expr} {es : List Expr} {vs : List Nat} {g : Gm} {gr : Gs} (h1 : DG X T9 e vs g) (h2 : DGs X T9 es vs gr)
    (hs : (assignEach (e :: es) X.env).map (·.2) = assign e X.env :: (assignEach es X.env).map (·.2) := by rfl) : DGs X T9 (e :: es) vs (gsC g gr) := by
  refine PGs.mono (pgs_cons h1 h2 hs) fun us σ H Q ⟨H0, Hy, Fs, ρ, ds, y, ρ', s, r, hg, k⟩ => ?_
  cases r with
  | nil => cases hg
  | cons a b =>
    obtain ⟨ρ1, g1, g2⟩ := Option.bind_eq_some_iff.mp hg
    exact ⟨_, _, rfl, H0, Hy, Fs, ρ, _, y, ρ1, s, a, g1, fun σ1 Fs1 s1 w1 => ⟨H0, Hy, Fs1, ρ1, _, y, ρ', s1, b, g2, fun σ2 Fs2 s2 w2 => k σ2 Fs2 s2 (w2.trans w1)⟩⟩
def gT (n : Nat) (r : Gs) : Gm := fun d y ρ => match d with | .tuple ds => if ds.length = n then r ds y ρ else none | _ => none
theorem dg_tup {es : List Expr} {k n : Nat} {vs : List Nat} {gr : Gs} (hc : X.calm = true) (h : DGs X T9 es vs gr) (hn : (assignEach es X.env).length = n := by rfl) (hst : (assignEach es X.env).findIdx? (·.1) = none := by rfl) : DG X T9 (.Tuple es k pos) vs (gT n gr) := by
  refine PG.mono (pg_tup hc h hn hst) fun v σ H Q ⟨H0, Hy, Fs, ρ, d, y, ρ', s, r, hg, kk⟩ => ?_
  unfold gT at hg
  split at hg
  · split at hg
    · rename_i hl
      cases r with
      | tup hs hr => exact ⟨_, _, rfl, Same.sqT (s.sub y) hs, hr.len.trans hl, H0, Hy, Fs, ρ, _, y, ρ', s, hr, hg, kk⟩
    · cases hg
  · cases hg
structure ItOk (K : Fg) (H0 : Hp) (J : It) (Hb : Hp) (y : Bool) (ds : List D) : Prop where
  stop : ∀ i H Hy, Same Hb Hy → Same Hy H → Same (lf y H0 Hy) H → (∀ a, Hy a ≠ none → H0 a = none) → ds.length ≤ i → J.stop i H
  go : ∀ i H Hy d, Same Hb Hy → Same Hy H → Same (lf y H0 Hy) H → (∀ a, Hy a ≠ none → H0 a = none) → ds[i]? = some d → J.go i H
  yld : ∀ i H Hy d x H', Same Hb Hy → Same Hy H → NT Hy → Le H0 H → Same (lf y H0 Hy) H → (∀ a, Hy a ≠ none → H0 a = none) → ds[i]? = some d → J.yld i H x H' → ∃ Hy', Ext Hy H Hy' H' ∧ Rp K (lf y H0 Hy') x d
abbrev Si := Env → Option (List D × Bool)
def tDI (K : Fg) (T9 : List Addr) (f : Si) : TI := fun σ H R => ∃ H0 Hy Fs ρ ds y, SR K T9 H0 Hy Fs ρ σ H ∧ f ρ = some (ds, y) ∧ ∀ J Hy' H', Ext Hy H Hy' H' → ItOk K H0 J Hy' y ds → R J H'
def DI (X : Cx) (T9 : List Addr) (tg iter : Expr) (f : Si) : Prop := PI X tg iter (tDI X.K T9 f)
def iS (fa : Sm) : Si := fun ρ => (fa ρ).bind fun x => match x with
  | (.list ds, .own _ y) => some (ds, y)
  | (.tuple ds, .own 0 y) => some (ds, y)
  | _ => none
theorem sq_list {K : Fg} {H0 Hb : Hp} {y : Bool} {a : Addr} {xs : List V} {ds : List D} (h : SqL K (lf y H0 Hb) a xs) (r : RpA K (lf y H0 Hb) xs ds) : ItOk K H0 (Itl K a) Hb y ds := by
  have up : ∀ H Hy, Same Hb Hy → Same (lf y H0 Hy) H → (∀ a, Hy a ≠ none → H0 a = none) → SqL K H a xs := fun H Hy s1 s2 sp => Same.sqL s2 (Same.sqL (lf_mono s1 sp) h)
  refine ⟨fun i H Hy s1 _ s2 sp hl => ⟨xs, up H Hy s1 s2 sp, by rw [r.len]; exact hl⟩, fun i H Hy d s1 _ s2 sp hd => ?_, fun i H Hy d x H' s1 s1' ntt l s2 sp hd hy => ?_⟩
  · obtain ⟨v, h1, _⟩ := r.get hd
    exact ⟨xs, v, up H Hy s1 s2 sp, h1⟩
  · obtain ⟨rfl, hx⟩ := hy
    obtain ⟨v, h1, h2⟩ := r.get hd
    have := hx xs (up _ Hy s1 s2 sp)
    rw [h1] at this; cases this
    exact ⟨Hy, ⟨.refl _, .refl _, s1', ntt, fun _ h => .inl h⟩, h2.mono (lf_mono s1 sp)⟩
theorem sq_tup {K : Fg} {H0 Hb : Hp} {y : Bool} {a : Addr} {xs : List V} {ds : List D} (h : SqT K (lf y H0 Hb) a xs) (r : RpA K (lf y H0 Hb) xs ds) : ItOk K H0 (Itt K a) Hb y ds := by
  have up : ∀ H Hy, Same Hb Hy → Same (lf y H0 Hy) H → (∀ a, Hy a ≠ none → H0 a = none) → SqT K H a xs := fun H Hy s1 s2 sp => Same.sqT s2 (Same.sqT (lf_mono s1 sp) h)
  refine ⟨fun i H Hy s1 _ s2 sp hl => ⟨xs, up H Hy s1 s2 sp, by rw [r.len]; exact hl⟩, fun i H Hy d s1 _ s2 sp hd => ?_, fun i H Hy d x H' s1 s1' ntt l s2 sp hd hy => ?_⟩
  · obtain ⟨v, h1, _⟩ := r.get hd
    exact ⟨xs, v, up H Hy s1 s2 sp, h1⟩
  · obtain ⟨rfl, hx⟩ := hy
    obtain ⟨v, h1, h2⟩ := r.get hd
    have := hx xs (up _ Hy s1 s2 sp)
    rw [h1] at this; cases this
    exact ⟨Hy, ⟨.refl _, .refl _, s1', ntt, fun _ h => .inl h⟩, h2.mono (lf_mono s1 sp)⟩
theorem Vl.give {K : Fg} {H0 Hy H Hyb Hb : Hp} {v : V} {d : D} {n : Nat} {y : Bool} {F : List Addr} (vl : Vl K H0 Hy H v d (.own n y) F) (e : Ext Hyb Hb Hy H) (l0 : Le H0 Hb) (sp : ∀ a, Hy a ≠ none → H0 a = none) (hf : ∀ a ∈ F, Hb a = none) :
    ∃ Hy', Ext Hyb Hb Hy' H ∧ Same Hy Hy' ∧ Rp K (lf y H0 Hy') v d := by
  have eg := give_ext e vl.hy hf vl.lst
  have sp' : ∀ a, cut Hy H F a ≠ none → H0 a = none := fun a ha => by
    by_cases hb : a ∈ F
    · exact l0.fr (hf a hb)
    · rw [cut_out hb] at ha; exact sp a ha
  refine ⟨cut Hy H F, eg, cut_same vl.hy, (vl.own n y rfl).give (lf_mono (cut_same vl.hy) sp') fun a ha => ?_⟩
  obtain ⟨xs, q⟩ := vl.lst a ha
  have e2 : cut Hy H F a = some (.lst xs) := (cut_in ha).trans q
  rw [lf_any a _ e2, q]
theorem di_seq {tg : Expr} (ha : DE X T9 a fa) : DI X T9 tg a (iS fa) := by
  intro pins s0 σ H R I ⟨H0, Hy, Fs, ρ, ds, y, s, hf, k⟩
  obtain ⟨⟨dx, mx⟩, h1, hf⟩ := Option.bind_eq_some_iff.mp hf
  split at hf
  · rename_i e
    cases hf
    cases e
    refine pi_list ha pins s0 σ H R I ⟨H0, Hy, Fs, ρ, _, _, s, h1, fun x Hy1 H1 F1 e1 v1 f1 => ?_⟩
    have s1 := s.ext e1
    obtain ⟨Hy2, e2, sm, r⟩ := v1.give e1 s.le s1.sep f1
    have s2 := s.ext e2
    cases r with
    | lst hs hr => exact ⟨_, rfl, ⟨_, Same.sqL (s2.sub y) hs⟩, k _ Hy2 H1 e2 (sq_list hs hr)⟩
  · rename_i e
    cases hf
    cases e
    refine pi_tup ha pins s0 σ H R I ⟨H0, Hy, Fs, ρ, _, _, s, h1, fun x Hy1 H1 F1 e1 v1 f1 => ?_⟩
    have s1 := s.ext e1
    have r := (v1.own 0 y rfl).2
    cases r with
    | tup hs hr => exact ⟨_, rfl, ⟨_, Same.sqT (s1.sub y) hs⟩, k _ Hy1 H1 e1 (sq_tup hs hr)⟩
  · cases hf
def rgD2 (lo : Int) (n : Nat) : List D := (List.range n).map fun i => .int (lo + (i : Nat))
theorem sq_range {K : Fg} {H0 Hb : Hp} {lo : Int} {n : Nat} : ItOk K H0 (Itr lo n) Hb true (rgD2 lo n) := by
  refine ⟨fun i H Hy _ _ _ _ hl => by show n ≤ i; unfold rgD2 at hl; rw [List.length_map, List.length_range] at hl; exact hl, fun i H Hy d _ _ _ _ hd => ?_, fun i H Hy d x H' s1 s1' ntt l s2 sp hd hy => ?_⟩
  · show i < n
    have := (List.getElem?_eq_some_iff.mp hd).1
    unfold rgD2 at this; rw [List.length_map, List.length_range] at this; exact this
  · obtain ⟨rfl, rfl⟩ := hy
    refine ⟨Hy, ⟨.refl _, .refl _, s1', ntt, fun _ h => .inl h⟩, ?_⟩
    have hlt := (List.getElem?_eq_some_iff.mp hd).1
    unfold rgD2 at hd hlt
    rw [List.length_map, List.length_range] at hlt
    rw [List.getElem?_map, List.getElem?_range hlt] at hd
    cases hd
    exact .int _
def iR1 (fa : Sm) : Si := fun ρ => (fa ρ).bind fun x => match x.1 with | .int j => if -(2 ^ 62) ≤ j ∧ j < 2 ^ 62 then some (rgD2 0 j.toNat, true) else none | _ => none
theorem PI.mono {tg iter : Expr} {t t' : TI} (h : PI X tg iter t) (k : ∀ σ H R, t' σ H R → t σ H R) : PI X tg iter t' := fun pins s σ H R I q => h pins s σ H R I (k σ H R q)
theorem di_r1 {tg : Expr} {p : Pos} (hg : Gl X "range") (hm : X.mg "range" = none) (ha : DE X T9 a fa) (hs : starEach [a] X.env = [(false, eval a X.env)] := by rfl) : DI X T9 tg (.Call (.Name "range" p) [a] [] pos) (iR1 fa) := by
  refine PI.mono (pi_range1 hg hm (da_cons ha da_nil hs) hs) fun σ H R ⟨H0, Hy, Fs, ρ, ds, y, s, hf, k⟩ => ?_
  obtain ⟨⟨dx, mx⟩, h1, hf⟩ := Option.bind_eq_some_iff.mp hf
  refine ⟨H0, Hy, Fs, ρ, [(dx, mx)], s, by simp only [aCons, aNil, h1, Option.bind_some], fun vs Hy1 H1 F1 e1 va f1 => ?_⟩
  cases va with
  | cons v1 rest n =>
    cases rest
    simp only at hf
    split at hf
    · split at hf
      · rename_i hj
        cases hf
        exact ⟨_, by rw [v1.rep.int_inv], hj.1, hj.2, k _ Hy1 H1 e1 sq_range⟩
      · cases hf
    · cases hf
def enD (ds : List D) : List D := ds.zipIdx.map fun x => .tuple [.int (x.2 : Nat), x.1]
def iE (fa : Sm) : Si := fun ρ => (fa ρ).bind fun x => match x with
  | (.list ds, .own _ y) => some (enD ds, y)
  | _ => none
theorem enD_get {ds : List D} {i : Nat} {d : D} (h : (enD ds)[i]? = some d) : ∃ e, ds[i]? = some e ∧ d = .tuple [.int (i : Nat), e] := by
  unfold enD at h
  rw [List.getElem?_map] at h
  obtain ⟨⟨e, j⟩, h1, h2⟩ := Option.map_eq_some_iff.mp h
  rw [List.getElem?_zipIdx] at h1
  obtain ⟨e', h3, h4⟩ := Option.map_eq_some_iff.mp h1
  cases h4
  exact ⟨_, h3, by rw [← h2]; simp⟩
theorem pair_new {K : Fg} {H0 Hy H : Hp} {y : Bool} {T : Addr} {us : List V} {es : List D} (s1 : Same Hy H) (ntt : NT Hy) (l : Le H0 H) (sp : ∀ a, Hy a ≠ none → H0 a = none) (hT : H T = none) (r : RpA K (lf y H0 Hy) us es) :
    ∃ Hy', Ext Hy H Hy' (upd H T (.tup us)) ∧ Rp K (lf y H0 Hy') (.ref T) (.tuple es) := by
  have tn : Hy T = none := hy_none s1 hT
  have s2 : Same Hy (upd Hy T (.tup us)) := fun b o q => by rw [upd_ne (ne_of_none q tn)]; exact q
  have sp2 : ∀ a, upd Hy T (.tup us) a ≠ none → H0 a = none := fun a ha => by
    by_cases hb : a = T
    · rw [hb]; exact l.fr hT
    · rw [upd_ne hb] at ha; exact sp a ha
  refine ⟨upd Hy T (.tup us), ⟨Le.upd hT, s2, fun b o q => ?_, fun b o q => ?_, fun b q => ?_⟩, .tup (SqT.of (lf_any T _ upd_same)) (r.mono (lf_mono s2 sp2))⟩
  · by_cases hb : b = T
    · rw [hb, upd_same] at q ⊢; exact q
    · rw [upd_ne hb] at q ⊢; exact s1 b o q
  · by_cases hb : b = T
    · rw [hb, upd_same] at q; cases q; intro ps z; cases z
    · rw [upd_ne hb] at q; exact ntt b o q
  · by_cases hb : b = T
    · rw [hb]; exact .inr hT
    · rw [upd_ne hb] at q; exact .inl q
theorem sq_enum {K : Fg} {H0 Hb : Hp} {y : Bool} {a : Addr} {xs : List V} {ds : List D} (h : SqL K (lf y H0 Hb) a xs) (r : RpA K (lf y H0 Hb) xs ds) : ItOk K H0 (Ite K a) Hb y (enD ds) := by
  have up : ∀ H Hy, Same Hb Hy → Same (lf y H0 Hy) H → (∀ a, Hy a ≠ none → H0 a = none) → SqL K H a xs := fun H Hy s1 s2 sp => Same.sqL s2 (Same.sqL (lf_mono s1 sp) h)
  refine ⟨fun i H Hy s1 _ s2 sp hl => ⟨xs, up H Hy s1 s2 sp, by rw [r.len]; unfold enD at hl; rw [List.length_map, List.length_zipIdx] at hl; exact hl⟩, fun i H Hy d s1 _ s2 sp hd => ?_, fun i H Hy d x H' s1 s1' ntt l s2 sp hd hy => ?_⟩
  · obtain ⟨e, h0, _⟩ := enD_get hd
    obtain ⟨v, h1, _⟩ := r.get h0
    exact ⟨xs, v, up H Hy s1 s2 sp, h1⟩
  · obtain ⟨T, x', rfl, hT, rfl, hx⟩ := hy
    obtain ⟨e, h0, rfl⟩ := enD_get hd
    obtain ⟨v, h1, h2⟩ := r.get h0
    have := hx xs (up _ Hy s1 s2 sp)
    rw [h1] at this; cases this
    exact pair_new s1' ntt l sp hT (.cons (.int _) (.cons (h2.mono (lf_mono s1 sp)) .nil))
theorem di_enum {p tpos : Pos} {elts : List Expr} {kk : Nat} (hg : Gl X "enumerate") (hm : X.mg "enumerate" = none) (ha : DE X T9 a fa) (hs : starEach [a] X.env = [(false, eval a X.env)] := by rfl) : DI X T9 (.Tuple elts kk tpos) (.Call (.Name "enumerate" p) [a] [] pos) (iE fa) := by
  refine PI.mono (pi_enum hg hm (da_cons ha da_nil hs) hs) fun σ H R ⟨H0, Hy, Fs, ρ, ds, y, s, hf, k⟩ => ?_
  obtain ⟨⟨dx, mx⟩, h1, hf⟩ := Option.bind_eq_some_iff.mp hf
  refine ⟨H0, Hy, Fs, ρ, [(dx, mx)], s, by simp only [aCons, aNil, h1, Option.bind_some], fun vs Hy1 H1 F1 e1 va f1 => ?_⟩
  have s1 := s.ext e1
  cases va with
  | cons v1 rest n =>
    cases rest
    split at hf
    · rename_i e
      cases hf
      cases e
      obtain ⟨Hy2, e2, sm, r⟩ := v1.give e1 s.le s1.sep fun a ha => f1 a (List.mem_append_left _ ha)
      have s2 := s.ext e2
      cases r with
      | lst hs hr => exact ⟨_, _, rfl, Same.sqL (s2.sub y) hs, k _ Hy2 H1 e2 (sq_enum hs hr)⟩
    · cases hf
end
end EV
namespace EV
open PySem PySem.Spec PyProof.Rows L2
inductive Fw | nx (ρ : Env) | rt (d : D) (n : Nat) | bk (ρ : Env) | ct (ρ : Env)
abbrev Ss := Env → Option Fw
structure Rt (K : Fg) (H0 Hy H : Hp) (v : V) (d : D) (n : Nat) (G : List Addr) : Prop where
  le : Le H0 H
  sm : Same Hy H
  nt : NT Hy
  sp : ∀ a, Hy a ≠ none → H0 a = none
  ow : Own K Hy H n v d G
  nd : G.Nodup
  fr : ∀ a ∈ G, H0 a = none ∧ Hy a = none
def Fn (K : Fg) (T9 : List Addr) (H0 Hy : Hp) (w : Fw) (E : Ends) : Prop := match w with
  | .nx ρ => ∀ σ H Hy' Fs, SR K T9 H0 Hy' Fs ρ σ H → Same Hy Hy' → E.nx σ H
  | .bk ρ => ∀ σ H Hy' Fs, SR K T9 H0 Hy' Fs ρ σ H → Same Hy Hy' → E.bk σ H
  | .ct ρ => ∀ σ H Hy' Fs, SR K T9 H0 Hy' Fs ρ σ H → Same Hy Hy' → E.ct σ H
  | .rt d n => ∀ v H Hy' G, Rt K H0 Hy' H v d n G → E.rt v H
def tDS (K : Fg) (T9 : List Addr) (f : Ss) : TS := fun E σ H => ∃ H0 Hy Fs ρ w, SR K T9 H0 Hy Fs ρ σ H ∧ f ρ = some w ∧ Fn K T9 H0 Hy w E
def DS (X : Cx) (T9 : List Addr) (st : Stmt) (f : Ss) : Prop := PS X st (tDS X.K T9 f)
def DSs (X : Cx) (T9 : List Addr) (st : List Stmt) (f : Ss) : Prop := PSs X st (tDS X.K T9 f)
theorem PS.mono {X : Cx} {st : Stmt} {t t' : TS} (h : PS X st t) (k : ∀ E σ H, t' E σ H → t E σ H) : PS X st t' := fun pins s σ H E I q => h pins s σ H E I (k E σ H q)
theorem PSs.mono {X : Cx} {st : List Stmt} {t t' : TS} (h : PSs X st t) (k : ∀ E σ H, t' E σ H → t E σ H) : PSs X st t' := fun pins s σ H E I q => h pins s σ H E I (k E σ H q)
theorem Fn.up {K : Fg} {T9 : List Addr} {H0 Hy Hy1 : Hp} {w : Fw} {E : Ends} (h : Fn K T9 H0 Hy w E) (s : Same Hy Hy1) : Fn K T9 H0 Hy1 w E := by
  cases w with
  | nx ρ => exact fun σ H Hy' Fs q z => h σ H Hy' Fs q (s.trans z)
  | bk ρ => exact fun σ H Hy' Fs q z => h σ H Hy' Fs q (s.trans z)
  | ct ρ => exact fun σ H Hy' Fs q z => h σ H Hy' Fs q (s.trans z)
  | rt d n => exact h
section
variable {X : Cx} {T9 : List Addr} {a b c : Expr} {pos : Pos} {fa fb fc : Sm} {st : Stmt} {rest : List Stmt} {f g : Ss}
def sSeq (f g : Ss) : Ss := fun ρ => (f ρ).bind fun w => match w with | .nx ρ' => g ρ' | w => some w
def sNil : Ss := fun ρ => some (.nx ρ)
theorem dss_nil : DSs X T9 [] sNil := PSs.mono pss_nil fun E σ H ⟨H0, Hy, Fs, ρ, w, s, hf, k⟩ => by
  cases hf
  exact k σ H Hy Fs s (.refl _)
theorem dss_one (h : DS X T9 st f) : DSs X T9 [st] f := pss_one h
theorem dss_cons (h1 : DS X T9 st f) (h2 : DSs X T9 rest g) : DSs X T9 (st :: rest) (sSeq f g) := by
  refine PSs.mono (pss_cons h1 h2) fun E σ H ⟨H0, Hy, Fs, ρ, w, s, hf, k⟩ => ?_
  obtain ⟨w1, h1, hf⟩ := Option.bind_eq_some_iff.mp hf
  refine ⟨H0, Hy, Fs, ρ, w1, s, h1, ?_⟩
  cases w1 with
  | nx ρ1 => exact fun σ1 H1 Hy1 Fs1 s1 z => ⟨H0, Hy1, Fs1, ρ1, w, s1, hf, k.up z⟩
  | bk ρ1 => cases hf; exact k
  | ct ρ1 => cases hf; exact k
  | rt d n => cases hf; exact k
theorem ds_never : DS X T9 st (fun _ => none) := PS.mono ps_never fun E σ H ⟨H0, Hy, Fs, ρ, w, s, hf, k⟩ => by cases hf
def sIf (c : Tm) (f g : Ss) : Ss := fun ρ => (c ρ).bind fun b => if b = true then f ρ else g ρ
theorem ds_if {ca cb : List Stmt} {tc : Tm} (hc : DT X T9 c tc) (h1 : DSs X T9 ca f) (h2 : DSs X T9 cb g) : DS X T9 (.If c ca cb pos) (sIf tc f g) := by
  refine PS.mono (ps_if hc h1 h2) fun E σ H ⟨H0, Hy, Fs, ρ, w, s, hf, k⟩ => ?_
  obtain ⟨b, hb, hf⟩ := Option.bind_eq_some_iff.mp hf
  refine ⟨H0, Hy, Fs, ρ, b, s, hb, fun Hy1 H1 e1 => ?_⟩
  by_cases hh : b = true
  · rw [if_pos hh] at hf ⊢
    exact ⟨H0, Hy1, Fs, ρ, w, s.ext e1, hf, k.up e1.yn⟩
  · rw [if_neg hh] at hf ⊢
    exact ⟨H0, Hy1, Fs, ρ, w, s.ext e1, hf, k.up e1.yn⟩
def sRet (fa : Sm) : Ss := fun ρ => (fa ρ).bind fun x => match x.2 with | .own n true => some (.rt x.1 n) | _ => none
theorem ds_ret (ha : DE X T9 a fa) : DS X T9 (.Return (some a) pos) (sRet fa) := by
  refine PS.mono (ps_ret ha) fun E σ H ⟨H0, Hy, Fs, ρ, w, s, hf, k⟩ => ?_
  obtain ⟨⟨d, m⟩, h1, hf⟩ := Option.bind_eq_some_iff.mp hf
  simp only at hf
  split at hf
  · rename_i n
    cases hf
    refine ⟨H0, Hy, Fs, ρ, d, _, s, h1, fun v Hy1 H1 F e1 vl fr => ?_⟩
    have s1 := s.ext e1
    exact k v H1 Hy1 F ⟨s1.le, s1.yng, s1.ynt, s1.sep, vl.own n true rfl, vl.nod, fun a ha => ⟨s.le.fr (fr a ha), vl.hy a ha⟩⟩
  · cases hf
def sRetV (i : Nat) : Ss := fun ρ => match ρ[i]? with
  | some (some (d, n, y)) => if flatD d = true then some (.rt d 0) else if y = true then some (.rt d n) else none
  | _ => none
theorem ds_retV {i : Nat} {x : Str} {p : Pos} (hN : X.N[i]? = some x) (hv : Vis X.env.scope x) (hd : (x == ("__debug__" : Str)) = false := by decide) (hcd : (x == ("__classdict__" : Str)) = false := by decide) : DS X T9 (.Return (some (.Name x p)) pos) (sRetV i) := by
  refine PS.mono (ps_ret (pe_var hN hv hd hcd)) fun E σ H ⟨H0, Hy, Fs, ρ, w, s, hf, k⟩ => ?_
  unfold sRetV at hf
  split at hf
  · rename_i d n y hρ
    obtain ⟨v, h1, h2, h3⟩ := SR.rp s hρ
    refine ⟨v, h1, ?_⟩
    split at hf
    · rename_i hfl
      cases hf
      exact k v H Hy [] ⟨s.le, s.yng, s.ynt, s.sep, Own.flat (h2.fl hfl) 0, .nil, (fun _ h => nomatch h)⟩
    · split at hf
      · rename_i hy
        cases hf
        subst hy
        exact k v H Hy (Fs i) ⟨s.le, s.yng, s.ynt, s.sep, h3, s.nod i, fun a ha => ⟨(s.own i a ha).1, (s.own i a ha).2.1⟩⟩
      · cases hf
  · cases hf
def sAsg (i : Nat) (fa : Sm) : Ss := fun ρ => (fa ρ).bind fun x => match x.2 with | .own n y => some (.nx (ρ.set i (some (x.1, n, y)))) | _ => none
theorem asg_imp {K : Fg} {i : Nat} {te : TE} (ht : ∀ σ H Q, tD K T9 fa σ H Q → te σ H Q) {E : Ends} {σ : L2.St} {H : Hp} (h : tDS K T9 (sAsg i fa) E σ H) : tAsg te (gName i) E σ H := by
  obtain ⟨H0, Hy, Fs, ρ, w, s, hf, k⟩ := h
  obtain ⟨⟨d, m⟩, h1, hf⟩ := Option.bind_eq_some_iff.mp hf
  simp only at hf
  split at hf
  · rename_i n y
    cases hf
    refine ht σ H _ ⟨H0, Hy, Fs, ρ, d, _, s, h1, fun v Hy1 H1 F e1 vl fr => ?_⟩
    have s1 := s.ext e1
    refine k _ H1 Hy1 _ (s1.set (i := i) (vl.own n y rfl) vl.nod (fun a ha => ⟨s.le.fr (fr a ha), vl.hy a ha⟩) fun j _ a ha hj => ?_) e1.yn
    obtain ⟨_, _, xs, q⟩ := s.own j a hj
    rw [fr a ha] at q; cases q
  · cases hf
theorem ds_asg {i : Nat} {x : Str} {pos' : Pos} (hN : X.N.Nodup) (hi : X.N[i]? = some x) (hx : Loc X.env.scope x) (ha : DE X T9 a fa) (hs : swapsWith a (some (.Name x pos')) pos.line X.env = pure false := by rfl) (hf : X.fn x = true ∨ X.env.scope.names.lookup x = some .local := by first | exact .inl rfl | exact .inr rfl | assumption) :
    DS X T9 (.Assign [.Name x pos'] a pos) (sAsg i fa) := PS.mono (ps_set hN hi hx ha hs hf) fun E σ H h => asg_imp (fun _ _ _ z => z) h
def sUnp (fa : Sm) (g : Gm) : Ss := fun ρ => (fa ρ).bind fun x => match x.2 with | .own _ y => (g x.1 y ρ).map .nx | _ => none
theorem ds_unp {tg : Expr} {vs : List Nat} {gg : Gm} (ha : DE X T9 a fa) (hg : DG X T9 tg vs gg) (hs : swapsWithSole [tg] a pos.line X.env = pure false := by rfl) (hw : swappedStores [tg] a X.env = pure none := by rfl)
    (h1 : (assignEach [tg] X.env).map (·.2) = [assign tg X.env] := by rfl) : DS X T9 (.Assign [tg] a pos) (sUnp fa gg) := by
  refine PS.mono (ps_asg ha hg hs hw h1) fun E σ H ⟨H0, Hy, Fs, ρ, w, s, hf, k⟩ => ?_
  obtain ⟨⟨d, m⟩, h1, hf⟩ := Option.bind_eq_some_iff.mp hf
  simp only at hf
  split at hf
  · rename_i n y
    obtain ⟨ρ', h2, hf⟩ := Option.map_eq_some_iff.mp hf
    subst hf
    refine ⟨H0, Hy, Fs, ρ, d, _, s, h1, fun v Hy1 H1 F e1 vl fr => ?_⟩
    obtain ⟨Hy2, e2, sm, r⟩ := vl.give e1 s.le (s.ext e1).sep fr
    exact ⟨H0, Hy2, Fs, ρ, d, y, ρ', s.ext e2, r, h2, fun σ' Fs' s' _ => k σ' H1 Hy2 Fs' s' e2.yn⟩
  · cases hf
def sPar (i j : Nat) (fr : Sa) : Ss := fun ρ => (fr ρ).bind fun r => match r with
  | [(d, .own n y), (d', .own n' y')] => some (.nx ((ρ.set i (some (d, n, y))).set j (some (d', n', y'))))
  | _ => none
theorem ds_par {i j : Nat} {x y : Str} {fr : Sa} {px py pt : Pos} {kt k2 pt2} (hc : X.calm = true) (hN : X.N.Nodup) (hi : X.N[i]? = some x) (hj : X.N[j]? = some y) (hij : i ≠ j)
    (hx : X.env.scope.names.lookup x = some .local) (hy : X.env.scope.names.lookup y = some .local) (ha : DA X T9 [a, b] fr)
    (hw : swappedStores [.Tuple [.Name x px, .Name y py] kt pt] (.Tuple [a, b] k2 pt2) X.env = pure (some [x, y]))
    (hs : swapsWithSole [.Tuple [.Name x px, .Name y py] kt pt] (.Tuple [a, b] k2 pt2) pos.line X.env = pure false := by rfl) :
    DS X T9 (.Assign [.Tuple [.Name x px, .Name y py] kt pt] (.Tuple [a, b] k2 pt2) pos) (sPar i j fr) := by
  refine PS.mono (ps_par hc hN hi hj hij hx hy ha hw hs) fun E σ H ⟨H0, Hy, Fs, ρ, w, s, hf, k⟩ => ?_
  obtain ⟨r, h1, hf⟩ := Option.bind_eq_some_iff.mp hf
  split at hf
  · rename_i d n yy d' n' y'
    cases hf
    refine ⟨H0, Hy, Fs, ρ, _, s, h1, fun us Hy1 H1 F e1 va fr => ?_⟩
    have s1 := s.ext e1
    cases va with
    | cons v1 rest dj =>
      cases rest with
      | cons v2 rest2 dj2 =>
        cases rest2
        refine ⟨_, _, rfl, ?_⟩
        have fs : ∀ j a, a ∈ Fs j → H a ≠ none := fun j a hj z => by
          obtain ⟨_, _, xs, q⟩ := s.own j a hj
          rw [z] at q; cases q
        have q1 := s1.set (i := i) (v1.own n yy rfl) v1.nod (fun a ha => ⟨s.le.fr (fr a (List.mem_append_left _ ha)), v1.hy a ha⟩) fun j _ a ha hj => fs j a hj (fr a (List.mem_append_left _ ha))
        have q2 := q1.set (i := j) (v2.own n' y' rfl) v2.nod (fun a ha => ⟨s.le.fr (fr a (List.mem_append_right _ (List.mem_append_left _ ha))), v2.hy a ha⟩) fun l hl a ha hj => by
          by_cases hli : l = i
          · rw [hli, uF_same] at hj
            exact dj a hj (List.mem_append_left _ ha)
          · rw [uF_ne hli] at hj
            exact fs l a hj (fr a (List.mem_append_right _ (List.mem_append_left _ ha)))
        exact k _ H1 Hy1 _ q2 e1.yn
  · cases hf
def shE (i : Nat) (ρ : Env) : Env := match ρ[i]? with
  | some (some (d, n, y)) => ρ.set i (some (d, 0, y))
  | _ => ρ
theorem SR.share {K : Fg} {H0 Hy : Hp} {Fs : Nat → List Addr} {ρ : Env} {σ : L2.St} {H : Hp} (s : SR K T9 H0 Hy Fs ρ σ H) (i : Nat) : ∃ Hy' Fs', Same Hy Hy' ∧ SR K T9 H0 Hy' Fs' (shE i ρ) σ H := by
  unfold shE
  split
  · rename_i d n y hρ
    obtain ⟨v, h1, h2, h3⟩ := SR.rp s hρ
    have hyF : ∀ a ∈ Fs i, Hy a = none := fun a ha => (s.own i a ha).2.1
    have sm : Same Hy (cut Hy H (Fs i)) := cut_same hyF
    have sp' : ∀ a, cut Hy H (Fs i) a ≠ none → H0 a = none := fun a ha => by
      by_cases hb : a ∈ Fs i
      · exact (s.own i a hb).1
      · rw [cut_out hb] at ha; exact s.sep a ha
    have ntt : NT (cut Hy H (Fs i)) := fun a o h => by
      by_cases hb : a ∈ Fs i
      · rw [cut_in hb] at h
        obtain ⟨_, _, xs, q⟩ := s.own i a hb
        rw [h] at q; cases q; intro ps z; cases z
      · rw [cut_out hb] at h; exact s.ynt a o h
    have r : Rp K (lf y H0 (cut Hy H (Fs i))) v d := h3.give (lf_mono sm sp') fun a ha => by
      obtain ⟨_, _, xs, q⟩ := s.own i a ha
      have e2 : cut Hy H (Fs i) a = some (.lst xs) := (cut_in ha).trans q
      rw [lf_any a _ e2, q]
    have hlt : i < ρ.length := (List.getElem?_eq_some_iff.mp hρ).1
    refine ⟨cut Hy H (Fs i), uF Fs i [], sm, ⟨s.le, s.tbs, cut_sm s.yng, ntt, sp', fun j a h => ?_, fun j => ?_, fun j l hjl a h h' => ?_, fun j d' n' y' h => ?_, by rw [List.length_set]; exact s.len⟩⟩
    · by_cases hj : j = i
      · rw [hj, uF_same] at h; cases h
      · rw [uF_ne hj] at h
        obtain ⟨q1, q2, q3⟩ := s.own j a h
        exact ⟨q1, by rw [cut_out (s.dis j i hj a h)]; exact q2, q3⟩
    · by_cases hj : j = i
      · rw [hj, uF_same]; exact .nil
      · rw [uF_ne hj]; exact s.nod j
    · by_cases hj : j = i
      · rw [hj, uF_same] at h; cases h
      · rw [uF_ne hj] at h
        by_cases hl : l = i
        · rw [hl, uF_same] at h'; cases h'
        · rw [uF_ne hl] at h'; exact s.dis j l hjl a h h'
    · by_cases hj : j = i
      · subst hj
        rw [List.getElem?_set_self hlt] at h
        cases h
        rw [uF_same]
        exact ⟨v, h1, Eq.refl _, r⟩
      · rw [List.getElem?_set_ne (Ne.symm hj)] at h
        obtain ⟨v', q1, q2⟩ := s.slot j d' n' y' h
        rw [uF_ne hj]
        exact ⟨v', q1, q2.mono (lf_mono sm sp') fun _ _ _ z => z⟩
  · exact ⟨Hy, Fs, .refl _, s⟩
def sSh (i : Nat) (f : Ss) : Ss := fun ρ => f (shE i ρ)
theorem ds_sh (i : Nat) (h : DS X T9 st f) : DS X T9 st (sSh i f) := PS.mono h fun E σ H ⟨H0, Hy, Fs, ρ, w, s, hf, k⟩ => by
  obtain ⟨Hy1, Fs1, sm, s1⟩ := s.share i
  exact ⟨H0, Hy1, Fs1, shE i ρ, w, s1, hf, k.up sm⟩
def loopF (g : Gm) (f : Ss) (y : Bool) : List D → Ss
  | [], ρ => some (.nx ρ)
  | d :: ds, ρ => (g d y ρ).bind fun ρ1 => (f ρ1).bind fun w => match w with
    | .nx ρ2 => loopF g f y ds ρ2
    | .ct ρ2 => loopF g f y ds ρ2
    | .bk ρ2 => some (.nx ρ2)
    | .rt d n => some (.rt d n)
def sFor (it : Si) (g : Gm) (f : Ss) : Ss := fun ρ => (it ρ).bind fun x => loopF g f x.2 x.1 ρ
theorem ds_for {tg iter : Expr} {body : List Stmt} {vs : List Nat} {it : Si} {gg : Gm} (hc : X.calm = true) (hp : PassesOwn (model X.prog X.w) X.A X.env X.xe) (hi : DI X T9 tg iter it) (hg : DG X T9 tg vs gg) (hb : DSs X T9 body f) (hs : ∀ x, foldedSetIterable iter X.env x = pure x := by intro _; rfl) :
    DS X T9 (.For tg iter body [] pos) (sFor it gg f) := by
  refine PS.mono (ps_for hp hc hi hg hb hs) fun E σ H ⟨H0, Hy, Fs, ρ, w, s, hf, k⟩ => ?_
  obtain ⟨⟨ds, y⟩, h1, hf⟩ := Option.bind_eq_some_iff.mp hf
  refine ⟨H0, Hy, Fs, ρ, ds, y, s, h1, fun J Hy1 H1 e1 ok => ?_⟩
  have s1 := s.ext e1
  refine ⟨fun i m σ H => ∃ Hy2 Fs2 ρ2, SR X.K T9 H0 Hy2 Fs2 ρ2 σ H ∧ Same Hy1 Hy2 ∧ loopF gg f y (ds.drop i) ρ2 = some w ∧ m = ds.length - i, ⟨ds.length, Hy1, Fs, ρ, s1, .refl _, by simpa using hf, rfl⟩, ?_⟩
  rintro i m σ2 H2 ⟨Hy2, Fs2, ρ2, s2, sm, hl, rfl⟩
  by_cases hi : i < ds.length
  · right
    have hd : ds[i]? = some ds[i] := List.getElem?_eq_getElem hi
    rw [List.drop_eq_getElem_cons hi] at hl
    obtain ⟨ρ3, h3, hl⟩ := Option.bind_eq_some_iff.mp hl
    obtain ⟨w', h4, hl⟩ := Option.bind_eq_some_iff.mp hl
    refine ⟨ok.go i H2 Hy2 _ sm s2.yng (s2.sub y) s2.sep hd, fun σ' H' => ∃ Hy3 Fs3 ρ4, SR X.K T9 H0 Hy3 Fs3 ρ4 σ' H' ∧ Same Hy1 Hy3 ∧ loopF gg f y (ds.drop (i + 1)) ρ4 = some w, ?_, fun x H' hy => ?_⟩
    · rintro σ' H' ⟨Hy3, Fs3, ρ4, q1, q2, q3⟩
      exact ⟨ds.length - (i + 1), by omega, Hy3, Fs3, ρ4, q1, q2, q3, rfl⟩
    · obtain ⟨Hy3, e3, r3⟩ := ok.yld i H2 Hy2 _ x H' sm s2.yng s2.ynt s2.le (s2.sub y) s2.sep hd hy
      refine ⟨H0, Hy3, Fs2, ρ2, _, y, ρ3, s2.ext e3, r3, h3, fun σ4 Fs4 s4 _ => ?_⟩
      refine ⟨H0, Hy3, Fs4, ρ3, w', s4, h4, ?_⟩
      cases w' with
      | nx ρ5 => exact fun σ5 H5 Hy5 Fs5 s5 z => ⟨Hy5, Fs5, ρ5, s5, (sm.trans e3.yn).trans z, hl⟩
      | ct ρ5 => exact fun σ5 H5 Hy5 Fs5 s5 z => ⟨Hy5, Fs5, ρ5, s5, (sm.trans e3.yn).trans z, hl⟩
      | bk ρ5 =>
        cases hl
        exact fun σ5 H5 Hy5 Fs5 s5 z => k σ5 H5 Hy5 Fs5 s5 (e1.yn.trans ((sm.trans e3.yn).trans z))
      | rt d n =>
        cases hl
        exact k
  · left
    rw [List.drop_of_length_le (by omega)] at hl
    cases hl
    exact ⟨ok.stop i H2 Hy2 sm s2.yng (s2.sub y) s2.sep (by omega), k σ2 H2 Hy2 Fs2 s2 (e1.yn.trans sm)⟩
def whileF (c : Tm) (f : Ss) : Nat → Ss
  | 0, ρ => (c ρ).bind fun b => if b = true then none else some (.nx ρ)
  | n + 1, ρ => (c ρ).bind fun b => if b = true then (f ρ).bind fun w => match w with
    | .nx ρ2 => whileF c f n ρ2
    | .ct ρ2 => whileF c f n ρ2
    | .bk ρ2 => some (.nx ρ2)
    | .rt d n => some (.rt d n) else some (.nx ρ)
theorem ds_while {body : List Stmt} {tc : Tm} (n : Nat) (hp : PassesOwn (model X.prog X.w) X.A X.env X.xe) (hc : DT X T9 c tc) (hb : DSs X T9 body f) : DS X T9 (.While c body [] pos) (whileF tc f n) := by
  refine PS.mono (ps_while hp hc hb) fun E σ H ⟨H0, Hy, Fs, ρ, w, s, hf, k⟩ => ?_
  refine ⟨fun m σ H => ∃ Hy2 Fs2 ρ2, SR X.K T9 H0 Hy2 Fs2 ρ2 σ H ∧ Same Hy Hy2 ∧ whileF tc f m ρ2 = some w, ⟨n, Hy, Fs, ρ, s, .refl _, hf⟩, ?_⟩
  rintro m σ2 H2 ⟨Hy2, Fs2, ρ2, s2, sm, hl⟩
  cases m with
  | zero =>
    obtain ⟨b, hb, hl⟩ := Option.bind_eq_some_iff.mp hl
    refine ⟨H0, Hy2, Fs2, ρ2, b, s2, hb, fun Hy3 H3 e3 => ?_⟩
    by_cases hh : b = true
    · rw [if_pos hh] at hl; cases hl
    · rw [if_neg hh] at hl ⊢
      cases hl
      exact k σ2 H3 Hy3 Fs2 (s2.ext e3) (sm.trans e3.yn)
  | succ m =>
    obtain ⟨b, hb, hl⟩ := Option.bind_eq_some_iff.mp hl
    refine ⟨H0, Hy2, Fs2, ρ2, b, s2, hb, fun Hy3 H3 e3 => ?_⟩
    by_cases hh : b = true
    · rw [if_pos hh] at hl ⊢
      obtain ⟨w', h4, hl⟩ := Option.bind_eq_some_iff.mp hl
      refine ⟨fun σ' H' => ∃ Hy3 Fs3 ρ4, SR X.K T9 H0 Hy3 Fs3 ρ4 σ' H' ∧ Same Hy Hy3 ∧ whileF tc f m ρ4 = some w, ?_, H0, Hy3, Fs2, ρ2, w', s2.ext e3, h4, ?_⟩
      · rintro σ' H' ⟨Hy3, Fs3, ρ4, q1, q2, q3⟩
        exact ⟨m, by omega, Hy3, Fs3, ρ4, q1, q2, q3⟩
      · cases w' with
        | nx ρ5 => exact fun σ5 H5 Hy5 Fs5 s5 z => ⟨Hy5, Fs5, ρ5, s5, (sm.trans e3.yn).trans z, hl⟩
        | ct ρ5 => exact fun σ5 H5 Hy5 Fs5 s5 z => ⟨Hy5, Fs5, ρ5, s5, (sm.trans e3.yn).trans z, hl⟩
        | bk ρ5 =>
          cases hl
          exact fun σ5 H5 Hy5 Fs5 s5 z => k σ5 H5 Hy5 Fs5 s5 ((sm.trans e3.yn).trans z)
        | rt d n =>
          cases hl
          exact k
    · rw [if_neg hh] at hl ⊢
      cases hl
      exact k σ2 H3 Hy3 Fs2 (s2.ext e3) (sm.trans e3.yn)
end
end EV
namespace EV
open PySem PySem.Spec PyProof.Rows L2
theorem SR.mut {K : Fg} {H0 Hy : Hp} {Fs : Nat → List Addr} {ρ : Env} {σ : L2.St} {H : Hp} (s : SR K T9 H0 Hy Fs ρ σ H) {i n : Nat} {r : Addr} (hr : r ∈ Fs i) {y : Bool} {v : V} {d' : D} {F' : List Addr} {vs' : List V} (hσ : σ[i]? = some (some v))
    (o : Own K (lf y H0 Hy) (upd H r (.lst vs')) n v d' F') (nd : F'.Nodup) (hf : ∀ a ∈ F', H0 a = none ∧ Hy a = none) (dj : ∀ j, j ≠ i → ∀ a ∈ F', a ∉ Fs j) :
    SR K T9 H0 Hy (uF Fs i F') (ρ.set i (some (d', n, y))) σ (upd H r (.lst vs')) := by
  obtain ⟨r0, ry, xs, rH⟩ := s.own i r hr
  have le : Le H0 (upd H r (.lst vs')) := by
    refine ⟨fun b u q => ?_, fun P hP => ?_, fun a h => ?_⟩
    · rw [upd_ne (ne_of_none (nt_of q).1 r0)]; exact s.le.ol b u q
    · obtain ⟨ps, q, t⟩ := s.le.tb P hP
      exact ⟨ps, by rw [upd_ne (ne_of q rH (by intro z; cases z))]; exact q, t⟩
    · by_cases hb : a = r
      · rw [hb] at h; exact absurd r0 h
      · rw [upd_ne hb]; exact s.le.dm a h
  refine ⟨le, s.tbs, fun b u q => ?_, s.ynt, s.sep, fun j a h => ?_, fun j => ?_, fun j l hjl a h h' => ?_, fun j dd nn yy h => ?_, by rw [List.length_set]; exact s.len⟩
  · rw [upd_ne (ne_of_none q ry)]; exact s.yng b u q
  · by_cases hj : j = i
    · rw [hj, uF_same] at h; exact ⟨(hf a h).1, (hf a h).2, o.dom a h⟩
    · rw [uF_ne hj] at h
      obtain ⟨q1, q2, q3⟩ := s.own j a h
      have ne : a ≠ r := fun z => s.dis j i hj a h (z ▸ hr)
      exact ⟨q1, q2, by rw [upd_ne ne]; exact q3⟩
  · by_cases hj : j = i
    · rw [hj, uF_same]; exact nd
    · rw [uF_ne hj]; exact s.nod j
  · by_cases hj : j = i
    · rw [hj, uF_same] at h
      rw [uF_ne (fun z => hjl (hj.trans z.symm))] at h'
      exact dj l (fun z => hjl (hj.trans z.symm)) a h h'
    · rw [uF_ne hj] at h
      by_cases hl : l = i
      · rw [hl, uF_same] at h'; exact dj j hj a h' h
      · rw [uF_ne hl] at h'; exact s.dis j l hjl a h h'
  · by_cases hj : j = i
    · subst hj
      have hlt : j < ρ.length := by
        rcases Nat.lt_or_ge j ρ.length with z | z
        · exact z
        · rw [List.getElem?_eq_none (by rw [List.length_set]; exact z)] at h; cases h
      rw [List.getElem?_set_self hlt] at h
      cases h
      rw [uF_same]
      exact ⟨v, hσ, o⟩
    · rw [List.getElem?_set_ne (Ne.symm hj)] at h
      obtain ⟨v', h1, h2⟩ := s.slot j dd nn yy h
      rw [uF_ne hj]
      refine ⟨v', h1, h2.mono (Same.refl _) fun a ha xs q => ?_⟩
      rw [upd_ne (fun z => s.dis j i hj a ha (by rw [z]; exact hr))]; exact q
theorem owl0_nil {K : Fg} {L H : Hp} : ∀ {vs ds G}, OwL (Own K L H 0) vs ds G → G = [] ∧ RpA K L vs ds
  | _, _, _, .nil => ⟨rfl, .nil⟩
  | _, _, _, .cons a r => by
    obtain ⟨h1, h2⟩ := owl0_nil r
    rw [a.1, h1]
    exact ⟨rfl, .cons a.2 h2⟩
theorem owl_get {K : Fg} {L H : Hp} {n : Nat} : ∀ {vs ds G} {k : Nat} {d : D}, OwL (Own K L H n) vs ds G → ds[k]? = some d → ∃ v F, vs[k]? = some v ∧ Own K L H n v d F ∧ ∀ a ∈ F, a ∈ G
  | _, _, _, _, _, .nil, e => by simp at e
  | _, _, _, 0, _, .cons (F := F) a r, e => by simp at e; subst e; exact ⟨_, F, rfl, a, fun b hb => List.mem_append_left _ hb⟩
  | _, _, _, k + 1, d, .cons a r, e => by
    obtain ⟨v, F, h1, h2, h3⟩ := owl_get (k := k) (d := d) r (by simpa using e)
    exact ⟨v, F, by simpa using h1, h2, fun b hb => List.mem_append_right _ (h3 b hb)⟩
theorem own1_row {K : Fg} {L H : Hp} {v : V} {row : List D} {F : List Addr} (h : Own K L H 1 v (.list row) F) : ∃ r us, v = .ref r ∧ F = [r] ∧ H r = some (.lst us) ∧ RpA K L us row := by
  obtain ⟨r, us, G, rfl, rfl, h1, h2⟩ := h
  obtain ⟨rfl, h3⟩ := owl0_nil h2
  exact ⟨r, us, rfl, rfl, h1, h3⟩
theorem owl_set {K : Fg} {L H : Hp} {r : Addr} {us' : List V} {row row' : List D} (ra : RpA K L us' row') : ∀ {vs ds G} {k : Nat}, OwL (Own K L H 1) vs ds G → G.Nodup → vs[k]? = some (.ref r) → ds[k]? = some (.list row) → OwL (Own K L (upd H r (.lst us')) 1) vs (ds.set k (.list row')) G
  | _, _, _, _, .nil, _, e, _ => by simp at e
  | _, _, _, 0, .cons (F := F) (G := G) a q, nd, e1, e2 => by
    simp at e1 e2
    subst e1 e2
    obtain ⟨r', us, z, rfl, h1, h2⟩ := own1_row a
    cases z
    rw [List.set_cons_zero]
    obtain ⟨n1, n2, n3⟩ := List.nodup_append.mp nd
    refine .cons ⟨r, us', [], rfl, rfl, upd_same, owl0 ra⟩ (q.mono' fun v d G' hG w => w.mono (Same.refl _) fun b hb xs z => ?_)
    rw [upd_ne (fun e => n3 r (by simp) b (hG b hb) e.symm)]; exact z
  | _, _, _, k + 1, .cons (F := F) (G := G) a q, nd, e1, e2 => by
    rw [List.set_cons_succ]
    obtain ⟨n1, n2, n3⟩ := List.nodup_append.mp nd
    simp only [List.getElem?_cons_succ] at e1 e2
    obtain ⟨v, F', h1, h2, h3⟩ := owl_get q e2
    rw [e1] at h1; cases h1
    obtain ⟨r', us, z, rfl, h4, h5⟩ := own1_row h2
    cases z
    refine .cons (a.mono (Same.refl _) fun b hb xs z => ?_) (owl_set ra q n2 e1 e2)
    rw [upd_ne (fun e => n3 b hb r (h3 r (by simp)) e)]; exact z
section
variable {X : Cx} {T9 : List Addr} {a b c : Expr} {pos : Pos} {fa fb fc fe fp fq : Sm} {st : Stmt} {rest : List Stmt} {f g : Ss}
def sApp (i : Nat) (fe : Sm) : Ss := fun ρ => match ρ[i]? with
  | some (some (.list ds, 1, y)) => (fe ρ).bind fun x => if ds.length < 1000000 then match x.2 with | .own _ ye => some (.nx (ρ.set i (some (.list (ds ++ [x.1]), 1, y && ye)))) | _ => none else none
  | some (some (.list ds, 2, y)) => (fe ρ).bind fun x => if ds.length < 1000000 then match x.2 with | .own 1 ye => some (.nx (ρ.set i (some (.list (ds ++ [x.1]), 2, y && ye)))) | _ => none else none
  | _ => none
theorem sz_lt {n : Nat} (h : n < 1000000) : n < sizeLine := Nat.lt_of_lt_of_le h (by decide)
theorem lf_and1 {y ye : Bool} {H0 Hy : Hp} : Same (lf y H0 Hy) (lf (y && ye) H0 Hy) := lf_le fun h => by simp at h; exact h.1
theorem lf_and2 {y ye : Bool} {H0 Hy : Hp} : Same (lf ye H0 Hy) (lf (y && ye) H0 Hy) := lf_le fun h => by simp at h; exact h.2
theorem ds_app {i : Nat} (hst : PS X st (tDrop (tBM X.K "list" rAppend (tVar i) (tDA X.K T9 (aCons fe aNil))))) : DS X T9 st (sApp i fe) := by
  refine PS.mono hst fun E σ H ⟨H0, Hy, Fs, ρ, w, s, hf, k⟩ => ?_
  unfold sApp at hf
  have disj : ∀ {F1 : List Addr}, (∀ a ∈ F1, H a = none) → ∀ j, ∀ a ∈ F1, a ∉ Fs j := fun fr j a ha hj => by
    obtain ⟨_, _, xs, q⟩ := s.own j a hj
    rw [fr a ha] at q; cases q
  split at hf
  · rename_i ds y hρ
    obtain ⟨⟨d, m⟩, h1, hf⟩ := Option.bind_eq_some_iff.mp hf
    split at hf
    · rename_i hz
      simp only at hf
      split at hf
      · rename_i n ye
        cases hf
        obtain ⟨v, hσ, rp, ow⟩ := SR.rp s hρ
        obtain ⟨l, vs, G, rfl, hF, hl, ol⟩ := id ow
        obtain ⟨rfl, ra⟩ := owl0_nil ol
        refine ⟨_, hσ, .inl ⟨rfl, _, SqL.of hl⟩, H0, Hy, Fs, ρ, [(d, .own n ye)], s, by simp only [aCons, aNil, h1, Option.bind_some], fun us Hy1 H1 F1 e1 va f1 => ?_⟩
        cases va with
        | cons v1 r1 dj =>
          cases r1
          have f1' := fun a ha => f1 a (List.mem_append_left _ ha)
          obtain ⟨Hy2, e2, sm, r2⟩ := v1.give e1 s.le (s.ext e1).sep f1'
          have s2 := s.ext e2
          have hl2 : H1 l = some (.lst vs) := e2.le.ol l _ (nt_lst hl)
          have ra2 : RpA X.K (lf y H0 Hy2) vs ds := ra.mono (lf_mono e2.yn s2.sep)
          refine ⟨l, vs, _, rfl, rfl, hl2, by rw [ra.len]; exact sz_lt hz, ?_⟩
          have lm : l ∈ Fs i := by rw [hF]; exact List.mem_cons_self ..
          refine k σ _ Hy2 _ (s2.mut (i := i) (F' := [l]) lm hσ ⟨l, _, [], rfl, rfl, upd_same, owl0 ((ra2.mono lf_and1).app (.cons (r2.mono lf_and2) .nil))⟩ (by simp) (fun a ha => ?_) fun j hj a ha => ?_) e2.yn
          · rw [List.mem_singleton.mp ha]; exact ⟨(s2.own i l lm).1, (s2.own i l lm).2.1⟩
          · rw [List.mem_singleton.mp ha]; exact s2.dis i j (Ne.symm hj) l lm
      · cases hf
    · cases hf
  · rename_i ds y hρ
    obtain ⟨⟨d, m⟩, h1, hf⟩ := Option.bind_eq_some_iff.mp hf
    split at hf
    · rename_i hz
      simp only at hf
      split at hf
      · rename_i ye
        cases hf
        obtain ⟨v, hσ, rp, ow⟩ := SR.rp s hρ
        obtain ⟨l, vs, G, rfl, hF, hl, ol⟩ := id ow
        refine ⟨_, hσ, .inl ⟨rfl, _, SqL.of hl⟩, H0, Hy, Fs, ρ, [(d, .own 1 ye)], s, by simp only [aCons, aNil, h1, Option.bind_some], fun us Hy1 H1 F1 e1 va f1 => ?_⟩
        cases va with
        | cons v1 r1 dj =>
          rename_i v' vs' F0 G0
          cases r1
          have f1' : ∀ a ∈ F0, H a = none := fun a ha => f1 a (List.mem_append_left _ ha)
          have s1 := s.ext e1
          obtain ⟨v2, hσ2, rp2, ow2⟩ := SR.rp s1 hρ
          rw [hσ] at hσ2; cases hσ2
          obtain ⟨l2, vs2, G2, e5, hF2, hl2, ol2⟩ := id ow2
          cases e5
          rw [hF] at hF2; cases hF2
          have hlen : vs2.length = ds.length := ol2.len
          refine ⟨l, vs2, _, rfl, rfl, hl2, by rw [hlen]; exact sz_lt hz, ?_⟩
          have lm : l ∈ Fs i := by rw [hF]; exact List.mem_cons_self ..
          have Gm : ∀ a ∈ G, a ∈ Fs i := fun a ha => by rw [hF]; exact List.mem_cons_of_mem _ ha
          have nd := s1.nod i
          rw [hF] at nd
          obtain ⟨nd1, nd2⟩ := List.nodup_cons.mp nd
          have o1 := v1.own 1 ye rfl
          have neL : ∀ a ∈ F0, a ≠ l := fun a ha z => disj f1' i a ha (z ▸ lm)
          have newO : OwL (Own X.K (lf (y && ye) H0 Hy1) (upd H1 l (.lst (vs2 ++ [v']))) 1) (vs2 ++ [v']) (ds ++ [d]) (G ++ (F0 ++ [])) :=
            (ol2.mono' fun v d G' hG q => q.mono lf_and1 fun b hb xs z => by rw [upd_ne (fun e => nd1 (by rw [← e]; exact hG b hb))]; exact z).app
              (.cons (o1.mono lf_and2 fun b hb xs z => by rw [upd_ne (neL b hb)]; exact z) .nil)
          refine k σ _ Hy1 _ (s1.mut (i := i) (F' := l :: (G ++ (F0 ++ []))) lm hσ ⟨l, _, _, rfl, rfl, upd_same, newO⟩ ?_ (fun a ha => ?_) fun j hj a ha => ?_) e1.yn
          · rw [List.append_nil]
            refine List.nodup_cons.mpr ⟨fun z => (List.mem_append.mp z).elim nd1 fun w => neL l w rfl, List.nodup_append.mpr ⟨nd2, v1.nod, fun a ha b hb e => ?_⟩⟩
            exact disj f1' i b hb (e ▸ Gm a ha)
          · rw [List.append_nil] at ha
            rcases List.mem_cons.mp ha with z | z
            · rw [z]; exact ⟨(s1.own i l lm).1, (s1.own i l lm).2.1⟩
            · rcases List.mem_append.mp z with z | z
              · exact ⟨(s1.own i a (Gm a z)).1, (s1.own i a (Gm a z)).2.1⟩
              · exact ⟨s.le.fr (f1' a z), v1.hy a z⟩
          · rw [List.append_nil] at ha
            rcases List.mem_cons.mp ha with z | z
            · rw [z]; exact s1.dis i j (Ne.symm hj) l lm
            · rcases List.mem_append.mp z with z | z
              · exact s1.dis i j (Ne.symm hj) a (Gm a z)
              · exact disj f1' j a z
      · cases hf
    · cases hf
  · cases hf
def sPop (i j : Nat) (fe : Sm) : Ss := fun ρ => if i = j then none else match ρ[i]?, ρ[j]? with
  | some (some (.list ds, 1, y)), some (some (.list es, 1, z)) => (fe ρ).bind fun x => match x.1 with
    | .int k => if -(2 ^ 63) ≤ k ∧ k < 2 ^ 63 ∧ ds.length < 1000000 then (seqIndex? k es.length).bind fun q => (es[q]?).bind fun d => if flatD d = true then some (.nx ((ρ.set j (some (.list (es.eraseIdx q), 1, z))).set i (some (.list (ds ++ [d]), 1, y)))) else none else none
    | _ => none
  | _, _ => none
theorem RpA.erase {K : Fg} {H : Hp} : ∀ {vs : List V} {ds : List D} (n : Nat), RpA K H vs ds → RpA K H (vs.eraseIdx n) (ds.eraseIdx n)
  | _, _, _, .nil => .nil
  | _, _, 0, .cons _ r => r
  | _, _, n + 1, .cons h r => .cons h (r.erase n)
theorem ds_pop {i j : Nat} (hst : PS X st (tDrop (tBM X.K "list" rAppend (tVar i) (tCons (tBM X.K "list" rPopAt (tVar j) (tDA X.K T9 (aCons fe aNil))) tNil)))) : DS X T9 st (sPop i j fe) := by
  refine PS.mono hst fun E σ H ⟨H0, Hy, Fs, ρ, w, s, hf, k⟩ => ?_
  unfold sPop at hf
  split at hf
  · cases hf
  · rename_i hij
    split at hf
    · rename_i ds y es z hρ hρ2
      obtain ⟨⟨dk, mk⟩, h1, hf⟩ := Option.bind_eq_some_iff.mp hf
      simp only at hf
      split at hf
      · rename_i kk
        split at hf
        · rename_i hz
          obtain ⟨q, hq, hf⟩ := Option.bind_eq_some_iff.mp hf
          obtain ⟨d, hd, hf⟩ := Option.bind_eq_some_iff.mp hf
          split at hf
          · rename_i hfl
            cases hf
            obtain ⟨v, hσ, rp, ow⟩ := SR.rp s hρ
            obtain ⟨l, vs, G, rfl, hF, hl, ol⟩ := id ow
            obtain ⟨rfl, ra⟩ := owl0_nil ol
            obtain ⟨v2, hσ2, rp2, ow2⟩ := SR.rp s hρ2
            obtain ⟨l2, vs2, G2, rfl, hF2, hl2, ol2⟩ := id ow2
            obtain ⟨rfl, ra2⟩ := owl0_nil ol2
            refine ⟨_, hσ, .inl ⟨rfl, _, SqL.of hl⟩, _, hσ2, .inl ⟨rfl, _, SqL.of hl2⟩, H0, Hy, Fs, ρ, [(.int kk, mk)], s, by simp only [aCons, aNil, h1, Option.bind_some], fun us Hy1 H1 F1 e1 va f1 => ?_⟩
            have s1 := s.ext e1
            cases va with
            | cons v1 r1 dj =>
              cases r1
              have lm : l ∈ Fs i := by rw [hF]; exact List.mem_cons_self ..
              have lm2 : l2 ∈ Fs j := by rw [hF2]; exact List.mem_cons_self ..
              have hll : l ≠ l2 := fun e => s.dis i j hij l lm (by rw [e]; exact lm2)
              have ra1 := ra.mono (lf_mono e1.yn s1.sep)
              have ra12 := ra2.mono (lf_mono e1.yn s1.sep)
              obtain ⟨u, hu, ru⟩ := ra12.get hd
              have hl1 : H1 l = some (.lst vs) := e1.le.ol l _ (nt_lst hl)
              have hl12 : H1 l2 = some (.lst vs2) := e1.le.ol l2 _ (nt_lst hl2)
              refine ⟨l2, vs2, kk, q, u, rfl, by rw [v1.rep.int_inv], hl12, hz.1, hz.2.1, by rw [ra2.len]; exact hq, hu, ?_⟩
              have sA := s1.mut (i := j) (F' := [l2]) (d' := .list (es.eraseIdx q)) (n := 1) (y := z) (vs' := vs2.eraseIdx q) lm2 hσ2 ⟨l2, _, [], rfl, rfl, upd_same, owl0 (ra12.erase q)⟩ (by simp) (fun a ha => by rw [List.mem_singleton.mp ha]; exact ⟨(s1.own j l2 lm2).1, (s1.own j l2 lm2).2.1⟩) fun jj hj a ha => by rw [List.mem_singleton.mp ha]; exact s1.dis j jj (Ne.symm hj) l2 lm2
              have lmA : l ∈ uF Fs j [l2] i := by rw [uF_ne hij]; exact lm
              refine ⟨l, vs, u, rfl, rfl, by rw [upd_ne hll]; exact hl1, by rw [ra.len]; exact sz_lt hz.2.2, ?_⟩
              have sB := sA.mut (i := i) (F' := [l]) (d' := .list (ds ++ [d])) (n := 1) (y := y) (vs' := vs ++ [u]) lmA hσ ⟨l, _, [], rfl, rfl, upd_same, owl0 (ra1.app (.cons (ru.fl hfl).rp .nil))⟩ (by simp) (fun a ha => by rw [List.mem_singleton.mp ha]; exact ⟨(sA.own i l lmA).1, (sA.own i l lmA).2.1⟩) fun jj hj a ha => by rw [List.mem_singleton.mp ha]; exact sA.dis i jj (Ne.symm hj) l lmA
              exact k σ _ Hy1 _ sB e1.yn
          · cases hf
        · cases hf
      · cases hf
    · cases hf
def st2 (i : Nat) (rows : List D) (y : Bool) (p q : Int) (g : D → Option D) (ρ : Env) : Option Fw :=
  (ixN rows.length p).bind fun pp => (rows[pp]?).bind fun r => match r with
    | .list row => (ixN row.length q).bind fun qq => (row[qq]?).bind fun old => (g old).bind fun nw => if flatD nw = true then some (.nx (ρ.set i (some (.list (rows.set pp (.list (row.set qq nw))), 2, y)))) else none
    | _ => none
theorem RpA.set {K : Fg} {H : Hp} {v : V} {d : D} (h : Rp K H v d) : ∀ {vs : List V} {ds : List D} (n : Nat), RpA K H vs ds → RpA K H (vs.set n v) (ds.set n d)
  | _, _, _, .nil => .nil
  | _, _, 0, .cons _ r => .cons h r
  | _, _, n + 1, .cons a r => .cons a (RpA.set h n r)
theorem two_lvl {K : Fg} {H0 Hy : Hp} {Fs : Nat → List Addr} {ρ : Env} {σ : L2.St} {H : Hp} (s : SR K T9 H0 Hy Fs ρ σ H) {i : Nat} {rows : List D} {y : Bool} (hρ : ρ[i]? = some (some (.list rows, 2, y))) {p q : Int} {g : D → Option D} {w : Fw} (h : st2 i rows y p q g ρ = some w) :
    ∃ l vs r us qq old nw, σ[i]? = some (some (.ref l)) ∧ H l = some (.lst vs) ∧ atI vs p = some (.ref r) ∧ H r = some (.lst us) ∧ ixN us.length q = some qq ∧ (∃ x, us[qq]? = some x ∧ atI us q = some x ∧ Rp K H x old) ∧ g old = some nw ∧ r ∈ Fs i ∧
      ∀ v, Fl v nw → ∃ Fs' ρ', w = .nx ρ' ∧ SR K T9 H0 Hy Fs' ρ' σ (upd H r (.lst (us.set qq v))) := by
  unfold st2 at h
  obtain ⟨pp, h1, h⟩ := Option.bind_eq_some_iff.mp h
  obtain ⟨r0, h2, h⟩ := Option.bind_eq_some_iff.mp h
  split at h
  · rename_i row
    obtain ⟨qq, h3, h⟩ := Option.bind_eq_some_iff.mp h
    obtain ⟨old, h4, h⟩ := Option.bind_eq_some_iff.mp h
    obtain ⟨nw, h5, h⟩ := Option.bind_eq_some_iff.mp h
    split at h
    · rename_i hfl
      cases h
      obtain ⟨v, hσ, rp, ow⟩ := SR.rp s hρ
      obtain ⟨l, vs, G, rfl, hF, hl, ol⟩ := id ow
      obtain ⟨vr, F, hv, o1, hFG⟩ := owl_get ol h2
      obtain ⟨r, us, rfl, rfl, hr, ra⟩ := own1_row o1
      have rG : r ∈ G := hFG r (by simp)
      have rm : r ∈ Fs i := by rw [hF]; exact List.mem_cons_of_mem _ rG
      have lm : l ∈ Fs i := by rw [hF]; exact List.mem_cons_self ..
      have nd := s.nod i
      rw [hF] at nd
      obtain ⟨nd1, nd2⟩ := List.nodup_cons.mp nd
      obtain ⟨x, hx, rx⟩ := ra.get h4
      refine ⟨l, vs, r, us, qq, old, nw, hσ, hl, by unfold atI; rw [ol.len, h1]; exact hv, hr, by rw [ra.len]; exact h3, ⟨x, hx, by unfold atI; rw [ra.len, h3]; exact hx, rx.mono (s.sub y)⟩, h5, rm, fun u fu => ?_⟩
      have nlr : l ≠ r := fun e => nd1 (by rw [e]; exact rG)
      have o2 : Own K (lf y H0 Hy) (upd H r (.lst (us.set qq u))) 2 (.ref l) (.list (rows.set pp (.list (row.set qq nw)))) (Fs i) := by
        refine ⟨l, vs, G, rfl, hF, by rw [upd_ne nlr]; exact hl, owl_set (RpA.set fu.rp qq ra) ol nd2 hv h2⟩
      exact ⟨_, _, rfl, s.mut rm hσ o2 (s.nod i) (fun a ha => ⟨(s.own i a ha).1, (s.own i a ha).2.1⟩) fun j hj a ha => s.dis i j (Ne.symm hj) a ha⟩
    · cases h
  · cases h
def sSet2 (i : Nat) (fp fq fe : Sm) : Ss := fun ρ => (fe ρ).bind fun x => (fp ρ).bind fun p => (fq ρ).bind fun q => match ρ[i]?, p.1, q.1 with
  | some (some (.list rows, 2, y)), .int p, .int q => if flatD x.1 = true then st2 i rows y p q (fun _ => some x.1) ρ else none
  | _, _, _ => none
theorem ds_set2 {i : Nat} {x : Str} {p1 p2 p3 : Pos} (hN : X.N[i]? = some x) (hv : Vis X.env.scope x) (he : DE X T9 c fe) (hp : DE X T9 a fp) (hq : DE X T9 b fq)
    (hs : swapsWithSole [.Subscript (.Subscript (.Name x p1) a p2) b p3] c pos.line X.env = pure false := by rfl) (hw : swappedStores [.Subscript (.Subscript (.Name x p1) a p2) b p3] c X.env = pure none := by rfl)
    (h1 : (assignEach [.Subscript (.Subscript (.Name x p1) a p2) b p3] X.env).map (·.2) = [assign (.Subscript (.Subscript (.Name x p1) a p2) b p3) X.env] := by rfl)
    (ha : ∀ v, assign (.Subscript (.Subscript (.Name x p1) a p2) b p3) X.env v = (do
      let ov ← holding [v] (eval (.Subscript (.Name x p1) a p2) X.env)
      let iv ← holding [v, ov] (eval b X.env)
      standAt p3
      holding [v, ov, iv] (setItem ov iv v)
      release [v, ov, iv] []) := by intro _; rfl) (hpl : PlainIx a := by exact fun _ _ => rfl) (hd : (x == ("__debug__" : Str)) = false := by decide) (hcd : (x == ("__classdict__" : Str)) = false := by decide) :
    DS X T9 (.Assign [.Subscript (.Subscript (.Name x p1) a p2) b p3] c pos) (sSet2 i fp fq fe) := by
  refine PS.mono (ps_asg he (pg_sub (pe_ix ix_list (pe_var hN hv hd hcd) hp hpl) hq set_list ha) hs hw h1) fun E σ H ⟨H0, Hy, Fs, ρ, w, s, hf, k⟩ => ?_
  obtain ⟨⟨de, me⟩, e1, hf⟩ := Option.bind_eq_some_iff.mp hf
  obtain ⟨⟨dp, mp⟩, e2, hf⟩ := Option.bind_eq_some_iff.mp hf
  obtain ⟨⟨dq, mq⟩, e3, hf⟩ := Option.bind_eq_some_iff.mp hf
  simp only at hf
  have hh : ∃ rows y p q, ρ[i]? = some (some (.list rows, 2, y)) ∧ dp = .int p ∧ dq = .int q := by
    split at hf
    · exact ⟨_, _, _, _, by assumption, rfl, rfl⟩
    · cases hf
  obtain ⟨rows, y, p, q, hρ, rfl, rfl⟩ := hh
  rw [hρ] at hf
  simp only at hf
  · split at hf
    · rename_i hfl
      refine ⟨H0, Hy, Fs, ρ, de, me, s, e1, fun v Hy1 H1 F1 x1 v1 f1 => ?_⟩
      have s1 := s.ext x1
      obtain ⟨l, vs, r, us, qq, old, nw, hσ, _⟩ := two_lvl s hρ hf
      refine ⟨_, hσ, H0, Hy1, Fs, ρ, _, mp, s1, e2, fun vp Hy2 H2 F2 x2 v2 f2 => ?_⟩
      have s2 := s1.ext x2
      obtain ⟨l2, vs2, r2, us2, qq2, old2, nw2, hσ2, hl2, hat2, hr2, hix2, _⟩ := two_lvl s2 hρ hf
      rw [hσ] at hσ2; cases hσ2
      refine ⟨_, _, _, _, rfl, v2.rep.int_inv, SqL.of hl2, hat2, H0, Hy2, Fs, ρ, _, mq, s2, e3, fun vq Hy3 H3 F3 x3 v3 f3 => ?_⟩
      have s3 := s2.ext x3
      obtain ⟨l3, vs3, r3, us3, qq3, old3, nw3, hσ3, hl3, hat3, hr3, hix3, _, hnw, hrm, fin⟩ := two_lvl s3 hρ hf
      rw [hσ] at hσ3; cases hσ3
      have ev : vs3 = vs2 := by
        have := x3.le.ol _ _ (nt_lst hl2)
        rw [hl3] at this; cases this; rfl
      rw [ev, hat2] at hat3; cases hat3
      cases hnw
      obtain ⟨Fs', ρ', rfl, sf⟩ := fin v ((v1.rep.fl hfl))
      exact ⟨_, _, _, qq3, rfl, v3.rep.int_inv, hr3, hix3, k σ _ Hy3 Fs' sf ((x1.yn.trans x2.yn).trans x3.yn)⟩
    · cases hf
theorem get_listP : PGet X (rIxL X.K) := by
  intro pins s σ H o i ov iv Q I rx ry h
  obtain ⟨p, xs, k, z, rfl, rfl, hq, he, q⟩ := h
  cases rx
  obtain ⟨t, rfl⟩ := ry
  obtain ⟨its, r, pl, hz⟩ := I.list hq
  obtain ⟨j, h1, h2, h3, h4, h5⟩ := atI_get he
  obtain ⟨w, ew, rw'⟩ := r.get h2
  have hl := r.length
  have hn := line63
  have fin : EP X pins σ Q w s := ⟨z, H, I, rw', q⟩
  by_cases h0 : 0 ≤ k
  · have hj : k.toNat = j := by
      rw [seqIndex_of h0 h5] at h1
      exact Option.some.inj h1
    exact wpAny_getItem_list pl.isList h0 (by omega) (by rw [hj]; simpa using ew) fin
  · have hj : (k + (its.toArray.size : Int)).toNat = j := by
      rw [seqIndex_neg (by omega) h4] at h1
      rw [List.size_toArray, ← hl]
      exact Option.some.inj h1
    exact wpAny_getItem_list_neg pl.isList (by omega) (by rw [List.size_toArray] <;> omega) (by omega) (by rw [hj]; simpa using ew) fin
def sAug2 (i : Nat) (op : Int → Int → Int) (fp fq fe : Sm) : Ss := fun ρ => (fp ρ).bind fun p => (fq ρ).bind fun q => (fe ρ).bind fun x => match ρ[i]?, p.1, q.1, x.1 with
  | some (some (.list rows, 2, y)), .int p, .int q, .int x => st2 i rows y p q (fun o => match o with | .int z => some (.int (op z x)) | _ => none) ρ
  | _, _, _, _ => none
theorem ds_aug2 {i : Nat} {x : Str} {p1 p2 p3 : Pos} {op : Operator} {o : Int → Int → Int} (hop : PIp X op (ipI o)) (hN : X.N[i]? = some x) (hv : Vis X.env.scope x) (hp : DE X T9 a fp) (hq : DE X T9 b fq) (he : DE X T9 c fe)
    (ha : ∀ ov iv new, augStore b ov iv new = (do holding [new, ov, iv] (setItem ov iv new); release [new, ov, iv] []; pure .next) := by intros; rfl) (hpl : PlainIx a := by exact fun _ _ => rfl) (hd : (x == ("__debug__" : Str)) = false := by decide) (hcd : (x == ("__classdict__" : Str)) = false := by decide) :
    DS X T9 (.AugAssign (.Subscript (.Subscript (.Name x p1) a p2) b p3) op c pos) (sAug2 i o fp fq fe) := by
  refine PS.mono (ps_augS (pe_ix ix_list (pe_var hN hv hd hcd) hp hpl) hq get_listP he hop set_list ha) fun E σ H ⟨H0, Hy, Fs, ρ, w, s, hf, k⟩ => ?_
  obtain ⟨⟨dp, mp⟩, e2, hf⟩ := Option.bind_eq_some_iff.mp hf
  obtain ⟨⟨dq, mq⟩, e3, hf⟩ := Option.bind_eq_some_iff.mp hf
  obtain ⟨⟨de, me⟩, e1, hf⟩ := Option.bind_eq_some_iff.mp hf
  simp only at hf
  have hh : ∃ rows y p q xx, ρ[i]? = some (some (.list rows, 2, y)) ∧ dp = .int p ∧ dq = .int q ∧ de = .int xx := by
    split at hf
    · exact ⟨_, _, _, _, _, by assumption, rfl, rfl, rfl⟩
    · cases hf
  obtain ⟨rows, y, p, q, xx, hρ, rfl, rfl, rfl⟩ := hh
  rw [hρ] at hf
  simp only at hf
  · obtain ⟨l, vs, r, us, qq, old, nw, hσ, _⟩ := two_lvl s hρ hf
    refine ⟨_, hσ, H0, Hy, Fs, ρ, _, mp, s, e2, fun vp Hy2 H2 F2 x2 v2 f2 => ?_⟩
    have s2 := s.ext x2
    obtain ⟨l2, vs2, r2, us2, qq2, old2, nw2, hσ2, hl2, hat2, hr2, hix2, _⟩ := two_lvl s2 hρ hf
    rw [hσ] at hσ2; cases hσ2
    refine ⟨_, _, _, _, rfl, v2.rep.int_inv, SqL.of hl2, hat2, H0, Hy2, Fs, ρ, _, mq, s2, e3, fun vq Hy3 H3 F3 x3 v3 f3 => ?_⟩
    have s3 := s2.ext x3
    obtain ⟨l3, vs3, r3, us3, qq3, old3, nw3, hσ3, hl3, hat3, hr3, hix3, ⟨xo, hxo, hao, ro⟩, hnw3, _, _⟩ := two_lvl s3 hρ hf
    rw [hσ] at hσ3; cases hσ3
    have ev : vs3 = vs2 := by
      have := x3.le.ol _ _ (nt_lst hl2)
      rw [hl3] at this; cases this; rfl
    rw [ev, hat2] at hat3; cases hat3
    refine ⟨_, _, _, _, rfl, v3.rep.int_inv, SqL.of hr3, hao, H0, Hy3, Fs, ρ, _, me, s3, e1, fun ve Hy4 H4 F4 x4 v4 f4 => ?_⟩
    have s4 := s3.ext x4
    obtain ⟨l4, vs4, r4, us4, qq4, old4, nw4, hσ4, hl4, hat4, hr4, hix4, ⟨xo4, hxo4, hao4, ro4⟩, hnw, hrm, fin⟩ := two_lvl s4 hρ hf
    rw [hσ] at hσ4; cases hσ4
    have ev4 : vs4 = vs2 := by
      have := (x3.trans x4).le.ol _ _ (nt_lst hl2)
      rw [hl4] at this; cases this; rfl
    rw [ev4, hat2] at hat4; cases hat4
    have eu : us4 = us3 := by
      have := x4.le.ol _ _ (nt_lst hr3)
      rw [hr4] at this; cases this; rfl
    subst eu
    rw [hao] at hao4; cases hao4
    split at hnw
    · rename_i zz
      cases hnw
      obtain ⟨Fs', ρ', rfl, sf⟩ := fin (.int (o zz xx)) (.int _)
      exact ⟨zz, xx, ro4.int_inv, v4.rep.int_inv, _, _, _, qq4, rfl, (v3.rep.le x4.le).int_inv, hr4, hix4, k σ _ Hy4 Fs' sf ((x2.yn.trans x3.yn).trans x4.yn)⟩
    · cases hnw
def sApp2 (i : Nat) (fp fe : Sm) : Ss := fun ρ => (fp ρ).bind fun p => (fe ρ).bind fun x => match ρ[i]?, p.1 with
  | some (some (.list rows, 2, y)), .int p => (ixN rows.length p).bind fun pp => (rows[pp]?).bind fun r => match r with
    | .list row => if flatD x.1 = true ∧ row.length < 1000000 then some (.nx (ρ.set i (some (.list (rows.set pp (.list (row ++ [x.1]))), 2, y)))) else none
    | _ => none
  | _, _ => none
theorem ds_app2 {i : Nat} (hst : PS X st (tDrop (tBM X.K "list" rAppend (tOp (rIxL X.K) (tVar i) (tD X.K T9 fp)) (tDA X.K T9 (aCons fe aNil))))) : DS X T9 st (sApp2 i fp fe) := by
  refine PS.mono hst fun E σ H ⟨H0, Hy, Fs, ρ, w, s, hf, k⟩ => ?_
  obtain ⟨⟨dp, mp⟩, e2, hf⟩ := Option.bind_eq_some_iff.mp hf
  obtain ⟨⟨de, me⟩, e1, hf⟩ := Option.bind_eq_some_iff.mp hf
  simp only at hf
  split at hf
  · rename_i rows y p hρ _
    obtain ⟨pp, h1, hf⟩ := Option.bind_eq_some_iff.mp hf
    obtain ⟨r0, h2, hf⟩ := Option.bind_eq_some_iff.mp hf
    split at hf
    · rename_i row
      split at hf
      · rename_i hfl
        cases hf
        obtain ⟨v, hσ, rp, ow⟩ := SR.rp s hρ
        obtain ⟨l, vs, G, rfl, hF, hl, ol⟩ := id ow
        obtain ⟨vr, F, hv, o1, hFG⟩ := owl_get ol h2
        obtain ⟨r, us, rfl, rfl, hr, ra⟩ := own1_row o1
        refine ⟨_, hσ, H0, Hy, Fs, ρ, _, mp, s, e2, fun vp Hy2 H2 F2 x2 v2 f2 => ?_⟩
        have s2 := s.ext x2
        have hl2 : H2 l = some (.lst vs) := x2.le.ol l _ (nt_lst hl)
        have hr2 : H2 r = some (.lst us) := x2.le.ol r _ (nt_lst hr)
        refine ⟨l, vs, _, .ref r, rfl, v2.rep.int_inv, SqL.of hl2, by unfold atI; rw [ol.len, h1]; exact hv, .inl ⟨rfl, _, SqL.of hr2⟩, H0, Hy2, Fs, ρ, [(de, me)], s2, by simp only [aCons, aNil, e1, Option.bind_some], fun us' Hy3 H3 F3 x3 va f3 => ?_⟩
        cases va with
        | cons v3 r3 dj =>
          cases r3
          have s3 := s2.ext x3
          obtain ⟨v', hσ', rp', ow'⟩ := SR.rp s3 hρ
          rw [hσ] at hσ'; cases hσ'
          obtain ⟨l', vs', G', e5, hF', hl', ol'⟩ := id ow'
          cases e5
          rw [hF] at hF'; cases hF'
          obtain ⟨vr', F', hv', o1', hFG'⟩ := owl_get ol' h2
          obtain ⟨r', us2, e6, rfl, hr', ra'⟩ := own1_row o1'
          subst e6
          have evs : vs' = vs := by
            have := x3.le.ol _ _ (nt_lst hl2)
            rw [hl'] at this; cases this; rfl
          subst evs
          rw [hv] at hv'; cases hv'
          have rG : r ∈ G := hFG' r (by simp)
          have rm : r ∈ Fs i := by rw [hF]; exact List.mem_cons_of_mem _ rG
          have nd := s3.nod i
          rw [hF] at nd
          obtain ⟨nd1, nd2⟩ := List.nodup_cons.mp nd
          have nlr : l ≠ r := fun e => nd1 (by rw [e]; exact rG)
          refine ⟨r, us2, _, rfl, rfl, hr', by rw [ra'.len]; exact sz_lt hfl.2, ?_⟩
          exact k σ _ Hy3 _ (s3.mut rm hσ (d' := .list (rows.set pp (.list (row ++ [de])))) (n := 2) (y := y) (F' := Fs i) ⟨l, vs', G, rfl, hF, by rw [upd_ne nlr]; exact hl', owl_set (ra'.app (.cons (v3.rep.fl hfl.1).rp .nil)) ol' nd2 hv h2⟩ (s3.nod i)
            (fun a ha => ⟨(s3.own i a ha).1, (s3.own i a ha).2.1⟩) fun j hj a ha => s3.dis i j (Ne.symm hj) a ha) (x2.yn.trans x3.yn)
      · cases hf
    · cases hf
  · cases hf
end
end EV
namespace EV
open PySem PySem.Spec PyProof.Rows L2
def zpD (ds es : List D) : List D := (ds.zip es).map fun x => .tuple [x.1, x.2]
theorem zpD_get {ds es : List D} {i : Nat} {d : D} (h : (zpD ds es)[i]? = some d) : ∃ u w, ds[i]? = some u ∧ es[i]? = some w ∧ d = .tuple [u, w] := by
  unfold zpD at h
  rw [List.getElem?_map] at h
  obtain ⟨⟨u, w⟩, h1, h2⟩ := Option.map_eq_some_iff.mp h
  rw [List.getElem?_zip_eq_some] at h1
  exact ⟨u, w, h1.1, h1.2, h2.symm⟩
section
variable {X : Cx} {T9 : List Addr} {a b c : Expr} {pos : Pos} {fa fb fc fe : Sm}
theorem sq_zip {K : Fg} {H0 Hb : Hp} {y : Bool} {a b : Addr} {xs zs : List V} {ds es : List D} (h : SqL K (lf y H0 Hb) a xs) (r : RpA K (lf y H0 Hb) xs ds) (h' : SqL K (lf y H0 Hb) b zs) (r' : RpA K (lf y H0 Hb) zs es) : ItOk K H0 (Itz K a b) Hb y (zpD ds es) := by
  have up : ∀ H Hy, Same Hb Hy → Same (lf y H0 Hy) H → (∀ a, Hy a ≠ none → H0 a = none) → SqL K H a xs := fun H Hy s1 s2 sp => Same.sqL s2 (Same.sqL (lf_mono s1 sp) h)
  have up' : ∀ H Hy, Same Hb Hy → Same (lf y H0 Hy) H → (∀ a, Hy a ≠ none → H0 a = none) → SqL K H b zs := fun H Hy s1 s2 sp => Same.sqL s2 (Same.sqL (lf_mono s1 sp) h')
  refine ⟨fun i H Hy s1 _ s2 sp hl => ⟨xs, zs, up H Hy s1 s2 sp, up' H Hy s1 s2 sp, by rw [r.len, r'.len]; unfold zpD at hl; rw [List.length_map, List.length_zip] at hl; omega⟩, fun i H Hy d s1 _ s2 sp hd => ?_, fun i H Hy d x H' s1 s1' ntt l s2 sp hd hy => ?_⟩
  · obtain ⟨u, w, h0, h0', _⟩ := zpD_get hd
    obtain ⟨v, h1, _⟩ := r.get h0
    obtain ⟨v', h1', _⟩ := r'.get h0'
    exact ⟨xs, zs, v, v', up H Hy s1 s2 sp, up' H Hy s1 s2 sp, h1, h1'⟩
  · obtain ⟨T, x', z', rfl, hT, rfl, hx, hz⟩ := hy
    obtain ⟨u, w, h0, h0', rfl⟩ := zpD_get hd
    obtain ⟨v, h1, h2⟩ := r.get h0
    obtain ⟨v', h1', h2'⟩ := r'.get h0'
    have e1 := hx xs (up _ Hy s1 s2 sp)
    rw [h1] at e1; cases e1
    have e2 := hz zs (up' _ Hy s1 s2 sp)
    rw [h1'] at e2; cases e2
    exact pair_new s1' ntt l sp hT (.cons (h2.mono (lf_mono s1 sp)) (.cons (h2'.mono (lf_mono s1 sp)) .nil))
def iZ (fa fb : Sm) : Si := fun ρ => (fa ρ).bind fun x => (fb ρ).bind fun z => match x.1, z.1 with
  | .list ds, .list es => if elOk [x, z] = true then some (zpD ds es, yAll [x, z]) else none
  | _, _ => none
theorem di_zip {p tpos : Pos} {elts : List Expr} {kk : Nat} (hg : Gl X "zip") (hm : X.mg "zip" = none) (ha : DE X T9 a fa) (hb : DE X T9 b fb)
    (hs : starEach [a, b] X.env = (false, eval a X.env) :: starEach [b] X.env := by rfl) (hpl : (backTo pos (starEach [b] X.env)).any (·.1) = false := by rfl) (hs2 : starEach [b] X.env = (false, eval b X.env) :: starEach [] X.env := by rfl) :
    DI X T9 (.Tuple elts kk tpos) (.Call (.Name "zip" p) [a, b] [] pos) (iZ fa fb) := by
  refine PI.mono (pi_zip hg hm (da_cons ha (da_cons hb da_nil hs2) hs) hs hpl) fun σ H R ⟨H0, Hy, Fs, ρ, ds, y, s, hf, k⟩ => ?_
  obtain ⟨⟨dx, mx⟩, h1, hf⟩ := Option.bind_eq_some_iff.mp hf
  obtain ⟨⟨dz, mz⟩, h2, hf⟩ := Option.bind_eq_some_iff.mp hf
  refine ⟨H0, Hy, Fs, ρ, [(dx, mx), (dz, mz)], s, by simp only [aCons, aNil, h1, h2, Option.bind_some], fun vs Hy1 H1 F1 e1 va f1 => ?_⟩
  have s1 := s.ext e1
  have hh : ∃ es es', dx = .list es ∧ dz = .list es' := by
    split at hf
    · exact ⟨_, _, by assumption, by assumption⟩
    · cases hf
  obtain ⟨es, es', rfl, rfl⟩ := hh
  simp only at hf
  split at hf
  · rename_i hel
    cases hf
    have eg := give_ext e1 va.hy f1 va.lst
    have sg := s.ext eg
    have ra := share_rpA (Y := yAll [(PyData.list es, mx), (PyData.list es', mz)]) (M := cut Hy1 H1 F1) va hel id (cut_same va.hy) sg.sep fun a ha => cut_in ha
    cases ra with
    | cons r1 ra2 =>
      cases ra2 with
      | cons r2 ra3 =>
        cases ra3
        cases r1 with
        | lst hs1 hr1 =>
          cases r2 with
          | lst hs2 hr2 => exact ⟨_, _, _, _, rfl, Same.sqL (sg.sub _) hs1, Same.sqL (sg.sub _) hs2, k _ _ H1 eg (sq_zip hs1 hr1 hs2 hr2)⟩
  · cases hf
def compL (g : Gm) (t : Tm) (fe : Sm) (y : Bool) (ρ : Env) : List D → Option (List (D × Md))
  | [] => some []
  | d :: ds => (g d y ρ).bind fun ρ1 => (t ρ1).bind fun b => if b = true then (fe ρ1).bind fun x => (compL g t fe y ρ ds).bind fun r => some (x :: r) else compL g t fe y ρ ds
def eLc (it : Si) (vs : List Nat) (g : Gm) (t : Tm) (fe : Sm) : Sm := fun ρ => (it ρ).bind fun x => (compL g t fe x.2 (wE ρ vs) x.1).bind fun r => if r.length ≤ 1000000 ∧ elOk r = true then (mkL r).map fun m => (.list (r.map (·.1)), m) else none
def tT : Tm := fun _ => some true
def rm (H : Hp) (p : Addr) : Hp := fun a => if a = p then none else H a
theorem rm_ne {H : Hp} {p b : Addr} (h : b ≠ p) : rm H p b = H b := if_neg h
theorem rm_same {H : Hp} {p : Addr} : rm H p p = none := if_pos rfl
theorem rm_of {H : Hp} {p b : Addr} {o : HO} (h : rm H p b = some o) : b ≠ p ∧ H b = some o := by
  by_cases e : b = p
  · rw [e, rm_same] at h; cases h
  · rw [rm_ne e] at h; exact ⟨e, h⟩
theorem rm_upd {H : Hp} {p : Addr} {o : HO} : rm (upd H p o) p = rm H p := by
  funext b
  by_cases e : b = p
  · rw [e, rm_same, rm_same]
  · rw [rm_ne e, rm_ne e, upd_ne e]
theorem rm_none {H : Hp} {p : Addr} (h : H p = none) : rm H p = H := by
  funext b
  by_cases e : b = p
  · rw [e, rm_same, h]
  · rw [rm_ne e]
theorem upd_rm {H : Hp} {p : Addr} {o : HO} (h : H p = some o) : upd (rm H p) p o = H := by
  funext b
  by_cases e : b = p
  · rw [e, upd_same, h]
  · rw [upd_ne e, rm_ne e]
theorem ext_rm {Hy H Hy' H' : Hp} {p : Addr} {xs : List V} (e : Ext Hy H Hy' H') (hp : H p = some (.lst xs)) (hy : Hy p = none) : Ext Hy (rm H p) Hy' (rm H' p) ∧ Hy' p = none := by
  have hy' : Hy' p = none := by
    cases q : Hy' p with
    | none => rfl
    | some u =>
      rcases e.nw p (by rw [q]; simp) with z | z
      · exact absurd hy z
      · rw [hp] at z; cases z
  refine ⟨⟨⟨fun b o q => ?_, fun P ⟨ps, q, t⟩ => ?_, fun a h => ?_⟩, e.yn, fun b o q => ?_, e.nt, fun a h => ?_⟩, hy'⟩
  · obtain ⟨q1, q2⟩ := nt_of q
    obtain ⟨q3, q4⟩ := rm_of q1
    rw [rm_ne q3]; exact e.le.ol b o (nt_some q4 q2)
  · obtain ⟨q3, q4⟩ := rm_of q
    obtain ⟨ps', q5, t'⟩ := e.le.tb P ⟨ps, q4, t⟩
    exact ⟨ps', by rw [rm_ne q3]; exact q5, t'⟩
  · by_cases hb : a = p
    · rw [hb, rm_same] at h; exact absurd rfl h
    · rw [rm_ne hb] at h ⊢; exact e.le.dm a h
  · rw [rm_ne (ne_of_none q hy')]; exact e.sm b o q
  · rcases e.nw a h with z | z
    · exact .inl z
    · by_cases hb : a = p
      · rw [hb, hy'] at h; exact absurd rfl h
      · exact .inr (by rw [rm_ne hb]; exact z)
theorem Vl.rmv {K : Fg} {H0 Hy H : Hp} {v : V} {d : D} {m : Md} {F : List Addr} {p : Addr} {xs : List V} (vl : Vl K H0 Hy H v d m F) (el : elOk [(d, m)] = true) (hp : H p = some (.lst xs)) (hy : Hy p = none) (h0 : H0 p = none) (hF : p ∉ F) (sl : ∀ y, Same (lf y H0 Hy) H) : Vl K H0 Hy (rm H p) v d m F := by
  have kp : ∀ a ∈ F, ∀ xs, H a = some (.lst xs) → rm H p a = some (.lst xs) := fun a ha xs q => by rw [rm_ne (fun z => hF (by rw [← z]; exact ha))]; exact q
  have sl' : ∀ y, Same (lf y H0 Hy) (rm H p) := fun y b o q => by
    have ne : b ≠ p := fun z => by
      rw [z] at q
      cases y with
      | true => rw [show lf true H0 Hy p = Hy p from rfl, hy] at q; cases q
      | false =>
        have : jn (nt H0) Hy p = some o := q
        unfold jn at this
        rw [hy] at this
        rw [nt_none h0] at this; cases this
    rw [rm_ne ne]; exact sl y b o q
  have own : ∀ n y, m = .own n y → Own K (lf y H0 Hy) (rm H p) n v d F := fun n y e => (vl.own n y e).mono (Same.refl _) kp
  refine ⟨?_, own, vl.nod, vl.hy, fun a ha => (vl.lst a ha).imp fun xs q => kp a ha xs q⟩
  simp only [elOk, Bool.and_eq_true, Bool.or_eq_true] at el
  rcases el.1 with q | q
  · exact (vl.rep.fl q).rp
  · split at q
    · exact (own _ _ rfl).rp (sl' _)
    · cases q
theorem SR.upd {K : Fg} {H0 Hy : Hp} {Fs : Nat → List Addr} {ρ : Env} {σ : L2.St} {H : Hp} (s : SR K T9 H0 Hy Fs ρ σ H) {p : Addr} {o : HO} (hy : Hy p = none) (h0 : H0 p = none) (hF : ∀ i, p ∉ Fs i) (hp : H p = none ∨ ∃ xs, H p = some (.lst xs)) : SR K T9 H0 Hy Fs ρ σ (L2.upd H p o) := by
  have ne : ∀ a i, a ∈ Fs i → a ≠ p := fun a i h z => hF i (z ▸ h)
  refine ⟨⟨fun b u q => ?_, fun P hP => ?_, fun a h => ?_⟩, s.tbs, fun b u q => ?_, s.ynt, s.sep, fun i a h => ?_, s.nod, s.dis, fun i d n y h => ?_, s.len⟩
  · rw [upd_ne (ne_of_none (nt_of q).1 h0)]; exact s.le.ol b u q
  · obtain ⟨ps, q, t⟩ := s.le.tb P hP
    refine ⟨ps, ?_, t⟩
    rw [upd_ne]; exact q
    intro z
    rw [z] at q
    rcases hp with w | ⟨xs, w⟩ <;> rw [q] at w <;> cases w
  · by_cases hb : a = p
    · rw [hb] at h; exact absurd h0 h
    · rw [upd_ne hb]; exact s.le.dm a h
  · rw [upd_ne (ne_of_none q hy)]; exact s.yng b u q
  · obtain ⟨q1, q2, q3⟩ := s.own i a h
    exact ⟨q1, q2, by rw [upd_ne (ne a i h)]; exact q3⟩
  · obtain ⟨v, h1, h2⟩ := s.slot i d n y h
    exact ⟨v, h1, h2.mono (Same.refl _) fun a ha xs q => by rw [upd_ne (ne a i ha)]; exact q⟩
theorem VlA.ext {K : Fg} {H0 Hy H Hy' H' : Hp} (e : Ext Hy H Hy' H') (sp : ∀ a, Hy' a ≠ none → H0 a = none) : ∀ {vs r F}, VlA K H0 Hy H vs r F → VlA K H0 Hy' H' vs r F
  | _, _, _, .nil => .nil
  | _, _, _, .cons v r n => .cons (v.ext e sp) (r.ext e sp) n
theorem VlA.snoc {K : Fg} {H0 Hy H : Hp} {v : V} {d : D} {m : Md} {F : List Addr} (h : Vl K H0 Hy H v d m F) : ∀ {vs r G}, VlA K H0 Hy H vs r G → (∀ a ∈ F, a ∉ G) → VlA K H0 Hy H (vs ++ [v]) (r ++ [(d, m)]) (G ++ F)
  | _, _, _, .nil, _ => by
    have q : VlA K H0 Hy H [v] [(d, m)] (F ++ []) := .cons h .nil fun _ _ z => nomatch z
    simpa using q
  | _, _, _, .cons (F := F0) v0 r0 n0, hn => by
    rw [List.append_assoc]
    refine .cons v0 (VlA.snoc h r0 fun a ha hb => hn a ha (List.mem_append_right _ hb)) fun a ha hb => ?_
    rcases List.mem_append.mp hb with z | z
    · exact n0 a ha z
    · exact hn a z (List.mem_append_left _ ha)
theorem elOk_app : ∀ {r s : List (D × Md)}, elOk (r ++ s) = (elOk r && elOk s)
  | [], s => by simp [elOk]
  | (d, m) :: r, s => by simp only [List.cons_append, elOk, elOk_app, Bool.and_assoc]
theorem wipe_get {σ : L2.St} {i : Nat} : ∀ {vs : List Nat}, (L2.wipe σ vs)[i]? = if i ∈ vs then (σ[i]?).map (fun _ => none) else σ[i]?
  | [] => by simp [L2.wipe]
  | v :: vs => by
    show ((L2.wipe σ vs).set v none)[i]? = _
    by_cases hv : v = i
    · subst hv
      rw [if_pos (List.mem_cons_self ..)]
      by_cases hl : v < (L2.wipe σ vs).length
      · rw [List.getElem?_set_self hl]
        rw [L2.wipe_length] at hl
        rw [List.getElem?_eq_getElem hl]; rfl
      · rw [List.getElem?_eq_none (by rw [List.length_set]; omega)]
        rw [L2.wipe_length] at hl
        rw [List.getElem?_eq_none (by omega)]; rfl
    · rw [List.getElem?_set_ne hv, wipe_get]
      by_cases hi : i ∈ vs
      · rw [if_pos hi, if_pos (List.mem_cons_of_mem _ hi)]
      · rw [if_neg hi, if_neg (by simp only [List.mem_cons, not_or]; exact ⟨fun z => hv z.symm, hi⟩)]
theorem wipe_idem (σ : L2.St) (vs : List Nat) : L2.wipe (L2.wipe σ vs) vs = L2.wipe σ vs := by
  apply List.ext_getElem?
  intro i
  rw [wipe_get, wipe_get]
  by_cases hi : i ∈ vs
  · simp only [if_pos hi, Option.map_map]; rfl
  · simp only [if_neg hi]
theorem lc_imp {K : Fg} {it : Si} {vs : List Nat} {gg : Gm} {tt : Tm} {σ : L2.St} {H : Hp} {Q : VK} (h : tD K T9 (eLc it vs gg tt fe) σ H Q) : tLc (tDI K T9 it) (tDG K T9 vs gg) (tDT K T9 tt) (tD K T9 fe) vs σ H Q := by
  obtain ⟨H0, Hy, Fs, ρ, d, m, s, hf, k⟩ := h
  obtain ⟨⟨ds, y⟩, h1, hf⟩ := Option.bind_eq_some_iff.mp hf
  obtain ⟨r, h2, hf⟩ := Option.bind_eq_some_iff.mp hf
  split at hf
  · rename_i hz
    obtain ⟨m', hm, hf⟩ := Option.map_eq_some_iff.mp hf
    cases hf
    refine ⟨H0, Hy, Fs, ρ, ds, y, s, h1, fun J Hy1 H1 e1 ok p hp => ?_⟩
    have s1 := s.ext e1
    have p0 : H0 p = none := s1.le.fr hp
    have pF : ∀ i, p ∉ Fs i := fun i z => by
      obtain ⟨_, _, xs, q⟩ := s1.own i p z
      rw [hp] at q; cases q
    have pFw : ∀ i, p ∉ wF Fs vs i := by
      have : ∀ ws i, p ∉ wF Fs ws i := by
        intro ws
        induction ws with
        | nil => exact pF
        | cons w ws ih =>
          intro i z
          by_cases hi : i = w
          · rw [show wF Fs (w :: ws) i = uF (wF Fs ws) w [] i from rfl, hi, uF_same] at z; cases z
          · rw [show wF Fs (w :: ws) i = uF (wF Fs ws) w [] i from rfl, uF_ne hi] at z; exact ih i z
      exact this vs
    have sw := s1.wipe vs
    refine ⟨fun i mm H => ∃ Hy2 acc rr F, SR K T9 H0 Hy2 (wF Fs vs) (wE ρ vs) (L2.wipe σ vs) H ∧ Same Hy1 Hy2 ∧ H p = some (.lst acc) ∧ Hy2 p = none ∧ VlA K H0 Hy2 (rm H p) acc rr F ∧ (∀ a ∈ F, H1 a = none) ∧ Ext Hy1 H1 Hy2 (rm H p) ∧ (∃ rest, compL gg tt fe y (wE ρ vs) (ds.drop i) = some rest ∧ rr ++ rest = r) ∧ mm = ds.length - i,
      ⟨ds.length, Hy1, [], [], [], sw.upd (hy_none s1.yng hp) p0 pFw (.inl hp), .refl _, upd_same, hy_none s1.yng hp, .nil, (fun _ h => nomatch h), ?_, ⟨r, by simpa using h2, rfl⟩, rfl⟩, ?_⟩
    · rw [rm_upd, rm_none hp]; exact s1.rfl
    rintro i mm H2 ⟨Hy2, acc, rr, F, s2, sm, hpa, hyp, va, fr, ex, ⟨rest, hrest, hrr⟩, rfl⟩
    by_cases hi : i < ds.length
    · right
      have hd : ds[i]? = some ds[i] := List.getElem?_eq_getElem hi
      rw [List.drop_eq_getElem_cons hi] at hrest
      obtain ⟨ρ3, h3, hrest⟩ := Option.bind_eq_some_iff.mp hrest
      obtain ⟨bb, h4, hrest⟩ := Option.bind_eq_some_iff.mp hrest
      refine ⟨ok.go i H2 Hy2 _ sm s2.yng (s2.sub y) s2.sep hd, fun H' => ∃ Hy2 acc rr F, SR K T9 H0 Hy2 (wF Fs vs) (wE ρ vs) (L2.wipe σ vs) H' ∧ Same Hy1 Hy2 ∧ H' p = some (.lst acc) ∧ Hy2 p = none ∧ VlA K H0 Hy2 (rm H' p) acc rr F ∧ (∀ a ∈ F, H1 a = none) ∧ Ext Hy1 H1 Hy2 (rm H' p) ∧ (∃ rest, compL gg tt fe y (wE ρ vs) (ds.drop (i + 1)) = some rest ∧ rr ++ rest = r), ?_, fun x H' hy => ?_⟩
      · rintro H' ⟨Hy3, acc3, rr3, F3, q1, q2, q3, q4, q5, q6, q7, q8⟩
        exact ⟨ds.length - (i + 1), by omega, Hy3, acc3, rr3, F3, q1, q2, q3, q4, q5, q6, q7, q8, rfl⟩
      · obtain ⟨Hy3, e3, r3⟩ := ok.yld i H2 Hy2 _ x H' sm s2.yng s2.ynt s2.le (s2.sub y) s2.sep hd hy
        have s3 := s2.ext e3
        obtain ⟨ex3, hyp3⟩ := ext_rm e3 hpa hyp
        have hpa3 : H' p = some (.lst acc) := e3.le.ol p _ (nt_lst hpa)
        refine ⟨H0, Hy3, _, _, _, y, ρ3, s3, r3, h3, fun σ4 Fs4 s4 w4 => ⟨w4.trans (wipe_idem σ vs), H0, Hy3, Fs4, ρ3, bb, s4, h4, fun Hy5 H5 e5 => ?_⟩⟩
        have s5 := s4.ext e5
        have s5w := s3.ext e5
        obtain ⟨ex5, hyp5⟩ := ext_rm e5 hpa3 hyp3
        have hpa5 : H5 p = some (.lst acc) := e5.le.ol p _ (nt_lst hpa3)
        have va5 := (va.ext ex3 s3.sep).ext ex5 s5.sep
        have exx := (ex.trans ex3).trans ex5
        by_cases hb : bb = true
        · rw [if_pos hb] at hrest
          dsimp only
          rw [if_pos hb]
          obtain ⟨⟨dx, mx⟩, h6, hrest⟩ := Option.bind_eq_some_iff.mp hrest
          obtain ⟨rest', h7, hrest⟩ := Option.bind_eq_some_iff.mp hrest
          cases hrest
          refine ⟨H0, Hy5, Fs4, ρ3, dx, mx, s5, h6, fun v Hy6 H6 F6 e6 v6 f6 => ?_⟩
          have s6 := s5w.ext e6
          obtain ⟨ex6, hyp6⟩ := ext_rm e6 hpa5 hyp5
          have hpa6 : H6 p = some (.lst acc) := e6.le.ol p _ (nt_lst hpa5)
          have va6 := va5.ext ex6 s6.sep
          have elx : elOk [(dx, mx)] = true := by
            have := hz.2
            rw [← hrr, elOk_app, Bool.and_eq_true] at this
            have t2 := this.2
            simp only [elOk, Bool.and_eq_true] at t2 ⊢
            exact ⟨t2.1, trivial⟩
          have pF6 : p ∉ F6 := fun z => by rw [f6 p z] at hpa5; cases hpa5
          have v6' := v6.rmv elx hpa6 hyp6 p0 pF6 s6.sub
          have dj : ∀ a ∈ F6, a ∉ F := fun a ha hb' => by
            obtain ⟨xs, q⟩ := va5.lst a hb'
            obtain ⟨_, q2⟩ := rm_of q
            rw [f6 a ha] at q2; cases q2
          have hlen : acc.length = rr.length := va.len
          refine ⟨acc, hpa6, ?_, Hy6, acc ++ [v], rr ++ [(dx, mx)], F ++ F6, s6.upd hyp6 p0 (fun i => ?_) (.inr ⟨_, hpa6⟩), (sm.trans e3.yn).trans (e5.yn.trans e6.yn), upd_same, hyp6, ?_, fun a ha => ?_, ?_, rest', h7, by rw [List.append_assoc]; exact hrr⟩
          · have h8 := congrArg List.length hrr
            simp only [List.length_append, List.length_cons] at h8
            have h9 := hz.1
            exact sz_lt (by omega)
          · exact pFw i
          · rw [rm_upd]; exact va6.snoc v6' dj
          · rcases List.mem_append.mp ha with z | z
            · exact fr a z
            · have q := f6 a z
              have ne : a ≠ p := fun w => pF6 (w ▸ z)
              exact exx.le.fr (by rw [rm_ne ne]; exact q)
          · rw [rm_upd]; exact exx.trans ex6
        · rw [if_neg hb] at hrest
          dsimp only
          rw [if_neg hb]
          exact ⟨Hy5, acc, rr, F, s5w, (sm.trans e3.yn).trans e5.yn, hpa5, hyp5, va5, fr, exx, rest, hrest, hrr⟩
    · left
      rw [List.drop_of_length_le (by omega)] at hrest
      cases hrest
      rw [List.append_nil] at hrr
      subst hrr
      refine ⟨ok.stop i H2 Hy2 sm s2.yng (s2.sub y) s2.sep (by omega), ?_⟩
      obtain ⟨Hy', F', e', v', f'⟩ := mk_list ex s1.le s2.sep va fr rm_same hm
      rw [upd_rm hpa] at e' v'
      exact k _ Hy' H2 F' (e1.trans e') v' fun a ha => e1.le.fr (f' a ha)
  · cases hf
theorem PTs.dt {c : Expr} {t : Tm} (h : DT X T9 c t) : PTs X [c] (tDT X.K T9 t) := pts_one h
theorem pts_yes : PTs X [] (tDT X.K T9 tT) := fun pins s σ H Q I q => pts_nil pins s σ H Q I (by
  obtain ⟨H0, Hy, Fs, ρ, b, s, hf, k⟩ := q
  cases hf
  exact k Hy H s.rfl)
theorem de_lc {elt tg iter : Expr} {ifs : List Expr} {scope : Scope} {own : List (Str × Nat)} {it : Si} {gg : Gm} {tt : Tm} (hc : X.calm = true) (hN : X.N.Nodup) (hi : DI X T9 tg iter it) (ok : BlkOk X.N X.env.scope scope own)
    (hg : ∀ (s : Shared) (H : Hp) (C : Addr) (cl : List (Str × Addr)) (fp : List Addr), DG (X.blk s H scope (compEnvC scope cl C X.env) fp) T9 tg (own.map (·.2)) gg) (ht : ∀ (s : Shared) (H : Hp) (C : Addr) (cl : List (Str × Addr)) (fp : List Addr), PTs (X.blk s H scope (compEnvC scope cl C X.env) fp) ifs (tDT X.K T9 tt))
    (he : ∀ (s : Shared) (H : Hp) (C : Addr) (cl : List (Str × Addr)) (fp : List Addr), DE (X.blk s H scope (compEnvC scope cl C X.env) fp) T9 elt fe) (hs : ∀ x, foldedSetIterable iter X.env x = pure x := by intro _; rfl) :
    DE X T9 (.ListComp elt [⟨tg, iter, ifs, 0⟩] scope pos) (eLc it (own.map (·.2)) gg tt fe) := PE.mono (pe_lc (g := tDG X.K T9 (own.map fun z : Str × Nat => z.2) gg) (tt := tDT X.K T9 tt) (te := tD X.K T9 fe) hc hN hi ok hg ht he hs) fun σ H Q h => lc_imp h
theorem ds_asgLc {i : Nat} {y : Str} {py spos : Pos} {elt tg iter : Expr} {ifs : List Expr} {scope : Scope} {own : List (Str × Nat)} {it : Si} {gg : Gm} {tt : Tm} (hc : X.calm = true) (hN : X.N.Nodup) (hy : X.N[i]? = some y) (hyl : X.env.scope.names.lookup y = some .local)
    (hsw : swapsWith (.ListComp elt [⟨tg, iter, ifs, 0⟩] scope pos) (some (.Name y py)) spos.line X.env = pure true) (hi : DI X T9 tg iter it) (ok : BlkOk X.N X.env.scope scope own)
    (hg : ∀ (s : Shared) (H : Hp) (C : Addr) (cl : List (Str × Addr)) (fp : List Addr), DG (X.blk s H scope (compEnvC scope cl C X.env) fp) T9 tg (own.map (·.2)) gg) (ht : ∀ (s : Shared) (H : Hp) (C : Addr) (cl : List (Str × Addr)) (fp : List Addr), PTs (X.blk s H scope (compEnvC scope cl C X.env) fp) ifs (tDT X.K T9 tt))
    (he : ∀ (s : Shared) (H : Hp) (C : Addr) (cl : List (Str × Addr)) (fp : List Addr), DE (X.blk s H scope (compEnvC scope cl C X.env) fp) T9 elt fe) (hs : ∀ x, foldedSetIterable iter X.env x = pure x := by intro _; rfl) :
    DS X T9 (.Assign [.Name y py] (.ListComp elt [⟨tg, iter, ifs, 0⟩] scope pos) spos) (sAsg i (eLc it (own.map (·.2)) gg tt fe)) :=
  PS.mono (ps_setLc (g := tDG X.K T9 (own.map fun z : Str × Nat => z.2) gg) (tt := tDT X.K T9 tt) (te := tD X.K T9 fe) hc hN hy hyl hsw hi ok hg ht he hs) fun E σ H h => asg_imp (fun _ _ _ z => lc_imp z) h
def allL (g : Gm) (fe : Sm) (y : Bool) (ρ : Env) : List D → Option Bool
  | [] => some true
  | d :: ds => (g d y ρ).bind fun ρ1 => (fe ρ1).bind fun x => match x.1 with
    | .bool true => allL g fe y ρ ds
    | .bool false => some false
    | _ => none
def eAg (it : Si) (vs : List Nat) (g : Gm) (fe : Sm) : Sm := fun ρ => (it ρ).bind fun x => (allL g fe x.2 (wE ρ vs) x.1).map fun b => (.bool b, mF)
theorem ext_tbl {Hy H : Hp} {P : Addr} {ps : Array Value} (s1 : Same Hy H) (ntt : NT Hy) (hP : TbAt H P) (ht : TriplesOk ps.toList) : Ext Hy H Hy (upd H P (.tbl ps)) := by
  obtain ⟨ps0, hP0, _⟩ := hP
  refine ⟨⟨fun b o q => ?_, fun Q hQ => ?_, fun a h => ?_⟩, .refl _, fun b o q => ?_, ntt, fun _ h => .inl h⟩
  · obtain ⟨q1, q2⟩ := nt_of q
    rw [upd_ne]; exact q1
    intro z
    rw [z, hP0] at q1; cases q1; exact q2 _ rfl
  · by_cases hb : Q = P
    · rw [hb]; exact ⟨ps, upd_same, ht⟩
    · obtain ⟨qs, q, t⟩ := hQ
      exact ⟨qs, by rw [upd_ne hb]; exact q, t⟩
  · by_cases hb : a = P
    · rw [hb, upd_same]; simp
    · rw [upd_ne hb]; exact h
  · rw [upd_ne]; exact s1 b o q
    intro z
    have := s1 b o q
    rw [z, hP0] at this; cases this; exact ntt b _ q ps0 rfl
theorem de_ag {P : Addr} {elt tg iter : Expr} {scope : Scope} {own : List (Str × Nat)} {p gpos : Pos} {it : Si} {gg : Gm} {k : Nat} (hc : X.calm = true) (hN : X.N.Nodup) (hr : Room (k + 1) X.A) (hgl : Gl X "all") (hm : X.mg "all" = none) (C : GC X.K X.env.code P) (hPT : P ∈ T9) (M : ∃ bm ob, BMod X.base mainGlobals X.mg bm ob)
    (hi : DI X T9 tg iter it) (ok : BlkOk X.N X.env.scope scope own) (hco : scope.isCoroutine = false) (hcell : ∀ y ∈ scope.names, y.2 ≠ .cell) (h0 : scope.names.lookup (".0" : Str) = some NameKind.local)
    (hg : ∀ (s : Shared) (H : Hp) (C : Addr) (cl : List (Str × Addr)) (code : Value) (fp : List Addr) (A : Around), DG (X.gen s H (genEnv scope cl C code builtinsNs X.env) fp A) T9 tg (own.map (·.2)) gg)
    (he : ∀ (s : Shared) (H : Hp) (C : Addr) (cl : List (Str × Addr)) (code : Value) (fp : List Addr) (A : Around), Room k A → DE (X.gen s H (genEnv scope cl C code builtinsNs X.env) fp A) T9 elt fe) (hs : ∀ x, genFold iter X.env x = pure x := by intro _; rfl) :
    DE X T9 (.Call (.Name "all" p) [.GeneratorExp elt [⟨tg, iter, [], 0⟩] scope gpos] [] pos) (eAg it (own.map (·.2)) gg fe) := by
  refine PE.mono (pe_allG (P := P) (g := tDG X.K T9 (own.map fun z : Str × Nat => z.2) gg) (te := tD X.K T9 fe) hc hN hr hgl hm C M hi ok hco hcell h0 hg he hs) fun σ H Q ⟨H0, Hy, Fs, ρ, d, m, s, hf, kk⟩ => ?_
  generalize own.map (·.2) = vs at hf ⊢
  obtain ⟨⟨ds, y⟩, h1, hf⟩ := Option.bind_eq_some_iff.mp hf
  obtain ⟨bb, h2, hf⟩ := Option.map_eq_some_iff.mp hf
  cases hf
  refine ⟨H0, Hy, Fs, ρ, ds, y, s, h1, fun J Hy1 H1 e1 oki => ?_⟩
  have s1 := s.ext e1
  have tb1 : TbAt H1 P := s1.le.tb P (s1.tbs P hPT)
  refine ⟨tb1, fun ps htr => ?_⟩
  have et := ext_tbl s1.yng s1.ynt tb1 htr
  have s2 := s1.ext et
  have sw := s2.wipe vs
  refine ⟨fun i mm H2 => ∃ Hy2, SR X.K T9 H0 Hy2 (wF Fs vs) (wE ρ vs) (L2.wipe σ vs) H2 ∧ Ext Hy H Hy2 H2 ∧ Same Hy1 Hy2 ∧ allL gg fe y (wE ρ vs) (ds.drop i) = some bb ∧ mm = ds.length - i, ⟨ds.length, Hy1, sw, e1.trans et, .refl _, by simpa using h2, rfl⟩, ?_⟩
  rintro i mm H2 ⟨Hy2, s2, ex, sm, hl, rfl⟩
  by_cases hi : i < ds.length
  · right
    have hd : ds[i]? = some ds[i] := List.getElem?_eq_getElem hi
    rw [List.drop_eq_getElem_cons hi] at hl
    obtain ⟨ρ3, h3, hl⟩ := Option.bind_eq_some_iff.mp hl
    obtain ⟨⟨dx, mx⟩, h4, hl⟩ := Option.bind_eq_some_iff.mp hl
    refine ⟨oki.go i H2 Hy2 _ sm s2.yng (s2.sub y) s2.sep hd, fun H' => ∃ Hy2, SR X.K T9 H0 Hy2 (wF Fs vs) (wE ρ vs) (L2.wipe σ vs) H' ∧ Ext Hy H Hy2 H' ∧ Same Hy1 Hy2 ∧ allL gg fe y (wE ρ vs) (ds.drop (i + 1)) = some bb, ?_, fun x H' hy => ?_⟩
    · rintro H' ⟨Hy3, q1, q2, q3, q4⟩
      exact ⟨ds.length - (i + 1), by omega, Hy3, q1, q2, q3, q4, rfl⟩
    · obtain ⟨Hy3, e3, r3⟩ := oki.yld i H2 Hy2 _ x H' sm s2.yng s2.ynt s2.le (s2.sub y) s2.sep hd hy
      have s3 := s2.ext e3
      refine ⟨H0, Hy3, _, _, _, y, ρ3, s3, r3, h3, fun σ4 Fs4 s4 w4 => ⟨w4.trans (wipe_idem σ vs), H0, Hy3, Fs4, ρ3, dx, mx, s4, h4, fun v Hy6 H6 F6 e6 v6 f6 => ?_⟩⟩
      have s6 := s3.ext e6
      simp only at hl
      split at hl
      · refine ⟨true, v6.rep.bl_inv, ?_⟩
        rw [if_pos rfl]
        exact ⟨Hy6, s6, (ex.trans e3).trans e6, (sm.trans e3.yn).trans e6.yn, hl⟩
      · cases hl
        refine ⟨false, v6.rep.bl_inv, ?_⟩
        rw [if_neg (by simp)]
        exact kk _ Hy6 H6 [] ((ex.trans e3).trans e6) (Vl.flat (.bl _) _ _) (fun _ h => nomatch h)
      · cases hl
  · left
    rw [List.drop_of_length_le (by omega)] at hl
    cases hl
    exact ⟨oki.stop i H2 Hy2 sm s2.yng (s2.sub y) s2.sep (by omega), kk _ Hy2 H2 [] ex (Vl.flat (.bl _) _ _) (fun _ h => nomatch h)⟩
end
end EV
namespace EV
open PySem PySem.Spec PyProof.Rows L2
def env0 (n : Nat) (ds : List D) : Env := ds.map (fun d => some (d, 0, false)) ++ List.replicate (n - ds.length) none
def runF (n : Nat) (f : Ss) : List D → Option (D × Nat) := fun ds => (f (env0 n ds)).bind fun w => match w with
  | .rt d n => some (d, n)
  | .nx _ => some (.none, 0)
  | _ => none
theorem env0_get {n : Nat} {ds : List D} {i : Nat} {x : D × Nat × Bool} (h : (env0 n ds)[i]? = some (some x)) : ∃ d, ds[i]? = some d ∧ x = (d, 0, false) := by
  unfold env0 at h
  by_cases hi : i < ds.length
  · rw [List.getElem?_append_left (by rw [List.length_map]; exact hi), List.getElem?_map] at h
    obtain ⟨d, h1, h2⟩ := Option.map_eq_some_iff.mp h
    cases h2
    exact ⟨d, h1, rfl⟩
  · rw [List.getElem?_append_right (by rw [List.length_map]; omega), List.getElem?_replicate] at h
    split at h <;> cases h
theorem sr_start {K : Fg} {T9 : List Addr} {H : Hp} {N : List Str} {vs : List V} {ds : List D} (r : RpA K H vs ds) (ht : ∀ P ∈ T9, TbAt H P) (hl : ds.length ≤ N.length) : SR K T9 H (fun _ => none) (fun _ => []) (env0 N.length ds) (L2.start N vs) H := by
  refine ⟨.refl _, ht, (fun b o e => by cases e), (fun b o e => by cases e), fun a h => absurd rfl h, (fun i a h => by cases h), fun _ => .nil, (fun _ _ _ _ h => by cases h), fun i d n y h => ?_, ?_⟩
  · obtain ⟨d', h1, h2⟩ := env0_get h
    cases h2
    obtain ⟨v, h3, h4⟩ := r.get h1
    refine ⟨v, ?_, rfl, ?_⟩
    · unfold L2.start
      have hi : i < vs.length := (List.getElem?_eq_some_iff.mp h3).1
      rw [List.getElem?_append_left (by rw [List.length_map]; exact hi), List.getElem?_map, h3]; rfl
    · exact h4.nt.mono (jn_l fun a h => absurd rfl h)
  · unfold env0 L2.start
    rw [List.length_append, List.length_append, List.length_map, List.length_map, List.length_replicate, List.length_replicate, r.len]
section
variable {P : Program} {w : World} {K : Fg} {mg : Str → Option Value} {base : Heap}
theorem fn_ok {T9 : List Addr} {x qual : Str} {st : Stmt} {f : Addr} {fd : FuncData} {N ps : List Str} {k np : Nat} {g : Ss} (F : Fun K x qual st f fd) (S : FnScope N ps (defScope st)) (hnp : ps.length = np) (hN : np ≤ N.length)
    (hbody : ∀ (cdv : Value) (A : Around) (outer : List PySem.Env) (s : Shared) (H : Hp) (E : XK), fd.code = cdv → Room k (A.deeper (envOfC qual (defScope st) s.heap.objs.size f cdv)) →
      DSs (cxOf CX0 P w K mg base N qual (defScope st) f cdv A outer s H E).nox T9 (defBody st) g) : FnOk P w K mg base CX0 (k + 1) f fd ps (spD K T9 np (runF N.length g)) := by
  obtain ⟨oc, od, kV, doc, pm, an, cdv, ct, osl, rfl, lk, hcd⟩ := F.ex
  refine fn_of lk hcd S (fun vs H Q E ⟨ds, d, n, r, hl, _⟩ => by rw [r.len, hl, hnp]) fun A outer s H vs Q E hr hsp => ?_
  obtain ⟨ds, d, n, r, hl, ht, hF, kk⟩ := hsp
  refine ⟨_, (hbody cdv A outer s H E rfl hr).nox, ?_⟩
  obtain ⟨w', h1, hF⟩ := Option.bind_eq_some_iff.mp hF
  refine ⟨H, fun _ => none, fun _ => [], env0 N.length ds, w', sr_start r ht (by rw [hl]; exact hN), h1, ?_⟩
  cases w' with
  | nx ρ =>
    cases hF
    exact fun σ H' Hy' Fs s' _ => kk .non H' Hy' [] s'.le s'.yng s'.ynt s'.sep ⟨rfl, .non⟩ .nil (fun _ h => nomatch h)
  | rt d' n' =>
    cases hF
    exact fun v H' Hy' G R => kk v H' Hy' G R.le R.sm R.nt R.sp R.ow R.nd R.fr
  | bk ρ => cases hF
  | ct ρ => cases hF
end
def tblO (h : Heap) (b : Addr) : Option HO := match h.get? b with
  | some o => (match o.data with | .fields ps => some (.tbl ps) | _ => none)
  | none => none
theorem tblO_of {h : Heap} {c P : Addr} {ps : Array Value} (t : h.TableAt c P ps) : tblO h P = some (.tbl ps) := by unfold tblO; rw [t.2]
theorem law_T {P : Program} {w : World} {K : Fg} {mg mb : Str → Option Value} {k : Nat} {fa a : Addr} {fd : FuncData} {x : Str} {sp : Sp} {s₁ : Shared} {vs : List Value} {ns : List Int} {T9 : List Addr} {bm : Addr} {ob : Obj}
    (KX : K.In s₁.heap) (hns : s₁.heap.Ns mainGlobals mg) (hb : s₁.heap.Ns builtinsNs mb) (hbb : ∀ x : Str, x ≠ "__name__" → mb x = bootBuiltins x) (hlim : s₁.heap.NoLimit) (hg : s₁.gens = #[]) (BM : BMod s₁.heap mainGlobals mg bm ob)
    (ha : s₁.heap.get? a = some { cls := .type "list", data := .seq vs.toArray }) (hi : IntsAre vs ns) (hl : ns.length ≤ sizeLine) (hr : Room k callerA)
    (hT : ∀ Q ∈ T9, K.lookup Q = none ∧ ∃ c ps, s₁.heap.TableAt c Q ps ∧ TriplesOk ps.toList)
    (F : ∀ base : Heap, K.In base → base.Ns mainGlobals mg → BMod base mainGlobals mg bm ob → FnOk P w K mg base CX0 k fa fd [x] sp) (hbind : ∀ (s : Shared) (u : Value), BindsTo s fd ⟨[u], []⟩ [(x, u)])
    (hsp : ∀ H : Hp, (∀ Q ∈ T9, TbAt H Q) → SqL K H a (ns.map V.int) → sp [.ref a] H (fun v _ => v = .bl true) fun _ _ _ => False) :
    codeAny (model P w) callerA (.call (.ref fa) ⟨[.ref a], []⟩) (fun r s' => r = .ok (.ret (.bool true)) ∧ OldK s₁.heap s'.heap ∧ s'.os = s₁.os ∧ AllBare s'.gens) s₁ := by
  have rv := vals_ints hi
  have lenV := hi.length
  have naT : a ∉ T9 := fun z => by
    obtain ⟨_, c, ps, t, _⟩ := hT a z
    have := t.2
    rw [ha] at this; cases this
  have core : ∀ H : Hp, (∀ b, b ∉ T9 → H b = none ∨ (b = a ∧ K.lookup a = none ∧ ∃ o xs, H b = some (.frz o (.lst xs)))) → (∀ Q ∈ T9, H Q = tblO s₁.heap Q) → SqL K H a (ns.map V.int) → HOk P w H s₁.heap →
      codeAny (model P w) callerA (.call (.ref fa) ⟨[.ref a], []⟩) (fun r s' => r = .ok (.ret (.bool true)) ∧ OldK s₁.heap s'.heap ∧ s'.os = s₁.os ∧ AllBare s'.gens) s₁ := by
    intro H hO hTb hS hok
    have base_of : ∀ {b : Addr} {o : Obj}, s₁.heap.get? b = some o → H b = none → (hidT s₁.heap H).get? b = some o := fun e n => hidT_get e n
    have free : ∀ {b : Addr} {o : Obj}, s₁.heap.get? b = some o → o.cls ≠ .none → (b = a → False) → H b = none := fun {b o} e hc hba => by
      by_cases hbT : b ∈ T9
      · obtain ⟨_, c, ps, t, _⟩ := hT b hbT
        have := t.2
        rw [e] at this; cases this; exact absurd rfl hc
      · exact (hO b hbT).elim id fun z => (hba z.1).elim
    have noA : ∀ {b : Addr} {o : Obj} {es : Array DictEntry} {ep : Nat}, s₁.heap.get? b = some o → o.data = .dict es ep → H b = none := fun {b o es ep} e d => by
      by_cases hbT : b ∈ T9
      · obtain ⟨_, c, ps, t, _⟩ := hT b hbT
        have := t.2
        rw [e] at this; cases this; cases d
      · refine (hO b hbT).elim id fun z => ?_
        obtain ⟨z1, _⟩ := z
        subst z1
        rw [ha] at e; cases e
        have d' : Data.seq vs.toArray _ = Data.dict es ep := d
        cases d'
    have nsK : ∀ {b : Addr} {m : Str → Option Value}, s₁.heap.Ns b m → (hidT s₁.heap H).Ns b m := fun {b m} ⟨o, es, ep, e, d, r⟩ => ⟨o, es, ep, base_of e (noA e d), d, r⟩
    have hKb : K.In (hidT s₁.heap H) := fun b o e => base_of (KX b o e) (by
      by_cases hbT : b ∈ T9
      · rw [(hT b hbT).1] at e; cases e
      · refine (hO b hbT).elim id fun z => ?_
        rw [z.1, z.2.1] at e; cases e)
    have bmK : BMod (hidT s₁.heap H) mainGlobals mg bm ob := ⟨nsK BM.ns, BM.name, BM.ne, base_of BM.obj (free BM.obj (by rw [BM.cls]; simp) fun z => by
      have := BM.obj
      rw [z, ha] at this; cases this
      have h9 := BM.cls
      have h8 : (Value.type "list") = Value.type "module" := h9
      exact absurd h8 (by decide)), BM.cls, BM.dict, BM.data⟩
    have hM : Mod K mg (hidT s₁.heap H) := ⟨hKb, nsK hns, ⟨mb, nsK hb, hbb⟩, let ⟨mc, h1, h2⟩ := hlim; ⟨mc, nsK h1, h2⟩⟩
    have e0 : Env0 P w K mg (hidT s₁.heap H) callerA [] s₁ H := ⟨rfl, hM, fun b o e => of_hidT e, Nat.le_of_eq (hidT_size _ _), trivial, fun b hb => absurd (show b ∈ ([] : List Addr) from hb) (by simp), hok, .of_eq hg⟩
    have tbs : ∀ Q ∈ T9, TbAt H Q := fun Q hQ => by
      obtain ⟨_, c, ps, t, tr⟩ := hT Q hQ
      exact ⟨ps, by rw [hTb Q hQ, tblO_of t], tr⟩
    refine codeAny_mono ((F _ hKb (nsK hns) bmK).run callerA [] s₁ H ⟨[.ref a], []⟩ [.ref a] [.ref a] _ _ hr e0 (hbind s₁ (.ref a)) (.cons rfl .nil) (hsp H tbs hS)) fun r s' h => ?_
    cases r with
    | error e => exact (show False from h).elim
    | ok fl =>
      cases fl with
      | next => exact False.elim h
      | brk => exact False.elim h
      | cont => exact False.elim h
      | ret u =>
        obtain ⟨v, H', os, bare, un, hok', r', q⟩ := h
        have q' : v = .bl true := q
        subst q'
        obtain rfl : u = Value.bool true := r'
        have all : ∀ b o, s₁.heap.get? b = some o → asItWas s₁.heap s'.heap b o := fun b o e => by
          by_cases hbT : b ∈ T9
          · obtain ⟨_, c, ps, t, _⟩ := hT b hbT
            have e1 := t.2
            rw [e] at e1; cases e1
            obtain ⟨more, z⟩ := un.tbls b ps (by rw [hTb b hbT, tblO_of t])
            exact .inr (.inl ⟨t.isCodeTable, rfl, ps, more, rfl, hok' b _ z⟩)
          · rcases hO b hbT with z | ⟨_, _, ob', xs, z⟩
            · exact .inl (un.keep b o e z (by intro z; exact absurd (show b ∈ ([] : List Addr) from z) (by simp)) (by simp))
            · have z2 := un.frzs b ob' _ z
              obtain ⟨e1, _⟩ := hok b _ z
              obtain ⟨e2, _⟩ := hok' b _ z2
              rw [e] at e1; cases e1
              exact .inl e2
        refine ⟨rfl, ⟨all, fun b o e => ?_⟩, os, bare⟩
        rcases all b o e with z | ⟨_, _, _, _, _, z⟩ | ⟨_, _, ⟨o', _, _, z, _⟩, _⟩
        · exact ⟨_, z⟩
        · exact ⟨_, z⟩
        · exact ⟨_, z⟩
  have okT : ∀ b u, tblO s₁.heap b = some u → b ∈ T9 → ObjOk P w (fun _ => none) s₁.heap b u → True := fun _ _ _ _ _ => trivial
  cases hk : K.lookup a with
  | some o =>
    have e := KX a o hk
    rw [ha] at e
    cases e
    refine core (fun b => if b ∈ T9 then tblO s₁.heap b else none) (fun b hb => .inl (if_neg hb)) (fun Q hQ => if_pos hQ) (.inr ⟨_, vs.toArray, _, hk, rfl, rfl, rfl, by rw [List.size_toArray, lenV]; exact hl, by simpa using rv⟩) fun b u z => ?_
    by_cases hbT : b ∈ T9
    · have z' : tblO s₁.heap b = some u := (if_pos hbT).symm.trans z
      obtain ⟨_, c, ps, t, _⟩ := hT b hbT
      rw [tblO_of t] at z'; cases z'
      exact t.2
    · have z' : none = some u := (if_neg hbT).symm.trans z
      cases z'
  | none =>
    refine core (fun b => if b ∈ T9 then tblO s₁.heap b else if b = a then some (.frz { cls := .type "list", data := .seq vs.toArray } (.lst (ns.map V.int))) else none) (fun b hb => ?_) (fun Q hQ => if_pos hQ) (.inl (.inr ⟨{ cls := .type "list", data := .seq vs.toArray }, ?_⟩)) fun b u z => ?_
    · by_cases hba : b = a
      · exact .inr ⟨hba, hk, _, _, (if_neg hb).trans (if_pos hba)⟩
      · exact .inl ((if_neg hb).trans (if_neg hba))
    · exact (if_neg naT).trans (if_pos rfl)
    · by_cases hbT : b ∈ T9
      · have z' : tblO s₁.heap b = some u := (if_pos hbT).symm.trans z
        obtain ⟨_, c, ps, t, _⟩ := hT b hbT
        rw [tblO_of t] at z'; cases z'
        exact t.2
      · by_cases hba : b = a
        · have z' := ((if_neg hbT).trans (if_pos hba)).symm.trans z
          cases z'
          subst hba
          exact ⟨ha, by rw [List.length_map]; exact hl, vs, _, rv, ha⟩
        · have z' : none = some u := ((if_neg hbT).trans (if_neg hba)).symm.trans z
          cases z'
end EV
namespace EV
open PySem PySem.Spec PyProof.Rows L2 PySem.W
theorem own_true {K : Fg} {L H : Hp} {n : Nat} {v : V} {b : Bool} {G : List Addr} (h : Own K L H n v (.bool b) G) : v = .bl b := by
  cases n with
  | zero => exact h.2.bl_inv
  | succ n => exact h.2.bl_inv
theorem lookup_none {K : Fg} {h : Heap} {c Q : Addr} {ps : Array Value} {mg : Str → Option Value} (X : K.In h) (hK : kb_classed K = true) (B : Based h h c Q ps) (G : h.Ns mainGlobals mg) : K.lookup Q = none := by
  cases e : K.lookup Q with
  | none => rfl
  | some o =>
    exfalso
    have ha := X Q o e
    have q := List.all_eq_true.mp hK (Q, o) (kb_mem e)
    simp only [Bool.or_eq_true, decide_eq_true_eq, beq_iff_eq] at q
    rcases q with (q | q) | q
    · exact B.ne_of_cls ha q rfl
    · exact B.notStatics q
    · exact B.ne_of_ns G q.symm
theorem gc_of {K : Fg} {h : Heap} {c Q : Addr} {ps : Array Value} {cdv : Value} {qual : Str} (X : K.In h) (e : codeIn K cdv qual = true) (hc : cdv = .ref c) (B : Based h h c Q ps) : GC K cdv Q := by
  subst hc
  unfold codeIn at e
  simp only at e
  cases lk : K.lookup c with
  | none => rw [lk] at e; cases e
  | some o =>
    have ho := X c o lk
    obtain ⟨o1, vs, file, tf, flags, tg, inF, text, tt, op, q1, q2, q3, q4, q5, q6, q7, q8, q9, q10, q11⟩ := B.code
    rw [ho] at q1; cases q1
    obtain ⟨⟨o2, vs2, t1, t2, t3, t4⟩, _⟩ := B.tab
    rw [ho] at t1; cases t1
    rw [q2] at t3; cases t3
    exact ⟨⟨c, o, vs, file, tf, flags, tg, inF, text, tt, rfl, lk, t2, q2, q3, t4, q4, q5, q6, q7, q11⟩⟩
theorem bits_of {ns : List Int} (h : WData.layableAll [WData.list (ns.map WData.int)] = true) : ∀ n ∈ ns, Builtin.Int.intBits n ≤ 2 ^ 20 := by
  intro n hn
  have h1 := layableW_arg h (WData.list (ns.map WData.int)) (List.mem_singleton.mpr rfl)
  have h2 := layableW_item h1 (.int n) (List.mem_map.mpr ⟨n, hn, rfl⟩)
  have h3 := (layableW_iff.mp h2).2.2
  simp only [WData.weight] at h3
  unfold Builtin.Int.intBits
  exact h3
theorem walk_T {l : OpenLaw} {k : Nat} {q : Program} {loose : List Str} {XP : (Str → Option Value) → Heap → Prop} {YP : World → Heap → Prop} {d : DefRec} {K : Params → Frag} {x : Str} {Fd : List D → Option (D × Nat)}
    (hn : l.most = some 63) (hdf : d.params.defaults = []) (hr : Room k callerA) (hY : ∀ (w : World) (h : Heap), YP w h → (K w.params).In h)
    (F : ∀ (w : World) (s₀ : Shared) (mg mb : Str → Option Value) (fa : Addr) (h : Heap), (K w.params).In h → Ground q loose [] XP w s₀ mg mb h → mg d.name = some (.ref fa) →
      ∃ (fd : FuncData) (T9 : List Addr), (∀ (s : Shared) (u : Value), BindsTo s fd ⟨[u], []⟩ [(x, u)]) ∧ (∀ Q ∈ T9, (K w.params).lookup Q = none ∧ ∃ c ps, h.TableAt c Q ps ∧ TriplesOk ps.toList) ∧
        ∀ (bm : Addr) (ob : Obj) (base : Heap), (K w.params).In base → base.Ns mainGlobals mg → BMod base mainGlobals mg bm ob → FnOk l.prog w (K w.params) mg base CX0 k fa fd [x] (spD (K w.params) T9 1 Fd))
    (hF : ∀ ns : List Int, ns.length ≤ 63 → (∀ n ∈ ns, Builtin.Int.intBits n ≤ 2 ^ 20) → ∃ n, Fd [.list (ns.map PyData.int)] = some (.bool true, n)) :
    WalkO q loose XP YP l.row.toRowW d [] (fun f vs => PySem.call f vs) := by
  intro w s₀ s₁ mg mb G Y fa o pm cd doc dV kV ho hd hcd hD hmg hg args vals as hpre hlay hrd hwl hlo
  obtain rfl : dV = .none := Dflts.none hD hdf
  obtain rfl : kV = .none := Dflts.noKw hD
  obtain ⟨a, vs, ns, rfl, rfl, hobj, hints, hlen⟩ := Att.script_of hn hpre hwl
  have KX := hY w _ Y
  obtain ⟨fd, T9, hb, hT, hFn⟩ := F w s₀ mg mb fa _ KX G hmg
  obtain ⟨bm, ob, BM⟩ := bmod_of_top G.T
  obtain ⟨n, hFd⟩ := hF ns hlen (bits_of hlay)
  refine enter_call (codeAny_mono (law_T KX G.T.g G.T.b G.T.builtins G.T.nolimit hg BM hobj hints (Nat.le_trans hlen (by decide)) hr hT (fun base kb nb bmb => hFn bm ob base kb nb bmb) hb fun H tbs hS => ?_) fun r s' hq => ?_)
  · refine ⟨[.list (ns.map PyData.int)], .bool true, n, .cons (.lst hS ?_) .nil, rfl, tbs, hFd, fun v H' Hn Gg _ _ _ _ o _ _ => own_true o⟩
    have : ∀ l : List Int, RpA (K w.params) H (l.map V.int) (l.map PyData.int) := by
      intro l
      induction l with
      | nil => exact .nil
      | cons x l ih => exact .cons (.int _) ih
    exact this ns
  · obtain ⟨rfl, h2, h3, h4⟩ := hq
    exact ⟨.inl ⟨.bool true, .bool true, [], rfl, fun _ => rfl, .bool true, Att.post_true l _, fun _ => ⟨List.Pairwise.nil, fun _ hm => (nomatch hm)⟩⟩, h2, h3, h4⟩
end EV
namespace EV
open PySem PySem.Spec PyProof.Rows L2
section
variable {X : Cx} {T9 : List Addr} {a b c : Expr} {pos : Pos} {fa fb fc : Sm}
theorem v_imp {K : Fg} {f : Sm} {σ : L2.St} {H : Hp} {Q : Bool → Hp → Prop} (h : tDT K T9 (tV f) σ H Q) : tD K T9 f σ H (fun x H' => ∃ k, x = .bl k ∧ Q k H') := by
  obtain ⟨H0, Hy, Fs, ρ, b, s, hf, k⟩ := h
  obtain ⟨⟨dx, mx⟩, h1, hf⟩ := Option.bind_eq_some_iff.mp hf
  simp only at hf
  refine ⟨H0, Hy, Fs, ρ, _, mx, s, h1, fun x Hy1 H1 F1 e1 v1 f1 => ?_⟩
  split at hf
  · cases hf
    exact ⟨_, v1.rep.bl_inv, k Hy1 H1 e1⟩
  · cases hf
theorem b2_imp {K : Fg} {r : R2} {g : D → D → Option D} {σ : L2.St} {H : Hp} {Q : VK} (hr : ∀ x y dx dy d H Q, Rp K H x dx → Rp K H y dy → g dx dy = some d → (∀ v, Fl v d → Q v H) → r x y H Q) (h : tD K T9 (eB2 g fa fb) σ H Q) : tOp r (tD K T9 fa) (tD K T9 fb) σ H Q := by
  obtain ⟨H0, Hy, Fs, ρ, d, m, s, hf, k⟩ := h
  obtain ⟨⟨dx, mx⟩, h1, hf⟩ := Option.bind_eq_some_iff.mp hf
  obtain ⟨⟨dy, my⟩, h2, hf⟩ := Option.bind_eq_some_iff.mp hf
  obtain ⟨d', h3, hf⟩ := Option.map_eq_some_iff.mp hf
  cases hf
  refine ⟨H0, Hy, Fs, ρ, dx, mx, s, h1, fun x Hy1 H1 F1 e1 v1 f1 => ?_⟩
  have s1 := s.ext e1
  refine ⟨H0, Hy1, Fs, ρ, dy, my, s1, h2, fun y Hy2 H2 F2 e2 v2 f2 => ?_⟩
  refine hr x y dx dy _ H2 Q (v1.rep.le e2.le) v2.rep h3 fun v f => ?_
  exact k v Hy2 H2 [] (e1.trans e2) (Vl.flat f _ _) (fun _ h => nomatch h)
theorem dt_b2 {e : Expr} {r : R2} {g : D → D → Option D} (h : PT X e (tTest (tOp r (tD X.K T9 fa) (tD X.K T9 fb)))) (hr : ∀ x y dx dy d H Q, Rp X.K H x dx → Rp X.K H y dy → g dx dy = some d → (∀ v, Fl v d → Q v H) → r x y H Q) : DT X T9 e (tV (eB2 g fa fb)) :=
  PT.mono h fun σ H Q q => b2_imp hr (v_imp q)
theorem i0_rd {K : Fg} {g : Int → Int → V} {gd : Int → Int → D} (hg : ∀ i j, Fl (g i j) (gd i j)) : ∀ x y dx dy d H Q, Rp K H x dx → Rp K H y dy → gI (fun i j => some (gd i j)) dx dy = some d → (∀ v, Fl v d → Q v H) → rI0 g x y H Q := fun x y dx dy d H Q rx ry hgd k => by
  obtain ⟨i, j, rfl, rfl, hc⟩ := gI_of hgd
  cases hc
  exact ⟨i, j, rx.int_inv, ry.int_inv, k _ (hg i j)⟩
theorem dt_ge (ha : DE X T9 a fa) (hb : DE X T9 b fb) : DT X T9 (.Compare a [.GtE] [b] pos) (tV (eB2 gGe fa fb)) := dt_b2 (pt_cmpR op_ge ha hb (nomark _)) (i0_rd fun _ _ => .bl _)
theorem dt_eq (hu : X.A.units + 64 < cLine) (ha : DE X T9 a fa) (hb : DE X T9 b fb) : DT X T9 (.Compare a [.Eq] [b] pos) (tV (eB2 gEq fa fb)) :=
  dt_b2 (pt_cmpR (op_eqD hu) ha hb (nomark _)) fun x y dx dy d H Q rx ry hgd k => by
    unfold gEq at hgd
    split at hgd
    · rename_i h
      cases hgd
      obtain ⟨h1, h2⟩ := eqOk_of h.1
      obtain ⟨h3, h4⟩ := eqOk_of h.2
      exact ⟨dx, dy, rx.dp h2, ry.dp h4, h1, h3, k _ (.bl _)⟩
    · cases hgd
theorem dt_ne (hu : X.A.units + 64 < cLine) (ha : DE X T9 a fa) (hb : DE X T9 b fb) : DT X T9 (.Compare a [.NotEq] [b] pos) (tV (eB2 gNe fa fb)) :=
  dt_b2 (pt_cmpR (op_neD hu) ha hb (nomark _)) fun x y dx dy d H Q rx ry hgd k => by
    unfold gNe at hgd
    split at hgd
    · rename_i h
      cases hgd
      obtain ⟨h1, h2⟩ := eqOk_of h.1
      obtain ⟨h3, h4⟩ := eqOk_of h.2
      exact ⟨dx, dy, rx.dp h2, ry.dp h4, h1, h3, k _ (.bl _)⟩
    · cases hgd
end
end EV
namespace EV
open PySem PySem.Spec PyProof.Rows L2
section
variable {ρ ρ' : Env} {d e : D} {m me : Md} {fa fb fe : Sm} {fr : Sa} {r : List (D × Md)} {ds : List D} {k : Nat} {F : List D → Option (D × Nat)} {f g : Ss} {b : Bool} {t u : Tm} {w : Fw}
theorem a_nil : aNil ρ = some [] := rfl
theorem a_cons (h : fa ρ = some (d, m)) (h2 : fr ρ = some r) : aCons fa fr ρ = some ((d, m) :: r) := by unfold aCons; rw [h, Option.bind_some, h2]; rfl
theorem call_of (h : fr ρ = some r) (hr : r.map (·.1) = ds) (hF : F ds = some (d, k)) : eCall F fr ρ = some (d, .own k true) := by unfold eCall; rw [h, Option.bind_some, hr, hF]; rfl
theorem seq_nx (h : f ρ = some (.nx ρ')) : sSeq f g ρ = g ρ' := by unfold sSeq; rw [h]; rfl
theorem seq_rt (h : f ρ = some (.rt d k)) : sSeq f g ρ = some (.rt d k) := by unfold sSeq; rw [h]; rfl
theorem if_f (h : t ρ = some false) : sIf t f g ρ = g ρ := by unfold sIf; rw [h]; rfl
theorem if_t (h : t ρ = some true) : sIf t f g ρ = f ρ := by unfold sIf; rw [h]; rfl
theorem tv_of (h : fa ρ = some (.bool b, m)) : tV fa ρ = some b := by unfold tV; rw [h]; rfl
theorem tn_of (h : t ρ = some b) : tN t ρ = some (!b) := by unfold tN; rw [h]; rfl
theorem to_f (h : t ρ = some false) : tO2 t u ρ = u ρ := by unfold tO2; rw [h]; rfl
theorem ret_of (h : fa ρ = some (d, .own k true)) : sRet fa ρ = some (.rt d k) := by unfold sRet; rw [h]; rfl
theorem asg_of {i : Nat} {y : Bool} (h : fa ρ = some (d, .own k y)) : sAsg i fa ρ = some (.nx (ρ.set i (some (d, k, y)))) := by unfold sAsg; rw [h]; rfl
theorem b2_of {gg : D → D → Option D} {x : D} (h : fa ρ = some (d, m)) (h2 : fb ρ = some (e, me)) (hg : gg d e = some x) : eB2 gg fa fb ρ = some (x, mF) := by unfold eB2; rw [h, Option.bind_some, h2, Option.bind_some, hg]; rfl
theorem u1_of {gg : D → Option D} {x : D} (h : fa ρ = some (d, m)) (hg : gg d = some x) : eU1 gg fa ρ = some (x, mF) := by unfold eU1; rw [h, Option.bind_some, hg]; rfl
theorem run_rt {n : Nat} (h : f (env0 n ds) = some (.rt d k)) : runF n f ds = some (d, k) := by unfold runF; rw [h]; rfl
theorem and_t (h : fa ρ = some (.bool true, m)) : eAnd fa fb ρ = fb ρ := by unfold eAnd; rw [h]; rfl
theorem var_flat {i : Nat} {n : Nat} {y : Bool} (h : ρ[i]? = some (some (d, n, y))) (hf : flatD d = true) : eVar i ρ = some (d, mF) := by unfold eVar; rw [h]; simp only [hf, if_true]
theorem var_sh {i : Nat} {y : Bool} (h : ρ[i]? = some (some (d, 0, y))) (hf : flatD d = false) : eVar i ρ = some (d, .own 0 y) := by unfold eVar; rw [h]; simp [hf]
theorem var_bor {i n : Nat} {y : Bool} (h : ρ[i]? = some (some (d, n + 1, y))) (hf : flatD d = false) : eVar i ρ = some (d, .bor) := by unfold eVar; rw [h]; simp [hf]
theorem lst_of (h : fr ρ = some r) (hl : r.length ≤ 1000000) (hm : mkL r = some m) : eLst fr ρ = some (.list (r.map (·.1)), m) := by unfold eLst; rw [h, Option.bind_some, if_pos hl, hm]; rfl
theorem tup_of (h : fr ρ = some r) (hl : r.length ≤ 1000000) (hm : mkT r = some m) : eTup fr ρ = some (.tuple (r.map (·.1)), m) := by unfold eTup; rw [h, Option.bind_some, if_pos hl, hm]; rfl
theorem rep_of {n j : Nat} {y : Bool} {x : D} (h : fa ρ = some (.list [x], .own (n + 1) y)) (h2 : fb ρ = some (.int j, me)) (hx : flatD x = true) (hj : j ≤ 1000000) : eRep fa fb ρ = some (.list (List.replicate j [x]).flatten, .own 1 true) := by
  unfold eRep
  rw [h, Option.bind_some, h2, Option.bind_some]
  show (if _ then _ else _) = _
  rw [if_pos ⟨by simp [hx], by omega, by omega, by simp; exact hj⟩]; simp
theorem ir1_of {j : Nat} (h : fa ρ = some (.int j, m)) (hj : j ≤ 1000000) : iR1 fa ρ = some (rgD2 0 j, true) := by
  unfold iR1
  rw [h, Option.bind_some]
  show (if _ then _ else _) = _
  rw [if_pos (by omega)]; simp
theorem lc_of {it : Si} {vs : List Nat} {gg : Gm} {y : Bool} (hit : it ρ = some (ds, y)) (hc : compL gg t fe y (wE ρ vs) ds = some r) (hl : r.length ≤ 1000000) (hel : elOk r = true) (hm : mkL r = some m) : eLc it vs gg t fe ρ = some (.list (r.map (·.1)), m) := by
  unfold eLc
  rw [hit, Option.bind_some]
  show (compL gg t fe y (wE ρ vs) ds).bind _ = _
  rw [hc, Option.bind_some, if_pos ⟨hl, hel⟩, hm]; rfl
theorem is_l {n : Nat} {y : Bool} (h : fa ρ = some (.list ds, .own n y)) : iS fa ρ = some (ds, y) := by unfold iS; rw [h]; rfl
theorem ie_l {n : Nat} {y : Bool} (h : fa ρ = some (.list ds, .own n y)) : iE fa ρ = some (enD ds, y) := by unfold iE; rw [h]; rfl
theorem for_of {it : Si} {gg : Gm} {y : Bool} (hit : it ρ = some (ds, y)) (hl : loopF gg f y ds ρ = some w) : sFor it gg f ρ = some w := by unfold sFor; rw [hit]; exact hl
theorem sh_of {i : Nat} (h : shE i ρ = ρ') : sSh i f ρ = f ρ' := by unfold sSh; rw [h]
end
end EV
namespace EV
open PySem PySem.Spec PyProof.Rows L2
structure Nice (k : Nat) (d : D) : Prop where
  lay : d.canLay0 = true
  nd : noDict d = true
  dp : d.depth ≤ k
theorem Nice.up {k j : Nat} {d : D} (h : Nice k d) (hk : k ≤ j) : Nice j d := ⟨h.lay, h.nd, Nat.le_trans h.dp hk⟩
theorem nice_int (k : Nat) (i : Int) : Nice k (.int i) := ⟨rfl, rfl, Nat.zero_le _⟩
theorem nice_all {k : Nat} : ∀ {ds : List D}, (∀ x ∈ ds, Nice k x) → PyData.canLayAll0 ds = true ∧ noDictA ds = true ∧ PyData.depthAll ds ≤ k
  | [], _ => ⟨rfl, rfl, Nat.zero_le _⟩
  | d :: ds, h => by
    obtain ⟨a, b, c⟩ := nice_all (ds := ds) fun x hx => h x (List.mem_cons_of_mem _ hx)
    have n := h d (List.mem_cons_self ..)
    refine ⟨by simp [PyData.canLayAll0, n.lay, a], by simp [noDictA, n.nd, b], ?_⟩
    have := n.dp
    simp only [PyData.depthAll]
    omega
theorem nice_list {k : Nat} {ds : List D} (h : ∀ x ∈ ds, Nice k x) : Nice (k + 1) (.list ds) := by
  obtain ⟨a, b, c⟩ := nice_all h
  exact ⟨by simp only [PyData.canLay0, a], by simp only [noDict, b], by simp only [PyData.depth]; omega⟩
theorem nice_tuple {k : Nat} {ds : List D} (h : ∀ x ∈ ds, Nice k x) : Nice (k + 1) (.tuple ds) := by
  obtain ⟨a, b, c⟩ := nice_all h
  exact ⟨by simp only [PyData.canLay0, a], by simp only [noDict, b], by simp only [PyData.depth]; omega⟩
theorem Nice.eqOk {k : Nat} {d : D} (h : Nice k d) (hk : k ≤ 64 := by decide) : EV.eqOk d = true := by
  have := h.dp
  simp only [EV.eqOk, SeqAt.shaped, h.lay, h.nd, Bool.and_true, Bool.true_and, decide_eq_true_eq]
  omega
theorem gNe_nice {k j : Nat} {d e : D} (h : Nice k d) (h2 : Nice j e) (hk : k ≤ 64 := by decide) (hj : j ≤ 64 := by decide) : gNe d e = some (.bool (!PyData.eqv d e)) := by
  unfold gNe; rw [if_pos ⟨h.eqOk hk, h2.eqOk hj⟩]
theorem gEq_nice {k j : Nat} {d e : D} (h : Nice k d) (h2 : Nice j e) (hk : k ≤ 64 := by decide) (hj : j ≤ 64 := by decide) : gEq d e = some (.bool (PyData.eqv d e)) := by
  unfold gEq; rw [if_pos ⟨h.eqOk hk, h2.eqOk hj⟩]
theorem Nice.eqv {k : Nat} {d : D} (h : Nice k d) : PyData.eqv d d = true := PySem.SeqAt.eqv_refl d h.lay
theorem gNe_same {k : Nat} {d : D} (h : Nice k d) (hk : k ≤ 64 := by decide) : gNe d d = some (.bool false) := by
  rw [gNe_nice h h hk hk, h.eqv]; rfl
theorem gEq_same {k : Nat} {d : D} (h : Nice k d) (hk : k ≤ 64 := by decide) : gEq d d = some (.bool true) := by
  rw [gEq_nice h h hk hk, h.eqv]
section
variable {ρ ρ' : Env} {d e : D} {m me : Md} {fa fb fe : Sm} {ds es : List D}
theorem app1_of {i n : Nat} {y ye : Bool} (hρ : ρ[i]? = some (some (.list ds, 1, y))) (h : fe ρ = some (d, .own n ye)) (hl : ds.length < 1000000) : sApp i fe ρ = some (.nx (ρ.set i (some (.list (ds ++ [d]), 1, y && ye)))) := by
  unfold sApp
  rw [hρ]
  show (fe ρ).bind _ = _
  rw [h, Option.bind_some, if_pos hl]
theorem pop_of {i j k : Nat} {y z : Bool} (hij : i ≠ j) (hi : ρ[i]? = some (some (.list ds, 1, y))) (hj : ρ[j]? = some (some (.list es, 1, z))) (h : fe ρ = some (.int k, m)) (hk : k < es.length) (he : es.length < 1000000) (hd : ds.length < 1000000) (hx : es[k]? = some d) (hf : flatD d = true) :
    sPop i j fe ρ = some (.nx ((ρ.set j (some (.list (es.eraseIdx k), 1, z))).set i (some (.list (ds ++ [d]), 1, y)))) := by
  unfold sPop
  rw [if_neg hij, hi, hj]
  show (fe ρ).bind _ = _
  rw [h, Option.bind_some]
  show (if _ then _ else _) = _
  rw [if_pos ⟨by omega, by omega, hd⟩, PySem.StrLaws.seqIndex_nonneg (by omega) (by omega), Option.bind_some, Int.toNat_natCast, hx, Option.bind_some, if_pos hf]
theorem ix_t {i : Int} {ms : Md} (h : fa ρ = some (.tuple ds, ms)) (h2 : fb ρ = some (.int i, me)) (hx : atI ds i = some d) (hf : flatD d = true) : eIx fa fb ρ = some (d, mF) := by
  unfold eIx; rw [h, Option.bind_some, h2, Option.bind_some]
  show (atI ds i).map _ = _
  rw [hx]
  simp [mIx, hf]
theorem o_n : oN ρ = some none := rfl
theorem o_s {i : Int} (h : fa ρ = some (.int i, m)) : oS fa ρ = some (some i) := by unfold oS; rw [h]; rfl
theorem sl_of {lo hi : So} {l h : Option Int} (h1 : fa ρ = some (.list ds, m)) (h2 : lo ρ = some l) (h3 : hi ρ = some h) : eSl fa lo hi ρ = some (.list (cutG ds l h), mCp m (cutG ds l h)) := by
  unfold eSl; rw [h1, Option.bind_some, h2, Option.bind_some, h3]; rfl
theorem lr_of {j : Nat} (h : fa ρ = some (.int j, m)) (hj : j ≤ 1000000) : eLr fa ρ = some (.list (rgD j), .own 1 true) := by
  unfold eLr; rw [h, Option.bind_some]
  show (if _ then _ else _) = _
  rw [if_pos ⟨by omega, by omega⟩]
theorem while_t {c : Tm} {f : Ss} {n : Nat} (h : c ρ = some true) (h2 : f ρ = some (.nx ρ')) : whileF c f (n + 1) ρ = whileF c f n ρ' := by
  conv => lhs; unfold whileF
  rw [h, Option.bind_some, if_pos rfl, h2]; rfl
theorem while_f {c : Tm} {f : Ss} {n : Nat} (h : c ρ = some false) : whileF c f n ρ = some (.nx ρ) := by
  cases n <;> (unfold whileF; rw [h]; rfl)
end
end EV
namespace EV
open PySem PySem.Spec PyProof.Rows L2
section
variable {X : Cx} {T9 : List Addr} {a b c : Expr} {pos : Pos} {fa fb fc : Sm} {ρ : Env} {d : D} {m : Md}
def sEx (fa : Sm) : Ss := fun ρ => (fa ρ).map fun _ => .nx ρ
theorem ds_ex (ha : DE X T9 a fa) (hs : swapsWith a none pos.line X.env = pure false := by rfl) : DS X T9 (.Expr a pos) (sEx fa) := by
  refine PS.mono (ps_expr ha hs) fun E σ H ⟨H0, Hy, Fs, ρ, w, s, hf, k⟩ => ?_
  obtain ⟨⟨d, m⟩, h1, hf⟩ := Option.map_eq_some_iff.mp hf
  subst hf
  exact ⟨H0, Hy, Fs, ρ, d, m, s, h1, fun v Hy1 H1 F e1 vl fr => k σ H1 Hy1 Fs (s.ext e1) e1.yn⟩
theorem ex_of (h : fa ρ = some (d, m)) : sEx fa ρ = some (.nx ρ) := by unfold sEx; rw [h]; rfl
end
end EV
namespace K01
open PySem PySem.Spec PyProof.Rows L2 EV
def top (i : Nat) : Stmt := PySem.Challenge.pw_headcounts_k01_whole_counted.main.body.getD i (.Pass ⟨0, 0, 0, 0⟩)
abbrev s_is_number : Stmt := top 6
abbrev N_is_number : List Str := ["thing"]
abbrev p_is_number : List Str := ["thing"]
def g_is_number : Ss := (sRet (eAnd (eU1 (fun d => some (.bool (isi "int" d))) (eVar 0)) (eU1 gNot (eU1 (fun d => some (.bool (isi "bool" d))) (eVar 0)))))
def F_is_number : List D → Option (D × Nat) := runF 1 g_is_number
abbrev s_is_count_of_candidates : Stmt := top 7
abbrev N_is_count_of_candidates : List Str := ["thing"]
abbrev p_is_count_of_candidates : List Str := ["thing"]
def g_is_count_of_candidates : Ss := (sRet (eAnd (eCall F_is_number (aCons (eVar 0) aNil)) (eCh (fun i j => decide (i ≤ j)) (fun i j => decide (i ≤ j)) (eC (.int 1)) (eVar 0) (eC (.int 20)))))
def F_is_count_of_candidates : List D → Option (D × Nat) := runF 1 g_is_count_of_candidates
abbrev s_is_candidate : Stmt := top 8
abbrev N_is_candidate : List Str := ["candidates", "thing"]
abbrev p_is_candidate : List Str := ["candidates", "thing"]
def g_is_candidate : Ss := (sRet (eAnd (eCall F_is_number (aCons (eVar 1) aNil)) (eCh (fun i j => decide (i ≤ j)) (fun i j => decide (i < j)) (eC (.int 0)) (eVar 1) (eVar 0))))
def F_is_candidate : List D → Option (D × Nat) := runF 2 g_is_candidate
abbrev s_are_unlike_candidates : Stmt := top 9
abbrev N_are_unlike_candidates : List Str := ["candidates", "things", "thing"]
abbrev p_are_unlike_candidates : List Str := ["candidates", "things"]
def g_are_unlike_candidates : Ss := (sSeq (sSh 1 (sIf (tN (tV (eAg (iS (eVar 1)) [2] (gN 2) (eCall F_is_candidate (aCons (eVar 0) (aCons (eVar 2) aNil)))))) (sRet (eC (.bool false))) sNil))
  (sRet (eB2 gEq (eU1 gLs (eVar 1)) (eU1 gLen (eVar 1)))))
def F_are_unlike_candidates : List D → Option (D × Nat) := runF 3 g_are_unlike_candidates
abbrev s_is_order : Stmt := top 10
abbrev N_is_order : List Str := ["candidates", "thing"]
abbrev p_is_order : List Str := ["candidates", "thing"]
def g_is_order : Ss := (sSeq (sIf (tO2 (tN (tV (eU1 (fun d => some (.bool (isi "list" d))) (eVar 1)))) (tV (eB2 gNe (eU1 gLen (eVar 1)) (eVar 0)))) (sRet (eC (.bool false))) sNil)
  (sRet (eCall F_are_unlike_candidates (aCons (eVar 0) (aCons (eVar 1) aNil)))))
def F_is_order : List D → Option (D × Nat) := runF 2 g_is_order
abbrev s_is_pair : Stmt := top 11
abbrev N_is_pair : List Str := ["thing"]
abbrev p_is_pair : List Str := ["thing"]
def g_is_pair : Ss := (sRet (eAnd (eU1 (fun d => some (.bool (isi "tuple" d))) (eVar 0)) (eB2 gEq (eU1 gLen (eVar 0)) (eC (.int 2)))))
def F_is_pair : List D → Option (D × Nat) := runF 1 g_is_pair
abbrev s_is_ballot : Stmt := top 12
abbrev N_is_ballot : List Str := ["candidates", "thing", "order", "many"]
abbrev p_is_ballot : List Str := ["candidates", "thing"]
def g_is_ballot : Ss := (sSeq (sIf (tN (tV (eCall F_is_pair (aCons (eVar 1) aNil)))) (sRet (eC (.bool false))) sNil)
  (sSeq (sUnp (eVar 1) (gT 2 (gsC (gN 2) (gsC (gN 3) gsN))))
  (sRet (eAnd (eCall F_is_order (aCons (eVar 0) (aCons (eVar 2) aNil))) (eAnd (eCall F_is_number (aCons (eVar 3) aNil)) (eB2 gGe (eVar 3) (eC (.int 1))))))))
def F_is_ballot : List D → Option (D × Nat) := runF 4 g_is_ballot
abbrev s_are_ballots : Stmt := top 13
abbrev N_are_ballots : List Str := ["candidates", "thing", "ballot"]
abbrev p_are_ballots : List Str := ["candidates", "thing"]
def g_are_ballots : Ss := (sSeq (sIf (tN (tV (eU1 (fun d => some (.bool (isi "list" d))) (eVar 1)))) (sRet (eC (.bool false))) sNil)
  (sSh 1 (sRet (eAg (iS (eVar 1)) [2] (gN 2) (eCall F_is_ballot (aCons (eVar 0) (aCons (eVar 2) aNil)))))))
def F_are_ballots : List D → Option (D × Nat) := runF 3 g_are_ballots
abbrev s_need_ballots : Stmt := top 14
abbrev N_need_ballots : List Str := ["candidates", "ballots"]
abbrev p_need_ballots : List Str := ["candidates", "ballots"]
def g_need_ballots : Ss := (sSeq (sIf (tN (tV (eCall F_is_count_of_candidates (aCons (eVar 0) aNil)))) (fun _ => none) sNil)
  (sIf (tN (tV (eCall F_are_ballots (aCons (eVar 0) (aCons (eVar 1) aNil))))) (fun _ => none) sNil))
def F_need_ballots : List D → Option (D × Nat) := runF 2 g_need_ballots
abbrev s_tallied : Stmt := top 17
abbrev N_tallied : List Str := ["candidates", "ballots", "table", "order", "many", "row", "place", "ahead", "behind"]
abbrev p_tallied : List Str := ["candidates", "ballots"]
def g_tallied : Ss := (sSeq (sSh 0 (sAsg 2 (eLc (iR1 (eVar 0)) [5] (gN 5) tT (eRep (eLst (aCons (eC (.int 0)) aNil)) (eVar 0)))))
  (sSeq (sSh 1 (sFor (iS (eVar 1)) (gT 2 (gsC (gN 3) (gsC (gN 4) gsN))) (sSh 3 (sFor (iE (eVar 3)) (gT 2 (gsC (gN 6) (gsC (gN 7) gsN))) (sFor (iS (eSl (eVar 3) (oS (eB2 gAdd (eVar 6) (eC (.int 1)))) oN)) (gN 8) (sSeq (sAug2 2 (fun i j => i + j) (eVar 7) (eVar 8) (eVar 4))
  (sAug2 2 (fun i j => i - j) (eVar 8) (eVar 7) (eVar 4))))))))
  (sRetV 2)))
def F_tallied : List D → Option (D × Nat) := runF 9 g_tallied
abbrev s_counted : Stmt := top 16
abbrev N_counted : List Str := ["candidates", "ballots"]
abbrev p_counted : List Str := ["candidates", "ballots"]
def g_counted : Ss := (sSeq (sEx (eCall F_need_ballots (aCons (eVar 0) (aCons (eVar 1) aNil))))
  (sRet (eCall F_tallied (aCons (eVar 0) (aCons (eVar 1) aNil)))))
def F_counted : List D → Option (D × Nat) := runF 2 g_counted
abbrev s__law_number : Stmt := top 19
abbrev N__law_number : List Str := ["_law_cell", "_law_at", "_law_whole", "_law_mixed", "_law_more"]
abbrev p__law_number : List Str := ["_law_cell", "_law_at", "_law_whole"]
def g__law_number : Ss := (sSeq (sIf (tV (eB2 gGe (eVar 0) (eB2 gPow (eC (.int 10)) (eC (.int 18))))) (sRet (eB2 gDiv (eVar 0) (eB2 gAdd (eC (.int 1)) (eB2 gMod (eVar 1) (eC (.int 7)))))) sNil)
  (sSeq (sAsg 3 (eB2 gMod (eB2 gAdd (eB2 gMul (eB2 gAdd (eVar 0) (eB2 gMul (eC (.int 977)) (eVar 1))) (eC (.int 48271))) (eVar 2)) (eC (.int 2147483647))))
  (sSeq (sAsg 4 (eB2 gMul (eVar 3) (eB2 gAdd (eB2 gAdd (eVar 0) (eB2 gMul (eC (.int 31)) (eVar 1))) (eC (.int 7)))))
  (sRet (eB2 gDiv (eB2 gMul (eB2 gMul (eVar 4) (eB2 gAdd (eB2 gAdd (eVar 3) (eVar 0)) (eC (.int 5)))) (eB2 gAdd (eB2 gMul (eVar 3) (eVar 3)) (eC (.int 11)))) (eB2 gAdd (eC (.int 1009)) (eVar 1)))))))
def F__law_number : List D → Option (D × Nat) := runF 5 g__law_number
abbrev s__law_ballots : Stmt := top 20
abbrev N__law_ballots : List Str := ["_law_script", "_law_size", "_law_found", "_law_whole", "_law_at", "_law_cell", "_law_number_here", "_law_left", "_law_line"]
abbrev p__law_ballots : List Str := ["_law_script", "_law_size"]
def g__law_ballots : Ss := (sSeq (sAsg 2 (eLst aNil))
  (sSeq (sAsg 3 (eU1 gSum (eSl (eVar 0) oN (oS (eC (.int 63))))))
  (sSeq (sFor (iE (eSl (eVar 0) oN (oS (eC (.int 24))))) (gT 2 (gsC (gN 4) (gsC (gN 5) gsN))) (sSeq (sAsg 6 (eCall F__law_number (aCons (eVar 5) (aCons (eVar 4) (aCons (eVar 3) aNil)))))
  (sSeq (sAsg 7 (eLr (eVar 1)))
  (sSeq (sAsg 8 (eLst aNil))
  (sSeq (whileF (tV (eB2 gNe (eVar 7) (eLst aNil))) (sSeq (sPop 8 7 (eB2 gMod (eVar 6) (eU1 gLen (eVar 7))))
  (sAsg 6 (eB2 gDiv (eVar 6) (eB2 gAdd (eU1 gLen (eVar 7)) (eC (.int 1)))))) 64)
  (sSh 8 (sApp 2 (eTup (aCons (eVar 8) (aCons (eB2 gAdd (eC (.int 1)) (eB2 gMod (eCall F__law_number (aCons (eVar 5) (aCons (eB2 gAdd (eVar 4) (eC (.int 30))) (aCons (eVar 3) aNil)))) (eIx (eTup (aCons (eC (.int 1)) (aCons (eC (.int 4)) (aCons (eB2 gPow (eC (.int 10)) (eC (.int 20))) aNil)))) (eB2 gMod (eB2 gDiv (eVar 3) (eC (.int 5))) (eC (.int 3)))))) aNil))))))))))
  (sRetV 2))))
def F__law_ballots : List D → Option (D × Nat) := runF 9 g__law_ballots
abbrev s__law_count : Stmt := top 21
abbrev N__law_count : List Str := ["_law_size", "_law_ballots_here", "_law_found", "_law_line", "_law_many", "_law_one", "_law_at", "_law_other"]
abbrev p__law_count : List Str := ["_law_size", "_law_ballots_here"]
def g__law_count : Ss := (sSeq (sSh 0 (sAsg 2 (eLc (iR1 (eVar 0)) [5] (gN 5) tT (eRep (eLst (aCons (eC (.int 0)) aNil)) (eVar 0)))))
  (sSeq (sSh 1 (sFor (iS (eVar 1)) (gT 2 (gsC (gN 3) (gsC (gN 4) gsN))) (sSh 3 (sFor (iE (eVar 3)) (gT 2 (gsC (gN 6) (gsC (gN 5) gsN))) (sFor (iS (eSl (eVar 3) oN (oS (eVar 6)))) (gN 7) (sSeq (sSet2 2 (eVar 7) (eVar 5) (eB2 gAdd (eIx (eIx (eVar 2) (eVar 7)) (eVar 5)) (eVar 4)))
  (sSet2 2 (eVar 5) (eVar 7) (eB2 gSub (eIx (eIx (eVar 2) (eVar 5)) (eVar 7)) (eVar 4)))))))))
  (sRetV 2)))
def F__law_count : List D → Option (D × Nat) := runF 8 g__law_count
abbrev s__law_is_table : Stmt := top 22
abbrev N__law_is_table : List Str := ["_law_found", "_law_size", "_law_row", "_law_one"]
abbrev p__law_is_table : List Str := ["_law_found", "_law_size"]
def g__law_is_table : Ss := (sSeq (sSh 0 (sIf (tO2 (tN (tV (eU1 (fun d => some (.bool (isi "list" d))) (eVar 0)))) (tO2 (tV (eB2 gNe (eU1 gLen (eVar 0)) (eVar 1))) (tN (tV (eU1 gAll (eLc (iS (eVar 0)) [2] (gN 2) tT (eU1 (fun d => some (.bool (isi "list" d))) (eVar 2)))))))) (sRet (eC (.bool false))) sNil))
  (sSeq (sSh 0 (sFor (iS (eVar 0)) (gN 2) (sSh 2 (sIf (tO2 (tV (eB2 gNe (eU1 gLen (eVar 2)) (eVar 1))) (tN (tV (eU1 gAll (eLc (iS (eVar 2)) [3] (gN 3) tT (eAnd (eU1 (fun d => some (.bool (isi "int" d))) (eVar 3)) (eU1 gNot (eU1 (fun d => some (.bool (isi "bool" d))) (eVar 3))))))))) (sRet (eC (.bool false))) sNil))))
  (sRet (eC (.bool true)))))
def F__law_is_table : List D → Option (D × Nat) := runF 4 g__law_is_table
abbrev s_law : Stmt := top 23
abbrev N_law : List Str := ["_law_script", "_law_whole", "_law_size", "_law_ballots_here", "_law_handed", "_law_due", "_law_found", "_law_back", "_law_at", "_law_first", "_law_second", "_law_line", "_law_many", "_law_row", "_law_number_here", "_law_mine", "_law_theirs", "_law_one", "_law_other"]
abbrev p_law : List Str := ["_law_script"]
def g_law : Ss := (sSeq (sAsg 1 (eU1 gSum (eSl (eVar 0) oN (oS (eC (.int 63))))))
  (sSeq (sAsg 2 (eB2 gAdd (eC (.int 1)) (eB2 gMod (eVar 1) (eC (.int 8)))))
  (sSeq (sIf (tV (eB2 gEq (eB2 gMod (eB2 gDiv (eVar 1) (eC (.int 8))) (eC (.int 16))) (eC (.int 3)))) (sAsg 2 (eB2 gAdd (eC (.int 9)) (eB2 gMod (eB2 gDiv (eVar 1) (eC (.int 128))) (eC (.int 12))))) sNil)
  (sSeq (sAsg 3 (eCall F__law_ballots (aCons (eVar 0) (aCons (eVar 2) aNil))))
  (sSeq (sSh 3 (sAsg 4 (eLc (iS (eVar 3)) [11, 12] (gT 2 (gsC (gN 11) (gsC (gN 12) gsN))) tT (eTup (aCons (eLo (eVar 11)) (aCons (eVar 12) aNil))))))
  (sSeq (sAsg 5 (eCall F__law_count (aCons (eVar 2) (aCons (eVar 3) aNil))))
  (sSeq (sAsg 6 (eCall F_counted (aCons (eVar 2) (aCons (eVar 4) aNil))))
  (sSeq (sIf (tO2 (tN (tV (eCall F__law_is_table (aCons (eVar 6) (aCons (eVar 2) aNil))))) (tO2 (tV (eB2 gNe (eVar 6) (eVar 5))) (tV (eB2 gNe (eVar 4) (eVar 3))))) (sRet (eC (.bool false))) sNil)
  (sSeq (sSh 3 (sAsg 7 (eCall F_counted (aCons (eVar 2) (aCons (eLc (iS (eVar 3)) [11, 12] (gT 2 (gsC (gN 11) (gsC (gN 12) gsN))) tT (eTup (aCons (eRev (eVar 11)) (aCons (eVar 12) aNil)))) aNil)))))
  (sSeq (sSh 5 (sIf (tV (eB2 gNe (eVar 7) (eLc (iS (eVar 5)) [13] (gN 13) tT (eLc (iS (eVar 13)) [14] (gN 14) tT (eU1 gNeg (eVar 14)))))) (sRet (eC (.bool false))) sNil))
  (sSeq (sAsg 8 (eB2 gMod (eB2 gDiv (eVar 1) (eC (.int 3))) (eB2 gAdd (eU1 gLen (eVar 3)) (eC (.int 1)))))
  (sSeq (sPar 9 10 (aCons (eCall F_counted (aCons (eVar 2) (aCons (eSl (eVar 3) oN (oS (eVar 8))) aNil))) (aCons (eCall F_counted (aCons (eVar 2) (aCons (eSl (eVar 3) (oS (eVar 8)) oN) aNil))) aNil)))
  (sSeq (sSh 10 (sSh 9 (sIf (tV (eB2 gNe (eLc (iZ (eVar 9) (eVar 10)) [15, 16] (gT 2 (gsC (gN 15) (gsC (gN 16) gsN))) tT (eLc (iZ (eVar 15) (eVar 16)) [17, 18] (gT 2 (gsC (gN 17) (gsC (gN 18) gsN))) tT (eB2 gAdd (eVar 17) (eVar 18)))) (eVar 5))) (sRet (eC (.bool false))) sNil)))
  (sSeq (sApp2 6 (eC (.int 0)) (eC (.int 1)))
  (sSeq (sIf (tV (eB2 gNe (eSl (eVar 6) (oS (eC (.int 1))) oN) (eSl (eVar 5) (oS (eC (.int 1))) oN))) (sRet (eC (.bool false))) sNil)
  (sSeq (sApp 6 (eLst aNil))
  (sSeq (sIf (tO2 (tV (eB2 gNe (eCall F_counted (aCons (eVar 2) (aCons (eVar 4) aNil))) (eVar 5))) (tV (eB2 gNe (eVar 4) (eVar 3)))) (sRet (eC (.bool false))) sNil)
  (sRet (eAnd (eB2 gEq (eCall F_counted (aCons (eC (.int 1)) (aCons (eLst (aCons (eTup (aCons (eLst (aCons (eC (.int 0)) aNil)) (aCons (eC (.int 5)) aNil))) aNil)) aNil))) (eLst (aCons (eLst (aCons (eC (.int 0)) aNil)) aNil))) (eB2 gEq (eCall F_counted (aCons (eC (.int 2)) (aCons (eLst (aCons (eTup (aCons (eLst (aCons (eC (.int 1)) (aCons (eC (.int 0)) aNil))) (aCons (eC (.int 2)) aNil))) (aCons (eTup (aCons (eLst (aCons (eC (.int 0)) (aCons (eC (.int 1)) aNil))) (aCons (eC (.int 5)) aNil))) aNil))) aNil))) (eLst (aCons (eLst (aCons (eC (.int 0)) (aCons (eC (.int 3)) aNil))) (aCons (eLst (aCons (eU1 gNeg (eC (.int 3))) (aCons (eC (.int 0)) aNil))) aNil)))))))))))))))))))))))
def F_law : List D → Option (D × Nat) := runF 19 g_law
end K01
namespace K01
open PySem PySem.Spec PyProof.Rows L2 EV
structure Fk (P : Program) (w : World) (K : Fg) (mg : Str → Option Value) (base : Heap) (x : Str) (k : Nat) (ps : List Str) (sp : Sp) (f : Addr) (fd : FuncData) : Prop where
  G : FnOk P w K mg base CX0 k f fd ps sp
  m : mg x = some (.ref f)
  kp : PySem.W.keepIn K (.ref f) = true
  b : Binds K fd ps []
structure Txt (mg : Str → Option Value) : Prop where
  b_all : mg "all" = none
  b_bool : mg "bool" = none
  b_enumerate : mg "enumerate" = none
  b_int : mg "int" = none
  b_isinstance : mg "isinstance" = none
  b_len : mg "len" = none
  b_list : mg "list" = none
  b_range : mg "range" = none
  b_set : mg "set" = none
  b_sum : mg "sum" = none
  b_tuple : mg "tuple" = none
  b_zip : mg "zip" = none
  c_MOST_CANDIDATES : ∃ t, mg "MOST_CANDIDATES" = some (.int 20 t)
end K01
namespace K01
open PySem PySem.Spec PyProof.Rows L2 EV
theorem sc_is_number : FnScope N_is_number p_is_number (defScope s_is_number) := ⟨rfl, rfl, rfl, by decide +kernel, rfl, by decide +kernel, by decide +kernel⟩
theorem ok_is_number {P : Program} {w : World} {K : Fg} {mg : Str → Option Value} {base : Heap} {T9 : List Addr} {f : Addr} {fd : FuncData}  (F : Fun K "is_number" "is_number" s_is_number f fd) (T : Txt mg)  : FnOk P w K mg base CX0 1 f fd p_is_number (spD K T9 1 F_is_number) := by
  have h3 : ∀ (cdv : Value) (A : Around) (outer : List PySem.Env) (s : Shared) (H : Hp) (E : XK), fd.code = cdv → Room 0 (A.deeper (envOfC "is_number" (defScope s_is_number) s.heap.objs.size f cdv)) →
      DSs (cxOf CX0 P w K mg base N_is_number "is_number" (defScope s_is_number) f cdv A outer s H E).nox T9 (defBody s_is_number) g_is_number := by
    intro cdv A outer s H E hcd hr
    unfold g_is_number
    exact (dss_one (ds_ret (de_and (de_isi (T := "int") rfl T.b_isinstance rfl T.b_int (by decide +kernel) (ha := (de_var (i := 0) rfl (by first | exact Or.inl rfl | exact Or.inr (Or.inl rfl) | exact Or.inr (Or.inr rfl))))) (de_one (de_not (de_isi (T := "bool") rfl T.b_isinstance rfl T.b_bool (by decide +kernel) (ha := (de_var (i := 0) rfl (by first | exact Or.inl rfl | exact Or.inr (Or.inl rfl) | exact Or.inr (Or.inr rfl))))))))))
  exact @fn_ok P w K mg base T9 "is_number" "is_number" s_is_number f fd N_is_number p_is_number 0 1 g_is_number F sc_is_number rfl (by decide) h3
end K01
namespace K01
open PySem PySem.Spec PyProof.Rows L2 EV
theorem sc_is_count_of_candidates : FnScope N_is_count_of_candidates p_is_count_of_candidates (defScope s_is_count_of_candidates) := ⟨rfl, rfl, rfl, by decide +kernel, rfl, by decide +kernel, by decide +kernel⟩
theorem ok_is_count_of_candidates {P : Program} {w : World} {K : Fg} {mg : Str → Option Value} {base : Heap} {T9 : List Addr} {f : Addr} {fd : FuncData} {f_is_number : Addr} {fd_is_number : FuncData} (F : Fun K "is_count_of_candidates" "is_count_of_candidates" s_is_count_of_candidates f fd) (T : Txt mg) (k_is_number : Fk P w K mg base "is_number" 1 p_is_number (spD K T9 1 F_is_number) f_is_number fd_is_number) : FnOk P w K mg base CX0 2 f fd p_is_count_of_candidates (spD K T9 1 F_is_count_of_candidates) := by
  have h3 : ∀ (cdv : Value) (A : Around) (outer : List PySem.Env) (s : Shared) (H : Hp) (E : XK), fd.code = cdv → Room 1 (A.deeper (envOfC "is_count_of_candidates" (defScope s_is_count_of_candidates) s.heap.objs.size f cdv)) →
      DSs (cxOf CX0 P w K mg base N_is_count_of_candidates "is_count_of_candidates" (defScope s_is_count_of_candidates) f cdv A outer s H E).nox T9 (defBody s_is_count_of_candidates) g_is_count_of_candidates := by
    intro cdv A outer s H E hcd hr
    unfold g_is_count_of_candidates
    exact (dss_one (ds_ret (de_and (de_call k_is_number.G (hr.mono (by decide)) rfl k_is_number.m k_is_number.kp k_is_number.b (da_cons (de_var (i := 0) rfl (by first | exact Or.inl rfl | exact Or.inr (Or.inl rfl) | exact Or.inr (Or.inr rfl))) da_nil) rfl (hlen := (aC_len aN_len))) (de_one (de_chain (p := fun i j => decide (i ≤ j)) (q := fun i j => decide (i ≤ j)) op_le op_le (de_c pe_int (.int _)) (de_var (i := 0) rfl (by first | exact Or.inl rfl | exact Or.inr (Or.inl rfl) | exact Or.inr (Or.inr rfl))) (de_c (v := .int 20) (pe_glob (v := .int 20) rfl T.c_MOST_CANDIDATES.choose_spec ⟨_, rfl⟩) (.int _)))))))
  exact @fn_ok P w K mg base T9 "is_count_of_candidates" "is_count_of_candidates" s_is_count_of_candidates f fd N_is_count_of_candidates p_is_count_of_candidates 1 1 g_is_count_of_candidates F sc_is_count_of_candidates rfl (by decide) h3
end K01
namespace K01
open PySem PySem.Spec PyProof.Rows L2 EV
theorem sc_is_candidate : FnScope N_is_candidate p_is_candidate (defScope s_is_candidate) := ⟨rfl, rfl, rfl, by decide +kernel, rfl, by decide +kernel, by decide +kernel⟩
theorem ok_is_candidate {P : Program} {w : World} {K : Fg} {mg : Str → Option Value} {base : Heap} {T9 : List Addr} {f : Addr} {fd : FuncData} {f_is_number : Addr} {fd_is_number : FuncData} (F : Fun K "is_candidate" "is_candidate" s_is_candidate f fd) (T : Txt mg) (k_is_number : Fk P w K mg base "is_number" 1 p_is_number (spD K T9 1 F_is_number) f_is_number fd_is_number) : FnOk P w K mg base CX0 2 f fd p_is_candidate (spD K T9 2 F_is_candidate) := by
  have h3 : ∀ (cdv : Value) (A : Around) (outer : List PySem.Env) (s : Shared) (H : Hp) (E : XK), fd.code = cdv → Room 1 (A.deeper (envOfC "is_candidate" (defScope s_is_candidate) s.heap.objs.size f cdv)) →
      DSs (cxOf CX0 P w K mg base N_is_candidate "is_candidate" (defScope s_is_candidate) f cdv A outer s H E).nox T9 (defBody s_is_candidate) g_is_candidate := by
    intro cdv A outer s H E hcd hr
    unfold g_is_candidate
    exact (dss_one (ds_ret (de_and (de_call k_is_number.G (hr.mono (by decide)) rfl k_is_number.m k_is_number.kp k_is_number.b (da_cons (de_var (i := 1) rfl (by first | exact Or.inl rfl | exact Or.inr (Or.inl rfl) | exact Or.inr (Or.inr rfl))) da_nil) rfl (hlen := (aC_len aN_len))) (de_one (de_chain (p := fun i j => decide (i ≤ j)) (q := fun i j => decide (i < j)) op_le op_lt (de_c pe_int (.int _)) (de_var (i := 1) rfl (by first | exact Or.inl rfl | exact Or.inr (Or.inl rfl) | exact Or.inr (Or.inr rfl))) (de_var (i := 0) rfl (by first | exact Or.inl rfl | exact Or.inr (Or.inl rfl) | exact Or.inr (Or.inr rfl))))))))
  exact @fn_ok P w K mg base T9 "is_candidate" "is_candidate" s_is_candidate f fd N_is_candidate p_is_candidate 1 2 g_is_candidate F sc_is_candidate rfl (by decide) h3
end K01
namespace K01
open PySem PySem.Spec PyProof.Rows L2 EV
theorem sc_are_unlike_candidates : FnScope N_are_unlike_candidates p_are_unlike_candidates (defScope s_are_unlike_candidates) := ⟨rfl, rfl, rfl, by decide +kernel, rfl, by decide +kernel, by decide +kernel⟩
theorem ok_are_unlike_candidates {P : Program} {w : World} {K : Fg} {mg : Str → Option Value} {base : Heap} {T9 : List Addr} {f : Addr} {fd : FuncData} {f_is_candidate : Addr} {fd_is_candidate : FuncData} (F : Fun K "are_unlike_candidates" "are_unlike_candidates" s_are_unlike_candidates f fd) (T : Txt mg) {Q : Addr} (GCX : ∀ cdv, fd.code = cdv → GC K cdv Q) (PX : Q ∈ T9) (MX : ∃ bm ob, BMod base mainGlobals mg bm ob) (k_is_candidate : Fk P w K mg base "is_candidate" 2 p_is_candidate (spD K T9 2 F_is_candidate) f_is_candidate fd_is_candidate) : FnOk P w K mg base CX0 4 f fd p_are_unlike_candidates (spD K T9 2 F_are_unlike_candidates) := by
  have h3 : ∀ (cdv : Value) (A : Around) (outer : List PySem.Env) (s : Shared) (H : Hp) (E : XK), fd.code = cdv → Room 3 (A.deeper (envOfC "are_unlike_candidates" (defScope s_are_unlike_candidates) s.heap.objs.size f cdv)) →
      DSs (cxOf CX0 P w K mg base N_are_unlike_candidates "are_unlike_candidates" (defScope s_are_unlike_candidates) f cdv A outer s H E).nox T9 (defBody s_are_unlike_candidates) g_are_unlike_candidates := by
    intro cdv A outer s H E hcd hr
    unfold g_are_unlike_candidates
    exact (dss_cons (ds_sh 1 (ds_if (dt_not (dt_val (de_ag (own := [("thing", 2)]) (k := 2) rfl sc_are_unlike_candidates.nd (hr.mono (by decide)) rfl T.b_all (GCX _ hcd) PX MX (di_seq (de_var (i := 1) rfl (by first | exact Or.inl rfl | exact Or.inr (Or.inl rfl) | exact Or.inr (Or.inr rfl)))) (blkOk_by (own := [("thing", 2)]) (N := N_are_unlike_candidates) (sc := defScope s_are_unlike_candidates) (by decide +kernel)) rfl (by decide +kernel) (by decide +kernel) (fun _ _ _ _ _ _ _ => (dg_name (i := 2) sc_are_unlike_candidates.nd rfl (by first | exact Or.inl rfl | exact Or.inr rfl) (by decide))) (fun _ _ _ _ _ _ _ hr' => (de_call k_is_candidate.G (hr'.mono (by decide)) rfl k_is_candidate.m k_is_candidate.kp k_is_candidate.b (da_cons (de_var (i := 0) rfl (by first | exact Or.inl rfl | exact Or.inr (Or.inl rfl) | exact Or.inr (Or.inr rfl))) (da_cons (de_var (i := 2) rfl (by first | exact Or.inl rfl | exact Or.inr (Or.inl rfl) | exact Or.inr (Or.inr rfl))) da_nil)) rfl (hlen := (aC_len (aC_len aN_len)))))))) (dss_one (ds_ret (de_c pe_bl (.bl _)))) dss_nil))
    (dss_one (ds_ret (de_eq hr.units (de_lset rfl rfl T.b_len rfl T.b_set (de_var (i := 1) rfl (by first | exact Or.inl rfl | exact Or.inr (Or.inl rfl) | exact Or.inr (Or.inr rfl)))) (de_len rfl T.b_len (de_var (i := 1) rfl (by first | exact Or.inl rfl | exact Or.inr (Or.inl rfl) | exact Or.inr (Or.inr rfl))))))))
  exact @fn_ok P w K mg base T9 "are_unlike_candidates" "are_unlike_candidates" s_are_unlike_candidates f fd N_are_unlike_candidates p_are_unlike_candidates 3 2 g_are_unlike_candidates F sc_are_unlike_candidates rfl (by decide) h3
end K01
namespace K01
open PySem PySem.Spec PyProof.Rows L2 EV
theorem sc_is_order : FnScope N_is_order p_is_order (defScope s_is_order) := ⟨rfl, rfl, rfl, by decide +kernel, rfl, by decide +kernel, by decide +kernel⟩
theorem ok_is_order {P : Program} {w : World} {K : Fg} {mg : Str → Option Value} {base : Heap} {T9 : List Addr} {f : Addr} {fd : FuncData} {f_are_unlike_candidates : Addr} {fd_are_unlike_candidates : FuncData} (F : Fun K "is_order" "is_order" s_is_order f fd) (T : Txt mg) (k_are_unlike_candidates : Fk P w K mg base "are_unlike_candidates" 4 p_are_unlike_candidates (spD K T9 2 F_are_unlike_candidates) f_are_unlike_candidates fd_are_unlike_candidates) : FnOk P w K mg base CX0 5 f fd p_is_order (spD K T9 2 F_is_order) := by
  have h3 : ∀ (cdv : Value) (A : Around) (outer : List PySem.Env) (s : Shared) (H : Hp) (E : XK), fd.code = cdv → Room 4 (A.deeper (envOfC "is_order" (defScope s_is_order) s.heap.objs.size f cdv)) →
      DSs (cxOf CX0 P w K mg base N_is_order "is_order" (defScope s_is_order) f cdv A outer s H E).nox T9 (defBody s_is_order) g_is_order := by
    intro cdv A outer s H E hcd hr
    unfold g_is_order
    exact (dss_cons (ds_if (DW.dt (dw_or (dt_not (dt_val (de_isi (T := "list") rfl T.b_isinstance rfl T.b_list (by decide +kernel) (ha := (de_var (i := 1) rfl (by first | exact Or.inl rfl | exact Or.inr (Or.inl rfl) | exact Or.inr (Or.inr rfl))))))) (dw_or1 (dt_ne hr.units (de_len rfl T.b_len (de_var (i := 1) rfl (by first | exact Or.inl rfl | exact Or.inr (Or.inl rfl) | exact Or.inr (Or.inr rfl)))) (de_var (i := 0) rfl (by first | exact Or.inl rfl | exact Or.inr (Or.inl rfl) | exact Or.inr (Or.inr rfl))))))) (dss_one (ds_ret (de_c pe_bl (.bl _)))) dss_nil)
    (dss_one (ds_ret (de_call k_are_unlike_candidates.G (hr.mono (by decide)) rfl k_are_unlike_candidates.m k_are_unlike_candidates.kp k_are_unlike_candidates.b (da_cons (de_var (i := 0) rfl (by first | exact Or.inl rfl | exact Or.inr (Or.inl rfl) | exact Or.inr (Or.inr rfl))) (da_cons (de_var (i := 1) rfl (by first | exact Or.inl rfl | exact Or.inr (Or.inl rfl) | exact Or.inr (Or.inr rfl))) da_nil)) rfl (hlen := (aC_len (aC_len aN_len)))))))
  exact @fn_ok P w K mg base T9 "is_order" "is_order" s_is_order f fd N_is_order p_is_order 4 2 g_is_order F sc_is_order rfl (by decide) h3
end K01
namespace K01
open PySem PySem.Spec PyProof.Rows L2 EV
theorem sc_is_pair : FnScope N_is_pair p_is_pair (defScope s_is_pair) := ⟨rfl, rfl, rfl, by decide +kernel, rfl, by decide +kernel, by decide +kernel⟩
theorem ok_is_pair {P : Program} {w : World} {K : Fg} {mg : Str → Option Value} {base : Heap} {T9 : List Addr} {f : Addr} {fd : FuncData}  (F : Fun K "is_pair" "is_pair" s_is_pair f fd) (T : Txt mg)  : FnOk P w K mg base CX0 1 f fd p_is_pair (spD K T9 1 F_is_pair) := by
  have h3 : ∀ (cdv : Value) (A : Around) (outer : List PySem.Env) (s : Shared) (H : Hp) (E : XK), fd.code = cdv → Room 0 (A.deeper (envOfC "is_pair" (defScope s_is_pair) s.heap.objs.size f cdv)) →
      DSs (cxOf CX0 P w K mg base N_is_pair "is_pair" (defScope s_is_pair) f cdv A outer s H E).nox T9 (defBody s_is_pair) g_is_pair := by
    intro cdv A outer s H E hcd hr
    unfold g_is_pair
    exact (dss_one (ds_ret (de_and (de_isi (T := "tuple") rfl T.b_isinstance rfl T.b_tuple (by decide +kernel) (ha := (de_var (i := 0) rfl (by first | exact Or.inl rfl | exact Or.inr (Or.inl rfl) | exact Or.inr (Or.inr rfl))))) (de_one (de_eq hr.units (de_len rfl T.b_len (de_var (i := 0) rfl (by first | exact Or.inl rfl | exact Or.inr (Or.inl rfl) | exact Or.inr (Or.inr rfl)))) (de_c pe_int (.int _)))))))
  exact @fn_ok P w K mg base T9 "is_pair" "is_pair" s_is_pair f fd N_is_pair p_is_pair 0 1 g_is_pair F sc_is_pair rfl (by decide) h3
end K01
namespace K01
open PySem PySem.Spec PyProof.Rows L2 EV
theorem sc_is_ballot : FnScope N_is_ballot p_is_ballot (defScope s_is_ballot) := ⟨rfl, rfl, rfl, by decide +kernel, rfl, by decide +kernel, by decide +kernel⟩
theorem ok_is_ballot {P : Program} {w : World} {K : Fg} {mg : Str → Option Value} {base : Heap} {T9 : List Addr} {f : Addr} {fd : FuncData} {f_is_order : Addr} {fd_is_order : FuncData} {f_is_number : Addr} {fd_is_number : FuncData} {f_is_pair : Addr} {fd_is_pair : FuncData} (F : Fun K "is_ballot" "is_ballot" s_is_ballot f fd) (T : Txt mg) (k_is_number : Fk P w K mg base "is_number" 1 p_is_number (spD K T9 1 F_is_number) f_is_number fd_is_number) (k_is_order : Fk P w K mg base "is_order" 5 p_is_order (spD K T9 2 F_is_order) f_is_order fd_is_order) (k_is_pair : Fk P w K mg base "is_pair" 1 p_is_pair (spD K T9 1 F_is_pair) f_is_pair fd_is_pair) : FnOk P w K mg base CX0 6 f fd p_is_ballot (spD K T9 2 F_is_ballot) := by
  have h3 : ∀ (cdv : Value) (A : Around) (outer : List PySem.Env) (s : Shared) (H : Hp) (E : XK), fd.code = cdv → Room 5 (A.deeper (envOfC "is_ballot" (defScope s_is_ballot) s.heap.objs.size f cdv)) →
      DSs (cxOf CX0 P w K mg base N_is_ballot "is_ballot" (defScope s_is_ballot) f cdv A outer s H E).nox T9 (defBody s_is_ballot) g_is_ballot := by
    intro cdv A outer s H E hcd hr
    unfold g_is_ballot
    exact (dss_cons (ds_if (dt_not (dt_val (de_call k_is_pair.G (hr.mono (by decide)) rfl k_is_pair.m k_is_pair.kp k_is_pair.b (da_cons (de_var (i := 1) rfl (by first | exact Or.inl rfl | exact Or.inr (Or.inl rfl) | exact Or.inr (Or.inr rfl))) da_nil) rfl (hlen := (aC_len aN_len))))) (dss_one (ds_ret (de_c pe_bl (.bl _)))) dss_nil)
    (dss_cons (ds_unp (vs := [2, 3]) (de_var (i := 1) rfl (by first | exact Or.inl rfl | exact Or.inr (Or.inl rfl) | exact Or.inr (Or.inr rfl))) (dg_tup rfl (dgs_cons (dg_name (i := 2) sc_is_ballot.nd rfl (by first | exact Or.inl rfl | exact Or.inr rfl) (by decide)) (dgs_cons (dg_name (i := 3) sc_is_ballot.nd rfl (by first | exact Or.inl rfl | exact Or.inr rfl) (by decide)) dgs_nil))))
    (dss_one (ds_ret (de_and (de_call k_is_order.G (hr.mono (by decide)) rfl k_is_order.m k_is_order.kp k_is_order.b (da_cons (de_var (i := 0) rfl (by first | exact Or.inl rfl | exact Or.inr (Or.inl rfl) | exact Or.inr (Or.inr rfl))) (da_cons (de_var (i := 2) rfl (by first | exact Or.inl rfl | exact Or.inr (Or.inl rfl) | exact Or.inr (Or.inr rfl))) da_nil)) rfl (hlen := (aC_len (aC_len aN_len)))) (de_and (de_call k_is_number.G (hr.mono (by decide)) rfl k_is_number.m k_is_number.kp k_is_number.b (da_cons (de_var (i := 3) rfl (by first | exact Or.inl rfl | exact Or.inr (Or.inl rfl) | exact Or.inr (Or.inr rfl))) da_nil) rfl (hlen := (aC_len aN_len))) (de_one (de_ge (de_var (i := 3) rfl (by first | exact Or.inl rfl | exact Or.inr (Or.inl rfl) | exact Or.inr (Or.inr rfl))) (de_c pe_int (.int _))))))))))
  exact @fn_ok P w K mg base T9 "is_ballot" "is_ballot" s_is_ballot f fd N_is_ballot p_is_ballot 5 2 g_is_ballot F sc_is_ballot rfl (by decide) h3
end K01
namespace K01
open PySem PySem.Spec PyProof.Rows L2 EV
theorem sc_are_ballots : FnScope N_are_ballots p_are_ballots (defScope s_are_ballots) := ⟨rfl, rfl, rfl, by decide +kernel, rfl, by decide +kernel, by decide +kernel⟩
theorem ok_are_ballots {P : Program} {w : World} {K : Fg} {mg : Str → Option Value} {base : Heap} {T9 : List Addr} {f : Addr} {fd : FuncData} {f_is_ballot : Addr} {fd_is_ballot : FuncData} (F : Fun K "are_ballots" "are_ballots" s_are_ballots f fd) (T : Txt mg) {Q : Addr} (GCX : ∀ cdv, fd.code = cdv → GC K cdv Q) (PX : Q ∈ T9) (MX : ∃ bm ob, BMod base mainGlobals mg bm ob) (k_is_ballot : Fk P w K mg base "is_ballot" 6 p_is_ballot (spD K T9 2 F_is_ballot) f_is_ballot fd_is_ballot) : FnOk P w K mg base CX0 8 f fd p_are_ballots (spD K T9 2 F_are_ballots) := by
  have h3 : ∀ (cdv : Value) (A : Around) (outer : List PySem.Env) (s : Shared) (H : Hp) (E : XK), fd.code = cdv → Room 7 (A.deeper (envOfC "are_ballots" (defScope s_are_ballots) s.heap.objs.size f cdv)) →
      DSs (cxOf CX0 P w K mg base N_are_ballots "are_ballots" (defScope s_are_ballots) f cdv A outer s H E).nox T9 (defBody s_are_ballots) g_are_ballots := by
    intro cdv A outer s H E hcd hr
    unfold g_are_ballots
    exact (dss_cons (ds_if (dt_not (dt_val (de_isi (T := "list") rfl T.b_isinstance rfl T.b_list (by decide +kernel) (ha := (de_var (i := 1) rfl (by first | exact Or.inl rfl | exact Or.inr (Or.inl rfl) | exact Or.inr (Or.inr rfl))))))) (dss_one (ds_ret (de_c pe_bl (.bl _)))) dss_nil)
    (dss_one (ds_sh 1 (ds_ret (de_ag (own := [("ballot", 2)]) (k := 6) rfl sc_are_ballots.nd (hr.mono (by decide)) rfl T.b_all (GCX _ hcd) PX MX (di_seq (de_var (i := 1) rfl (by first | exact Or.inl rfl | exact Or.inr (Or.inl rfl) | exact Or.inr (Or.inr rfl)))) (blkOk_by (own := [("ballot", 2)]) (N := N_are_ballots) (sc := defScope s_are_ballots) (by decide +kernel)) rfl (by decide +kernel) (by decide +kernel) (fun _ _ _ _ _ _ _ => (dg_name (i := 2) sc_are_ballots.nd rfl (by first | exact Or.inl rfl | exact Or.inr rfl) (by decide))) (fun _ _ _ _ _ _ _ hr' => (de_call k_is_ballot.G (hr'.mono (by decide)) rfl k_is_ballot.m k_is_ballot.kp k_is_ballot.b (da_cons (de_var (i := 0) rfl (by first | exact Or.inl rfl | exact Or.inr (Or.inl rfl) | exact Or.inr (Or.inr rfl))) (da_cons (de_var (i := 2) rfl (by first | exact Or.inl rfl | exact Or.inr (Or.inl rfl) | exact Or.inr (Or.inr rfl))) da_nil)) rfl (hlen := (aC_len (aC_len aN_len))))))))))
  exact @fn_ok P w K mg base T9 "are_ballots" "are_ballots" s_are_ballots f fd N_are_ballots p_are_ballots 7 2 g_are_ballots F sc_are_ballots rfl (by decide) h3
end K01
namespace K01
open PySem PySem.Spec PyProof.Rows L2 EV
theorem sc_need_ballots : FnScope N_need_ballots p_need_ballots (defScope s_need_ballots) := ⟨rfl, rfl, rfl, by decide +kernel, rfl, by decide +kernel, by decide +kernel⟩
theorem ok_need_ballots {P : Program} {w : World} {K : Fg} {mg : Str → Option Value} {base : Heap} {T9 : List Addr} {f : Addr} {fd : FuncData} {f_are_ballots : Addr} {fd_are_ballots : FuncData} {f_is_count_of_candidates : Addr} {fd_is_count_of_candidates : FuncData} (F : Fun K "need_ballots" "need_ballots" s_need_ballots f fd) (T : Txt mg) (k_is_count_of_candidates : Fk P w K mg base "is_count_of_candidates" 2 p_is_count_of_candidates (spD K T9 1 F_is_count_of_candidates) f_is_count_of_candidates fd_is_count_of_candidates) (k_are_ballots : Fk P w K mg base "are_ballots" 8 p_are_ballots (spD K T9 2 F_are_ballots) f_are_ballots fd_are_ballots) : FnOk P w K mg base CX0 9 f fd p_need_ballots (spD K T9 2 F_need_ballots) := by
  have h3 : ∀ (cdv : Value) (A : Around) (outer : List PySem.Env) (s : Shared) (H : Hp) (E : XK), fd.code = cdv → Room 8 (A.deeper (envOfC "need_ballots" (defScope s_need_ballots) s.heap.objs.size f cdv)) →
      DSs (cxOf CX0 P w K mg base N_need_ballots "need_ballots" (defScope s_need_ballots) f cdv A outer s H E).nox T9 (defBody s_need_ballots) g_need_ballots := by
    intro cdv A outer s H E hcd hr
    unfold g_need_ballots
    exact (dss_cons (ds_if (dt_not (dt_val (de_call k_is_count_of_candidates.G (hr.mono (by decide)) rfl k_is_count_of_candidates.m k_is_count_of_candidates.kp k_is_count_of_candidates.b (da_cons (de_var (i := 0) rfl (by first | exact Or.inl rfl | exact Or.inr (Or.inl rfl) | exact Or.inr (Or.inr rfl))) da_nil) rfl (hlen := (aC_len aN_len))))) (dss_one ds_never) dss_nil)
    (dss_one (ds_if (dt_not (dt_val (de_call k_are_ballots.G (hr.mono (by decide)) rfl k_are_ballots.m k_are_ballots.kp k_are_ballots.b (da_cons (de_var (i := 0) rfl (by first | exact Or.inl rfl | exact Or.inr (Or.inl rfl) | exact Or.inr (Or.inr rfl))) (da_cons (de_var (i := 1) rfl (by first | exact Or.inl rfl | exact Or.inr (Or.inl rfl) | exact Or.inr (Or.inr rfl))) da_nil)) rfl (hlen := (aC_len (aC_len aN_len)))))) (dss_one ds_never) dss_nil)))
  exact @fn_ok P w K mg base T9 "need_ballots" "need_ballots" s_need_ballots f fd N_need_ballots p_need_ballots 8 2 g_need_ballots F sc_need_ballots rfl (by decide) h3
end K01
namespace K01
open PySem PySem.Spec PyProof.Rows L2 EV
theorem sc_tallied : FnScope N_tallied p_tallied (defScope s_tallied) := ⟨rfl, rfl, rfl, by decide +kernel, rfl, by decide +kernel, by decide +kernel⟩
theorem ok_tallied {P : Program} {w : World} {K : Fg} {mg : Str → Option Value} {base : Heap} {T9 : List Addr} {f : Addr} {fd : FuncData}  (F : Fun K "tallied" "tallied" s_tallied f fd) (T : Txt mg)  : FnOk P w K mg base CX0 1 f fd p_tallied (spD K T9 2 F_tallied) := by
  have h3 : ∀ (cdv : Value) (A : Around) (outer : List PySem.Env) (s : Shared) (H : Hp) (E : XK), fd.code = cdv → Room 0 (A.deeper (envOfC "tallied" (defScope s_tallied) s.heap.objs.size f cdv)) →
      DSs (cxOf CX0 P w K mg base N_tallied "tallied" (defScope s_tallied) f cdv A outer s H E).nox T9 (defBody s_tallied) g_tallied := by
    intro cdv A outer s H E hcd hr
    unfold g_tallied
    exact (dss_cons (ds_sh 0 (by first | exact ds_asgLc (i := 2) (own := [("row", 5)]) rfl sc_tallied.nd rfl rfl (sw_true rfl rfl rfl (by decide +kernel)) (di_r1 rfl T.b_range (de_var (i := 0) rfl (by first | exact Or.inl rfl | exact Or.inr (Or.inl rfl) | exact Or.inr (Or.inr rfl)))) (blkOk_by (own := [("row", 5)]) (N := N_tallied) (by kernel_rfl)) (fun _ _ _ _ _ => (dg_name (i := 5) sc_tallied.nd rfl (by first | exact Or.inl rfl | exact Or.inr rfl) (by decide))) (fun _ _ _ _ _ => pts_yes) (fun _ _ _ _ _ => (de_rep (de_lst (da_cons (de_c pe_int (.int _)) da_nil)) (de_var (i := 0) rfl (by first | exact Or.inl rfl | exact Or.inr (Or.inl rfl) | exact Or.inr (Or.inr rfl))))) | exact ds_asg (i := 2) sc_tallied.nd rfl (by first | exact Or.inl rfl | exact Or.inr rfl) (de_lc (own := [("row", 5)]) rfl sc_tallied.nd (di_r1 rfl T.b_range (de_var (i := 0) rfl (by first | exact Or.inl rfl | exact Or.inr (Or.inl rfl) | exact Or.inr (Or.inr rfl)))) (blkOk_by (own := [("row", 5)]) (N := N_tallied) (by kernel_rfl)) (fun _ _ _ _ _ => (dg_name (i := 5) sc_tallied.nd rfl (by first | exact Or.inl rfl | exact Or.inr rfl) (by decide))) (fun _ _ _ _ _ => pts_yes) (fun _ _ _ _ _ => (de_rep (de_lst (da_cons (de_c pe_int (.int _)) da_nil)) (de_var (i := 0) rfl (by first | exact Or.inl rfl | exact Or.inr (Or.inl rfl) | exact Or.inr (Or.inr rfl))))))))
    (dss_cons (ds_sh 1 (ds_for (vs := [3, 4]) rfl PassesOwn.never (di_seq (de_var (i := 1) rfl (by first | exact Or.inl rfl | exact Or.inr (Or.inl rfl) | exact Or.inr (Or.inr rfl)))) (dg_tup rfl (dgs_cons (dg_name (i := 3) sc_tallied.nd rfl (by first | exact Or.inl rfl | exact Or.inr rfl) (by decide)) (dgs_cons (dg_name (i := 4) sc_tallied.nd rfl (by first | exact Or.inl rfl | exact Or.inr rfl) (by decide)) dgs_nil))) (dss_one (ds_sh 3 (ds_for (vs := [6, 7]) rfl PassesOwn.never (di_enum rfl T.b_enumerate (de_var (i := 3) rfl (by first | exact Or.inl rfl | exact Or.inr (Or.inl rfl) | exact Or.inr (Or.inr rfl)))) (dg_tup rfl (dgs_cons (dg_name (i := 6) sc_tallied.nd rfl (by first | exact Or.inl rfl | exact Or.inr rfl) (by decide)) (dgs_cons (dg_name (i := 7) sc_tallied.nd rfl (by first | exact Or.inl rfl | exact Or.inr rfl) (by decide)) dgs_nil))) (dss_one (ds_for (vs := [8]) rfl PassesOwn.never (di_seq (de_sl (de_var (i := 3) rfl (by first | exact Or.inl rfl | exact Or.inr (Or.inl rfl) | exact Or.inr (Or.inr rfl))) (do_some (de_add (de_var (i := 6) rfl (by first | exact Or.inl rfl | exact Or.inr (Or.inl rfl) | exact Or.inr (Or.inr rfl))) (de_c pe_int (.int _)))) do_none)) (dg_name (i := 8) sc_tallied.nd rfl (by first | exact Or.inl rfl | exact Or.inr rfl) (by decide)) (dss_cons (ds_aug2 (i := 2) ip_add rfl (by first | exact Or.inl rfl | exact Or.inr (Or.inl rfl) | exact Or.inr (Or.inr rfl)) (de_var (i := 7) rfl (by first | exact Or.inl rfl | exact Or.inr (Or.inl rfl) | exact Or.inr (Or.inr rfl))) (de_var (i := 8) rfl (by first | exact Or.inl rfl | exact Or.inr (Or.inl rfl) | exact Or.inr (Or.inr rfl))) (de_var (i := 4) rfl (by first | exact Or.inl rfl | exact Or.inr (Or.inl rfl) | exact Or.inr (Or.inr rfl))))
    (dss_one (ds_aug2 (i := 2) ip_sub rfl (by first | exact Or.inl rfl | exact Or.inr (Or.inl rfl) | exact Or.inr (Or.inr rfl)) (de_var (i := 8) rfl (by first | exact Or.inl rfl | exact Or.inr (Or.inl rfl) | exact Or.inr (Or.inr rfl))) (de_var (i := 7) rfl (by first | exact Or.inl rfl | exact Or.inr (Or.inl rfl) | exact Or.inr (Or.inr rfl))) (de_var (i := 4) rfl (by first | exact Or.inl rfl | exact Or.inr (Or.inl rfl) | exact Or.inr (Or.inr rfl)))))))))))))
    (dss_one (ds_retV (i := 2) rfl (by first | exact Or.inl rfl | exact Or.inr (Or.inl rfl) | exact Or.inr (Or.inr rfl))))))
  exact @fn_ok P w K mg base T9 "tallied" "tallied" s_tallied f fd N_tallied p_tallied 0 2 g_tallied F sc_tallied rfl (by decide) h3
end K01
namespace K01
open PySem PySem.Spec PyProof.Rows L2 EV
theorem sc_counted : FnScope N_counted p_counted (defScope s_counted) := ⟨rfl, rfl, rfl, by decide +kernel, rfl, by decide +kernel, by decide +kernel⟩
theorem ok_counted {P : Program} {w : World} {K : Fg} {mg : Str → Option Value} {base : Heap} {T9 : List Addr} {f : Addr} {fd : FuncData} {f_tallied : Addr} {fd_tallied : FuncData} {f_need_ballots : Addr} {fd_need_ballots : FuncData} (F : Fun K "counted" "counted" s_counted f fd) (T : Txt mg) (k_need_ballots : Fk P w K mg base "need_ballots" 9 p_need_ballots (spD K T9 2 F_need_ballots) f_need_ballots fd_need_ballots) (k_tallied : Fk P w K mg base "tallied" 1 p_tallied (spD K T9 2 F_tallied) f_tallied fd_tallied) : FnOk P w K mg base CX0 10 f fd p_counted (spD K T9 2 F_counted) := by
  have h3 : ∀ (cdv : Value) (A : Around) (outer : List PySem.Env) (s : Shared) (H : Hp) (E : XK), fd.code = cdv → Room 9 (A.deeper (envOfC "counted" (defScope s_counted) s.heap.objs.size f cdv)) →
      DSs (cxOf CX0 P w K mg base N_counted "counted" (defScope s_counted) f cdv A outer s H E).nox T9 (defBody s_counted) g_counted := by
    intro cdv A outer s H E hcd hr
    unfold g_counted
    exact (dss_cons (ds_ex (de_call k_need_ballots.G (hr.mono (by decide)) rfl k_need_ballots.m k_need_ballots.kp k_need_ballots.b (da_cons (de_var (i := 0) rfl (by first | exact Or.inl rfl | exact Or.inr (Or.inl rfl) | exact Or.inr (Or.inr rfl))) (da_cons (de_var (i := 1) rfl (by first | exact Or.inl rfl | exact Or.inr (Or.inl rfl) | exact Or.inr (Or.inr rfl))) da_nil)) rfl (hlen := (aC_len (aC_len aN_len)))))
    (dss_one (ds_ret (de_call k_tallied.G (hr.mono (by decide)) rfl k_tallied.m k_tallied.kp k_tallied.b (da_cons (de_var (i := 0) rfl (by first | exact Or.inl rfl | exact Or.inr (Or.inl rfl) | exact Or.inr (Or.inr rfl))) (da_cons (de_var (i := 1) rfl (by first | exact Or.inl rfl | exact Or.inr (Or.inl rfl) | exact Or.inr (Or.inr rfl))) da_nil)) rfl (hlen := (aC_len (aC_len aN_len)))))))
  exact @fn_ok P w K mg base T9 "counted" "counted" s_counted f fd N_counted p_counted 9 2 g_counted F sc_counted rfl (by decide) h3
end K01
namespace K01
open PySem PySem.Spec PyProof.Rows L2 EV
theorem sc__law_number : FnScope N__law_number p__law_number (defScope s__law_number) := ⟨rfl, rfl, rfl, by decide +kernel, rfl, by decide +kernel, by decide +kernel⟩
theorem ok__law_number {P : Program} {w : World} {K : Fg} {mg : Str → Option Value} {base : Heap} {T9 : List Addr} {f : Addr} {fd : FuncData}  (F : Fun K "_law_number" "_law_number" s__law_number f fd) (T : Txt mg)  : FnOk P w K mg base CX0 1 f fd p__law_number (spD K T9 3 F__law_number) := by
  have h3 : ∀ (cdv : Value) (A : Around) (outer : List PySem.Env) (s : Shared) (H : Hp) (E : XK), fd.code = cdv → Room 0 (A.deeper (envOfC "_law_number" (defScope s__law_number) s.heap.objs.size f cdv)) →
      DSs (cxOf CX0 P w K mg base N__law_number "_law_number" (defScope s__law_number) f cdv A outer s H E).nox T9 (defBody s__law_number) g__law_number := by
    intro cdv A outer s H E hcd hr
    unfold g__law_number
    exact (dss_cons (ds_if (dt_ge (de_var (i := 0) rfl (by first | exact Or.inl rfl | exact Or.inr (Or.inl rfl) | exact Or.inr (Or.inr rfl))) (de_pow (de_c pe_int (.int _)) (de_c pe_int (.int _)))) (dss_one (ds_ret (de_fdiv (de_var (i := 0) rfl (by first | exact Or.inl rfl | exact Or.inr (Or.inl rfl) | exact Or.inr (Or.inr rfl))) (de_add (de_c pe_int (.int _)) (de_mod (de_var (i := 1) rfl (by first | exact Or.inl rfl | exact Or.inr (Or.inl rfl) | exact Or.inr (Or.inr rfl))) (de_c pe_int (.int _))))))) dss_nil)
    (dss_cons (ds_asg (i := 3) sc__law_number.nd rfl (by first | exact Or.inl rfl | exact Or.inr rfl) (de_mod (de_add (de_mul (de_add (de_var (i := 0) rfl (by first | exact Or.inl rfl | exact Or.inr (Or.inl rfl) | exact Or.inr (Or.inr rfl))) (de_mul (de_c pe_int (.int _)) (de_var (i := 1) rfl (by first | exact Or.inl rfl | exact Or.inr (Or.inl rfl) | exact Or.inr (Or.inr rfl))))) (de_c pe_int (.int _))) (de_var (i := 2) rfl (by first | exact Or.inl rfl | exact Or.inr (Or.inl rfl) | exact Or.inr (Or.inr rfl)))) (de_c pe_int (.int _))))
    (dss_cons (ds_asg (i := 4) sc__law_number.nd rfl (by first | exact Or.inl rfl | exact Or.inr rfl) (de_mul (de_var (i := 3) rfl (by first | exact Or.inl rfl | exact Or.inr (Or.inl rfl) | exact Or.inr (Or.inr rfl))) (de_add (de_add (de_var (i := 0) rfl (by first | exact Or.inl rfl | exact Or.inr (Or.inl rfl) | exact Or.inr (Or.inr rfl))) (de_mul (de_c pe_int (.int _)) (de_var (i := 1) rfl (by first | exact Or.inl rfl | exact Or.inr (Or.inl rfl) | exact Or.inr (Or.inr rfl))))) (de_c pe_int (.int _)))))
    (dss_one (ds_ret (de_fdiv (de_mul (de_mul (de_var (i := 4) rfl (by first | exact Or.inl rfl | exact Or.inr (Or.inl rfl) | exact Or.inr (Or.inr rfl))) (de_add (de_add (de_var (i := 3) rfl (by first | exact Or.inl rfl | exact Or.inr (Or.inl rfl) | exact Or.inr (Or.inr rfl))) (de_var (i := 0) rfl (by first | exact Or.inl rfl | exact Or.inr (Or.inl rfl) | exact Or.inr (Or.inr rfl)))) (de_c pe_int (.int _)))) (de_add (de_mul (de_var (i := 3) rfl (by first | exact Or.inl rfl | exact Or.inr (Or.inl rfl) | exact Or.inr (Or.inr rfl))) (de_var (i := 3) rfl (by first | exact Or.inl rfl | exact Or.inr (Or.inl rfl) | exact Or.inr (Or.inr rfl)))) (de_c pe_int (.int _)))) (de_add (de_c pe_int (.int _)) (de_var (i := 1) rfl (by first | exact Or.inl rfl | exact Or.inr (Or.inl rfl) | exact Or.inr (Or.inr rfl))))))))))
  exact @fn_ok P w K mg base T9 "_law_number" "_law_number" s__law_number f fd N__law_number p__law_number 0 3 g__law_number F sc__law_number rfl (by decide) h3
end K01
namespace K01
open PySem PySem.Spec PyProof.Rows L2 EV
theorem sc__law_ballots : FnScope N__law_ballots p__law_ballots (defScope s__law_ballots) := ⟨rfl, rfl, rfl, by decide +kernel, rfl, by decide +kernel, by decide +kernel⟩
theorem ok__law_ballots {P : Program} {w : World} {K : Fg} {mg : Str → Option Value} {base : Heap} {T9 : List Addr} {f : Addr} {fd : FuncData} {f__law_number : Addr} {fd__law_number : FuncData} (F : Fun K "_law_ballots" "_law_ballots" s__law_ballots f fd) (T : Txt mg) (k__law_number : Fk P w K mg base "_law_number" 1 p__law_number (spD K T9 3 F__law_number) f__law_number fd__law_number) : FnOk P w K mg base CX0 2 f fd p__law_ballots (spD K T9 2 F__law_ballots) := by
  have h3 : ∀ (cdv : Value) (A : Around) (outer : List PySem.Env) (s : Shared) (H : Hp) (E : XK), fd.code = cdv → Room 1 (A.deeper (envOfC "_law_ballots" (defScope s__law_ballots) s.heap.objs.size f cdv)) →
      DSs (cxOf CX0 P w K mg base N__law_ballots "_law_ballots" (defScope s__law_ballots) f cdv A outer s H E).nox T9 (defBody s__law_ballots) g__law_ballots := by
    intro cdv A outer s H E hcd hr
    unfold g__law_ballots
    exact (dss_cons (ds_asg (i := 2) sc__law_ballots.nd rfl (by first | exact Or.inl rfl | exact Or.inr rfl) (de_lst da_nil))
    (dss_cons (ds_asg (i := 3) sc__law_ballots.nd rfl (by first | exact Or.inl rfl | exact Or.inr rfl) (de_sum rfl rfl T.b_sum (de_sl (de_var (i := 0) rfl (by first | exact Or.inl rfl | exact Or.inr (Or.inl rfl) | exact Or.inr (Or.inr rfl))) do_none (do_some (de_c pe_int (.int _))))))
    (dss_cons (ds_for (vs := [4, 5]) rfl PassesOwn.never (di_enum rfl T.b_enumerate (de_sl (de_var (i := 0) rfl (by first | exact Or.inl rfl | exact Or.inr (Or.inl rfl) | exact Or.inr (Or.inr rfl))) do_none (do_some (de_c pe_int (.int _))))) (dg_tup rfl (dgs_cons (dg_name (i := 4) sc__law_ballots.nd rfl (by first | exact Or.inl rfl | exact Or.inr rfl) (by decide)) (dgs_cons (dg_name (i := 5) sc__law_ballots.nd rfl (by first | exact Or.inl rfl | exact Or.inr rfl) (by decide)) dgs_nil))) (dss_cons (ds_asg (i := 6) sc__law_ballots.nd rfl (by first | exact Or.inl rfl | exact Or.inr rfl) (de_call k__law_number.G (hr.mono (by decide)) rfl k__law_number.m k__law_number.kp k__law_number.b (da_cons (de_var (i := 5) rfl (by first | exact Or.inl rfl | exact Or.inr (Or.inl rfl) | exact Or.inr (Or.inr rfl))) (da_cons (de_var (i := 4) rfl (by first | exact Or.inl rfl | exact Or.inr (Or.inl rfl) | exact Or.inr (Or.inr rfl))) (da_cons (de_var (i := 3) rfl (by first | exact Or.inl rfl | exact Or.inr (Or.inl rfl) | exact Or.inr (Or.inr rfl))) da_nil))) rfl (hlen := (aC_len (aC_len (aC_len aN_len))))))
    (dss_cons (ds_asg (i := 7) sc__law_ballots.nd rfl (by first | exact Or.inl rfl | exact Or.inr rfl) (de_lr rfl rfl T.b_list rfl T.b_range (de_var (i := 1) rfl (by first | exact Or.inl rfl | exact Or.inr (Or.inl rfl) | exact Or.inr (Or.inr rfl)))))
    (dss_cons (ds_asg (i := 8) sc__law_ballots.nd rfl (by first | exact Or.inl rfl | exact Or.inr rfl) (de_lst da_nil))
    (dss_cons (ds_while 64 PassesOwn.never (dt_ne hr.units (de_var (i := 7) rfl (by first | exact Or.inl rfl | exact Or.inr (Or.inl rfl) | exact Or.inr (Or.inr rfl))) (de_lst da_nil)) (dss_cons (ds_pop (i := 8) (j := 7) (ps_expr (pe_bm PySem.F.plainAttrs_list PySem.F.slot_list_append PySem.F.type_list_append mt_append (pe_var (i := 8) rfl (by first | exact Or.inl rfl | exact Or.inr (Or.inl rfl) | exact Or.inr (Or.inr rfl))) (pa_cons (pe_bm PySem.F.plainAttrs_list PySem.F.slot_list_pop PySem.F.type_list_pop mt_popAt (pe_var (i := 7) rfl (by first | exact Or.inl rfl | exact Or.inr (Or.inl rfl) | exact Or.inr (Or.inr rfl))) (da_cons (de_mod (de_var (i := 6) rfl (by first | exact Or.inl rfl | exact Or.inr (Or.inl rfl) | exact Or.inr (Or.inr rfl))) (de_len rfl T.b_len (de_var (i := 7) rfl (by first | exact Or.inl rfl | exact Or.inr (Or.inl rfl) | exact Or.inr (Or.inr rfl))))) da_nil)) pa_nil))))
    (dss_one (ds_asg (i := 6) sc__law_ballots.nd rfl (by first | exact Or.inl rfl | exact Or.inr rfl) (de_fdiv (de_var (i := 6) rfl (by first | exact Or.inl rfl | exact Or.inr (Or.inl rfl) | exact Or.inr (Or.inr rfl))) (de_add (de_len rfl T.b_len (de_var (i := 7) rfl (by first | exact Or.inl rfl | exact Or.inr (Or.inl rfl) | exact Or.inr (Or.inr rfl)))) (de_c pe_int (.int _))))))))
    (dss_one (ds_sh 8 (ds_app (i := 2) (ps_expr (pe_bm PySem.F.plainAttrs_list PySem.F.slot_list_append PySem.F.type_list_append mt_append (pe_var (i := 2) rfl (by first | exact Or.inl rfl | exact Or.inr (Or.inl rfl) | exact Or.inr (Or.inr rfl))) (da_cons (de_tup (da_cons (de_var (i := 8) rfl (by first | exact Or.inl rfl | exact Or.inr (Or.inl rfl) | exact Or.inr (Or.inr rfl))) (da_cons (de_add (de_c pe_int (.int _)) (de_mod (de_call k__law_number.G (hr.mono (by decide)) rfl k__law_number.m k__law_number.kp k__law_number.b (da_cons (de_var (i := 5) rfl (by first | exact Or.inl rfl | exact Or.inr (Or.inl rfl) | exact Or.inr (Or.inr rfl))) (da_cons (de_add (de_var (i := 4) rfl (by first | exact Or.inl rfl | exact Or.inr (Or.inl rfl) | exact Or.inr (Or.inr rfl))) (de_c pe_int (.int _))) (da_cons (de_var (i := 3) rfl (by first | exact Or.inl rfl | exact Or.inr (Or.inl rfl) | exact Or.inr (Or.inr rfl))) da_nil))) rfl (hlen := (aC_len (aC_len (aC_len aN_len))))) (de_ix (de_tup (da_cons (de_c pe_int (.int _)) (da_cons (de_c pe_int (.int _)) (da_cons (de_pow (de_c pe_int (.int _)) (de_c pe_int (.int _))) da_nil)))) (de_mod (de_fdiv (de_var (i := 3) rfl (by first | exact Or.inl rfl | exact Or.inr (Or.inl rfl) | exact Or.inr (Or.inr rfl))) (de_c pe_int (.int _))) (de_c pe_int (.int _)))))) da_nil))) da_nil)))))))))))
    (dss_one (ds_retV (i := 2) rfl (by first | exact Or.inl rfl | exact Or.inr (Or.inl rfl) | exact Or.inr (Or.inr rfl)))))))
  exact @fn_ok P w K mg base T9 "_law_ballots" "_law_ballots" s__law_ballots f fd N__law_ballots p__law_ballots 1 2 g__law_ballots F sc__law_ballots rfl (by decide) h3
end K01
namespace K01
open PySem PySem.Spec PyProof.Rows L2 EV
theorem sc__law_count : FnScope N__law_count p__law_count (defScope s__law_count) := ⟨rfl, rfl, rfl, by decide +kernel, rfl, by decide +kernel, by decide +kernel⟩
theorem ok__law_count {P : Program} {w : World} {K : Fg} {mg : Str → Option Value} {base : Heap} {T9 : List Addr} {f : Addr} {fd : FuncData}  (F : Fun K "_law_count" "_law_count" s__law_count f fd) (T : Txt mg)  : FnOk P w K mg base CX0 1 f fd p__law_count (spD K T9 2 F__law_count) := by
  have h3 : ∀ (cdv : Value) (A : Around) (outer : List PySem.Env) (s : Shared) (H : Hp) (E : XK), fd.code = cdv → Room 0 (A.deeper (envOfC "_law_count" (defScope s__law_count) s.heap.objs.size f cdv)) →
      DSs (cxOf CX0 P w K mg base N__law_count "_law_count" (defScope s__law_count) f cdv A outer s H E).nox T9 (defBody s__law_count) g__law_count := by
    intro cdv A outer s H E hcd hr
    unfold g__law_count
    exact (dss_cons (ds_sh 0 (by first | exact ds_asgLc (i := 2) (own := [("_law_one", 5)]) rfl sc__law_count.nd rfl rfl (sw_true rfl rfl rfl (by decide +kernel)) (di_r1 rfl T.b_range (de_var (i := 0) rfl (by first | exact Or.inl rfl | exact Or.inr (Or.inl rfl) | exact Or.inr (Or.inr rfl)))) (blkOk_by (own := [("_law_one", 5)]) (N := N__law_count) (by kernel_rfl)) (fun _ _ _ _ _ => (dg_name (i := 5) sc__law_count.nd rfl (by first | exact Or.inl rfl | exact Or.inr rfl) (by decide))) (fun _ _ _ _ _ => pts_yes) (fun _ _ _ _ _ => (de_rep (de_lst (da_cons (de_c pe_int (.int _)) da_nil)) (de_var (i := 0) rfl (by first | exact Or.inl rfl | exact Or.inr (Or.inl rfl) | exact Or.inr (Or.inr rfl))))) | exact ds_asg (i := 2) sc__law_count.nd rfl (by first | exact Or.inl rfl | exact Or.inr rfl) (de_lc (own := [("_law_one", 5)]) rfl sc__law_count.nd (di_r1 rfl T.b_range (de_var (i := 0) rfl (by first | exact Or.inl rfl | exact Or.inr (Or.inl rfl) | exact Or.inr (Or.inr rfl)))) (blkOk_by (own := [("_law_one", 5)]) (N := N__law_count) (by kernel_rfl)) (fun _ _ _ _ _ => (dg_name (i := 5) sc__law_count.nd rfl (by first | exact Or.inl rfl | exact Or.inr rfl) (by decide))) (fun _ _ _ _ _ => pts_yes) (fun _ _ _ _ _ => (de_rep (de_lst (da_cons (de_c pe_int (.int _)) da_nil)) (de_var (i := 0) rfl (by first | exact Or.inl rfl | exact Or.inr (Or.inl rfl) | exact Or.inr (Or.inr rfl))))))))
    (dss_cons (ds_sh 1 (ds_for (vs := [3, 4]) rfl PassesOwn.never (di_seq (de_var (i := 1) rfl (by first | exact Or.inl rfl | exact Or.inr (Or.inl rfl) | exact Or.inr (Or.inr rfl)))) (dg_tup rfl (dgs_cons (dg_name (i := 3) sc__law_count.nd rfl (by first | exact Or.inl rfl | exact Or.inr rfl) (by decide)) (dgs_cons (dg_name (i := 4) sc__law_count.nd rfl (by first | exact Or.inl rfl | exact Or.inr rfl) (by decide)) dgs_nil))) (dss_one (ds_sh 3 (ds_for (vs := [6, 5]) rfl PassesOwn.never (di_enum rfl T.b_enumerate (de_var (i := 3) rfl (by first | exact Or.inl rfl | exact Or.inr (Or.inl rfl) | exact Or.inr (Or.inr rfl)))) (dg_tup rfl (dgs_cons (dg_name (i := 6) sc__law_count.nd rfl (by first | exact Or.inl rfl | exact Or.inr rfl) (by decide)) (dgs_cons (dg_name (i := 5) sc__law_count.nd rfl (by first | exact Or.inl rfl | exact Or.inr rfl) (by decide)) dgs_nil))) (dss_one (ds_for (vs := [7]) rfl PassesOwn.never (di_seq (de_sl (de_var (i := 3) rfl (by first | exact Or.inl rfl | exact Or.inr (Or.inl rfl) | exact Or.inr (Or.inr rfl))) do_none (do_some (de_var (i := 6) rfl (by first | exact Or.inl rfl | exact Or.inr (Or.inl rfl) | exact Or.inr (Or.inr rfl)))))) (dg_name (i := 7) sc__law_count.nd rfl (by first | exact Or.inl rfl | exact Or.inr rfl) (by decide)) (dss_cons (ds_set2 (i := 2) rfl (by first | exact Or.inl rfl | exact Or.inr (Or.inl rfl) | exact Or.inr (Or.inr rfl)) (de_add (de_ix (de_ix (de_var (i := 2) rfl (by first | exact Or.inl rfl | exact Or.inr (Or.inl rfl) | exact Or.inr (Or.inr rfl))) (de_var (i := 7) rfl (by first | exact Or.inl rfl | exact Or.inr (Or.inl rfl) | exact Or.inr (Or.inr rfl)))) (de_var (i := 5) rfl (by first | exact Or.inl rfl | exact Or.inr (Or.inl rfl) | exact Or.inr (Or.inr rfl)))) (de_var (i := 4) rfl (by first | exact Or.inl rfl | exact Or.inr (Or.inl rfl) | exact Or.inr (Or.inr rfl)))) (de_var (i := 7) rfl (by first | exact Or.inl rfl | exact Or.inr (Or.inl rfl) | exact Or.inr (Or.inr rfl))) (de_var (i := 5) rfl (by first | exact Or.inl rfl | exact Or.inr (Or.inl rfl) | exact Or.inr (Or.inr rfl))))
    (dss_one (ds_set2 (i := 2) rfl (by first | exact Or.inl rfl | exact Or.inr (Or.inl rfl) | exact Or.inr (Or.inr rfl)) (de_sub (de_ix (de_ix (de_var (i := 2) rfl (by first | exact Or.inl rfl | exact Or.inr (Or.inl rfl) | exact Or.inr (Or.inr rfl))) (de_var (i := 5) rfl (by first | exact Or.inl rfl | exact Or.inr (Or.inl rfl) | exact Or.inr (Or.inr rfl)))) (de_var (i := 7) rfl (by first | exact Or.inl rfl | exact Or.inr (Or.inl rfl) | exact Or.inr (Or.inr rfl)))) (de_var (i := 4) rfl (by first | exact Or.inl rfl | exact Or.inr (Or.inl rfl) | exact Or.inr (Or.inr rfl)))) (de_var (i := 5) rfl (by first | exact Or.inl rfl | exact Or.inr (Or.inl rfl) | exact Or.inr (Or.inr rfl))) (de_var (i := 7) rfl (by first | exact Or.inl rfl | exact Or.inr (Or.inl rfl) | exact Or.inr (Or.inr rfl)))))))))))))
    (dss_one (ds_retV (i := 2) rfl (by first | exact Or.inl rfl | exact Or.inr (Or.inl rfl) | exact Or.inr (Or.inr rfl))))))
  exact @fn_ok P w K mg base T9 "_law_count" "_law_count" s__law_count f fd N__law_count p__law_count 0 2 g__law_count F sc__law_count rfl (by decide) h3
end K01
namespace K01
open PySem PySem.Spec PyProof.Rows L2 EV
theorem sc__law_is_table : FnScope N__law_is_table p__law_is_table (defScope s__law_is_table) := ⟨rfl, rfl, rfl, by decide +kernel, rfl, by decide +kernel, by decide +kernel⟩
theorem ok__law_is_table {P : Program} {w : World} {K : Fg} {mg : Str → Option Value} {base : Heap} {T9 : List Addr} {f : Addr} {fd : FuncData}  (F : Fun K "_law_is_table" "_law_is_table" s__law_is_table f fd) (T : Txt mg)  : FnOk P w K mg base CX0 1 f fd p__law_is_table (spD K T9 2 F__law_is_table) := by
  have h3 : ∀ (cdv : Value) (A : Around) (outer : List PySem.Env) (s : Shared) (H : Hp) (E : XK), fd.code = cdv → Room 0 (A.deeper (envOfC "_law_is_table" (defScope s__law_is_table) s.heap.objs.size f cdv)) →
      DSs (cxOf CX0 P w K mg base N__law_is_table "_law_is_table" (defScope s__law_is_table) f cdv A outer s H E).nox T9 (defBody s__law_is_table) g__law_is_table := by
    intro cdv A outer s H E hcd hr
    unfold g__law_is_table
    exact (dss_cons (ds_sh 0 (ds_if (DW.dt (dw_or (dt_not (dt_val (de_isi (T := "list") rfl T.b_isinstance rfl T.b_list (by decide +kernel) (ha := (de_var (i := 0) rfl (by first | exact Or.inl rfl | exact Or.inr (Or.inl rfl) | exact Or.inr (Or.inr rfl))))))) (dw_or (dt_ne hr.units (de_len rfl T.b_len (de_var (i := 0) rfl (by first | exact Or.inl rfl | exact Or.inr (Or.inl rfl) | exact Or.inr (Or.inr rfl)))) (de_var (i := 1) rfl (by first | exact Or.inl rfl | exact Or.inr (Or.inl rfl) | exact Or.inr (Or.inr rfl)))) (dw_or1 (dt_not (dt_val (de_all rfl rfl T.b_all (de_lc (own := [("_law_row", 2)]) rfl sc__law_is_table.nd (di_seq (de_var (i := 0) rfl (by first | exact Or.inl rfl | exact Or.inr (Or.inl rfl) | exact Or.inr (Or.inr rfl)))) (blkOk_by (own := [("_law_row", 2)]) (N := N__law_is_table) (by kernel_rfl)) (fun _ _ _ _ _ => (dg_name (i := 2) sc__law_is_table.nd rfl (by first | exact Or.inl rfl | exact Or.inr rfl) (by decide))) (fun _ _ _ _ _ => pts_yes) (fun _ _ _ _ _ => (de_isi (T := "list") rfl T.b_isinstance rfl T.b_list (by decide +kernel) (ha := (de_var (i := 2) rfl (by first | exact Or.inl rfl | exact Or.inr (Or.inl rfl) | exact Or.inr (Or.inr rfl)))))))))))))) (dss_one (ds_ret (de_c pe_bl (.bl _)))) dss_nil))
    (dss_cons (ds_sh 0 (ds_for (vs := [2]) rfl PassesOwn.never (di_seq (de_var (i := 0) rfl (by first | exact Or.inl rfl | exact Or.inr (Or.inl rfl) | exact Or.inr (Or.inr rfl)))) (dg_name (i := 2) sc__law_is_table.nd rfl (by first | exact Or.inl rfl | exact Or.inr rfl) (by decide)) (dss_one (ds_sh 2 (ds_if (DW.dt (dw_or (dt_ne hr.units (de_len rfl T.b_len (de_var (i := 2) rfl (by first | exact Or.inl rfl | exact Or.inr (Or.inl rfl) | exact Or.inr (Or.inr rfl)))) (de_var (i := 1) rfl (by first | exact Or.inl rfl | exact Or.inr (Or.inl rfl) | exact Or.inr (Or.inr rfl)))) (dw_or1 (dt_not (dt_val (de_all rfl rfl T.b_all (de_lc (own := [("_law_one", 3)]) rfl sc__law_is_table.nd (di_seq (de_var (i := 2) rfl (by first | exact Or.inl rfl | exact Or.inr (Or.inl rfl) | exact Or.inr (Or.inr rfl)))) (blkOk_by (own := [("_law_one", 3)]) (N := N__law_is_table) (by kernel_rfl)) (fun _ _ _ _ _ => (dg_name (i := 3) sc__law_is_table.nd rfl (by first | exact Or.inl rfl | exact Or.inr rfl) (by decide))) (fun _ _ _ _ _ => pts_yes) (fun _ _ _ _ _ => (de_and (de_isi (T := "int") rfl T.b_isinstance rfl T.b_int (by decide +kernel) (ha := (de_var (i := 3) rfl (by first | exact Or.inl rfl | exact Or.inr (Or.inl rfl) | exact Or.inr (Or.inr rfl))))) (de_one (de_not (de_isi (T := "bool") rfl T.b_isinstance rfl T.b_bool (by decide +kernel) (ha := (de_var (i := 3) rfl (by first | exact Or.inl rfl | exact Or.inr (Or.inl rfl) | exact Or.inr (Or.inr rfl)))))))))))))))) (dss_one (ds_ret (de_c pe_bl (.bl _)))) dss_nil)))))
    (dss_one (ds_ret (de_c pe_bl (.bl _))))))
  exact @fn_ok P w K mg base T9 "_law_is_table" "_law_is_table" s__law_is_table f fd N__law_is_table p__law_is_table 0 2 g__law_is_table F sc__law_is_table rfl (by decide) h3
end K01
namespace K01
open PySem PySem.Spec PyProof.Rows L2 EV
theorem sc_law : FnScope N_law p_law (defScope s_law) := ⟨rfl, rfl, rfl, by decide +kernel, rfl, by decide +kernel, by decide +kernel⟩
theorem ok_law {P : Program} {w : World} {K : Fg} {mg : Str → Option Value} {base : Heap} {T9 : List Addr} {f : Addr} {fd : FuncData} {f_counted : Addr} {fd_counted : FuncData} {f__law_is_table : Addr} {fd__law_is_table : FuncData} {f__law_count : Addr} {fd__law_count : FuncData} {f__law_ballots : Addr} {fd__law_ballots : FuncData} (F : Fun K "law" "law" s_law f fd) (T : Txt mg) (k_counted : Fk P w K mg base "counted" 10 p_counted (spD K T9 2 F_counted) f_counted fd_counted) (k__law_ballots : Fk P w K mg base "_law_ballots" 2 p__law_ballots (spD K T9 2 F__law_ballots) f__law_ballots fd__law_ballots) (k__law_count : Fk P w K mg base "_law_count" 1 p__law_count (spD K T9 2 F__law_count) f__law_count fd__law_count) (k__law_is_table : Fk P w K mg base "_law_is_table" 1 p__law_is_table (spD K T9 2 F__law_is_table) f__law_is_table fd__law_is_table) : FnOk P w K mg base CX0 11 f fd p_law (spD K T9 1 F_law) := by
  have h3 : ∀ (cdv : Value) (A : Around) (outer : List PySem.Env) (s : Shared) (H : Hp) (E : XK), fd.code = cdv → Room 10 (A.deeper (envOfC "law" (defScope s_law) s.heap.objs.size f cdv)) →
      DSs (cxOf CX0 P w K mg base N_law "law" (defScope s_law) f cdv A outer s H E).nox T9 (defBody s_law) g_law := by
    intro cdv A outer s H E hcd hr
    unfold g_law
    exact (dss_cons (ds_asg (i := 1) sc_law.nd rfl (by first | exact Or.inl rfl | exact Or.inr rfl) (de_sum rfl rfl T.b_sum (de_sl (de_var (i := 0) rfl (by first | exact Or.inl rfl | exact Or.inr (Or.inl rfl) | exact Or.inr (Or.inr rfl))) do_none (do_some (de_c pe_int (.int _))))))
    (dss_cons (ds_asg (i := 2) sc_law.nd rfl (by first | exact Or.inl rfl | exact Or.inr rfl) (de_add (de_c pe_int (.int _)) (de_mod (de_var (i := 1) rfl (by first | exact Or.inl rfl | exact Or.inr (Or.inl rfl) | exact Or.inr (Or.inr rfl))) (de_c pe_int (.int _)))))
    (dss_cons (ds_if (dt_eq hr.units (de_mod (de_fdiv (de_var (i := 1) rfl (by first | exact Or.inl rfl | exact Or.inr (Or.inl rfl) | exact Or.inr (Or.inr rfl))) (de_c pe_int (.int _))) (de_c pe_int (.int _))) (de_c pe_int (.int _))) (dss_one (ds_asg (i := 2) sc_law.nd rfl (by first | exact Or.inl rfl | exact Or.inr rfl) (de_add (de_c pe_int (.int _)) (de_mod (de_fdiv (de_var (i := 1) rfl (by first | exact Or.inl rfl | exact Or.inr (Or.inl rfl) | exact Or.inr (Or.inr rfl))) (de_c pe_int (.int _))) (de_c pe_int (.int _)))))) dss_nil)
    (dss_cons (ds_asg (i := 3) sc_law.nd rfl (by first | exact Or.inl rfl | exact Or.inr rfl) (de_call k__law_ballots.G (hr.mono (by decide)) rfl k__law_ballots.m k__law_ballots.kp k__law_ballots.b (da_cons (de_var (i := 0) rfl (by first | exact Or.inl rfl | exact Or.inr (Or.inl rfl) | exact Or.inr (Or.inr rfl))) (da_cons (de_var (i := 2) rfl (by first | exact Or.inl rfl | exact Or.inr (Or.inl rfl) | exact Or.inr (Or.inr rfl))) da_nil)) rfl (hlen := (aC_len (aC_len aN_len)))))
    (dss_cons (ds_sh 3 (by first | exact ds_asgLc (i := 4) (own := [("_law_line", 11), ("_law_many", 12)]) rfl sc_law.nd rfl rfl (sw_true rfl rfl rfl (by decide +kernel)) (di_seq (de_var (i := 3) rfl (by first | exact Or.inl rfl | exact Or.inr (Or.inl rfl) | exact Or.inr (Or.inr rfl)))) (blkOk_by (own := [("_law_line", 11), ("_law_many", 12)]) (N := N_law) (by kernel_rfl)) (fun _ _ _ _ _ => (dg_tup rfl (dgs_cons (dg_name (i := 11) sc_law.nd rfl (by first | exact Or.inl rfl | exact Or.inr rfl) (by decide)) (dgs_cons (dg_name (i := 12) sc_law.nd rfl (by first | exact Or.inl rfl | exact Or.inr rfl) (by decide)) dgs_nil)))) (fun _ _ _ _ _ => pts_yes) (fun _ _ _ _ _ => (de_tup (da_cons (de_lo rfl T.b_list (de_var (i := 11) rfl (by first | exact Or.inl rfl | exact Or.inr (Or.inl rfl) | exact Or.inr (Or.inr rfl)))) (da_cons (de_var (i := 12) rfl (by first | exact Or.inl rfl | exact Or.inr (Or.inl rfl) | exact Or.inr (Or.inr rfl))) da_nil)))) | exact ds_asg (i := 4) sc_law.nd rfl (by first | exact Or.inl rfl | exact Or.inr rfl) (de_lc (own := [("_law_line", 11), ("_law_many", 12)]) rfl sc_law.nd (di_seq (de_var (i := 3) rfl (by first | exact Or.inl rfl | exact Or.inr (Or.inl rfl) | exact Or.inr (Or.inr rfl)))) (blkOk_by (own := [("_law_line", 11), ("_law_many", 12)]) (N := N_law) (by kernel_rfl)) (fun _ _ _ _ _ => (dg_tup rfl (dgs_cons (dg_name (i := 11) sc_law.nd rfl (by first | exact Or.inl rfl | exact Or.inr rfl) (by decide)) (dgs_cons (dg_name (i := 12) sc_law.nd rfl (by first | exact Or.inl rfl | exact Or.inr rfl) (by decide)) dgs_nil)))) (fun _ _ _ _ _ => pts_yes) (fun _ _ _ _ _ => (de_tup (da_cons (de_lo rfl T.b_list (de_var (i := 11) rfl (by first | exact Or.inl rfl | exact Or.inr (Or.inl rfl) | exact Or.inr (Or.inr rfl)))) (da_cons (de_var (i := 12) rfl (by first | exact Or.inl rfl | exact Or.inr (Or.inl rfl) | exact Or.inr (Or.inr rfl))) da_nil)))))))
    (dss_cons (ds_asg (i := 5) sc_law.nd rfl (by first | exact Or.inl rfl | exact Or.inr rfl) (de_call k__law_count.G (hr.mono (by decide)) rfl k__law_count.m k__law_count.kp k__law_count.b (da_cons (de_var (i := 2) rfl (by first | exact Or.inl rfl | exact Or.inr (Or.inl rfl) | exact Or.inr (Or.inr rfl))) (da_cons (de_var (i := 3) rfl (by first | exact Or.inl rfl | exact Or.inr (Or.inl rfl) | exact Or.inr (Or.inr rfl))) da_nil)) rfl (hlen := (aC_len (aC_len aN_len)))))
    (dss_cons (ds_asg (i := 6) sc_law.nd rfl (by first | exact Or.inl rfl | exact Or.inr rfl) (de_call k_counted.G (hr.mono (by decide)) rfl k_counted.m k_counted.kp k_counted.b (da_cons (de_var (i := 2) rfl (by first | exact Or.inl rfl | exact Or.inr (Or.inl rfl) | exact Or.inr (Or.inr rfl))) (da_cons (de_var (i := 4) rfl (by first | exact Or.inl rfl | exact Or.inr (Or.inl rfl) | exact Or.inr (Or.inr rfl))) da_nil)) rfl (hlen := (aC_len (aC_len aN_len)))))
    (dss_cons (ds_if (DW.dt (dw_or (dt_not (dt_val (de_call k__law_is_table.G (hr.mono (by decide)) rfl k__law_is_table.m k__law_is_table.kp k__law_is_table.b (da_cons (de_var (i := 6) rfl (by first | exact Or.inl rfl | exact Or.inr (Or.inl rfl) | exact Or.inr (Or.inr rfl))) (da_cons (de_var (i := 2) rfl (by first | exact Or.inl rfl | exact Or.inr (Or.inl rfl) | exact Or.inr (Or.inr rfl))) da_nil)) rfl (hlen := (aC_len (aC_len aN_len)))))) (dw_or (dt_ne hr.units (de_var (i := 6) rfl (by first | exact Or.inl rfl | exact Or.inr (Or.inl rfl) | exact Or.inr (Or.inr rfl))) (de_var (i := 5) rfl (by first | exact Or.inl rfl | exact Or.inr (Or.inl rfl) | exact Or.inr (Or.inr rfl)))) (dw_or1 (dt_ne hr.units (de_var (i := 4) rfl (by first | exact Or.inl rfl | exact Or.inr (Or.inl rfl) | exact Or.inr (Or.inr rfl))) (de_var (i := 3) rfl (by first | exact Or.inl rfl | exact Or.inr (Or.inl rfl) | exact Or.inr (Or.inr rfl)))))))) (dss_one (ds_ret (de_c pe_bl (.bl _)))) dss_nil)
    (dss_cons (ds_sh 3 (ds_asg (i := 7) sc_law.nd rfl (by first | exact Or.inl rfl | exact Or.inr rfl) (de_call k_counted.G (hr.mono (by decide)) rfl k_counted.m k_counted.kp k_counted.b (da_cons (de_var (i := 2) rfl (by first | exact Or.inl rfl | exact Or.inr (Or.inl rfl) | exact Or.inr (Or.inr rfl))) (da_cons (de_lc (own := [("_law_line", 11), ("_law_many", 12)]) rfl sc_law.nd (di_seq (de_var (i := 3) rfl (by first | exact Or.inl rfl | exact Or.inr (Or.inl rfl) | exact Or.inr (Or.inr rfl)))) (blkOk_by (own := [("_law_line", 11), ("_law_many", 12)]) (N := N_law) (by kernel_rfl)) (fun _ _ _ _ _ => (dg_tup rfl (dgs_cons (dg_name (i := 11) sc_law.nd rfl (by first | exact Or.inl rfl | exact Or.inr rfl) (by decide)) (dgs_cons (dg_name (i := 12) sc_law.nd rfl (by first | exact Or.inl rfl | exact Or.inr rfl) (by decide)) dgs_nil)))) (fun _ _ _ _ _ => pts_yes) (fun _ _ _ _ _ => (de_tup (da_cons (de_rev (de_var (i := 11) rfl (by first | exact Or.inl rfl | exact Or.inr (Or.inl rfl) | exact Or.inr (Or.inr rfl)))) (da_cons (de_var (i := 12) rfl (by first | exact Or.inl rfl | exact Or.inr (Or.inl rfl) | exact Or.inr (Or.inr rfl))) da_nil))))) da_nil)) rfl (hlen := (aC_len (aC_len aN_len))))))
    (dss_cons (ds_sh 5 (ds_if (dt_ne hr.units (de_var (i := 7) rfl (by first | exact Or.inl rfl | exact Or.inr (Or.inl rfl) | exact Or.inr (Or.inr rfl))) (de_lc (own := [("_law_row", 13)]) rfl sc_law.nd (di_seq (de_var (i := 5) rfl (by first | exact Or.inl rfl | exact Or.inr (Or.inl rfl) | exact Or.inr (Or.inr rfl)))) (blkOk_by (own := [("_law_row", 13)]) (N := N_law) (by kernel_rfl)) (fun _ _ _ _ _ => (dg_name (i := 13) sc_law.nd rfl (by first | exact Or.inl rfl | exact Or.inr rfl) (by decide))) (fun _ _ _ _ _ => pts_yes) (fun _ _ _ _ _ => (de_lc (own := [("_law_number_here", 14)]) rfl sc_law.nd (di_seq (de_var (i := 13) rfl (by first | exact Or.inl rfl | exact Or.inr (Or.inl rfl) | exact Or.inr (Or.inr rfl)))) (blkOk_by (own := [("_law_number_here", 14)]) (N := N_law) (by kernel_rfl)) (fun _ _ _ _ _ => (dg_name (i := 14) sc_law.nd rfl (by first | exact Or.inl rfl | exact Or.inr rfl) (by decide))) (fun _ _ _ _ _ => pts_yes) (fun _ _ _ _ _ => (de_neg (de_var (i := 14) rfl (by first | exact Or.inl rfl | exact Or.inr (Or.inl rfl) | exact Or.inr (Or.inr rfl))))))))) (dss_one (ds_ret (de_c pe_bl (.bl _)))) dss_nil))
    (dss_cons (ds_asg (i := 8) sc_law.nd rfl (by first | exact Or.inl rfl | exact Or.inr rfl) (de_mod (de_fdiv (de_var (i := 1) rfl (by first | exact Or.inl rfl | exact Or.inr (Or.inl rfl) | exact Or.inr (Or.inr rfl))) (de_c pe_int (.int _))) (de_add (de_len rfl T.b_len (de_var (i := 3) rfl (by first | exact Or.inl rfl | exact Or.inr (Or.inl rfl) | exact Or.inr (Or.inr rfl)))) (de_c pe_int (.int _)))))
    (dss_cons (ds_par (i := 9) (j := 10) rfl sc_law.nd rfl rfl (by decide) rfl rfl (da_cons (de_call k_counted.G (hr.mono (by decide)) rfl k_counted.m k_counted.kp k_counted.b (da_cons (de_var (i := 2) rfl (by first | exact Or.inl rfl | exact Or.inr (Or.inl rfl) | exact Or.inr (Or.inr rfl))) (da_cons (de_sl (de_var (i := 3) rfl (by first | exact Or.inl rfl | exact Or.inr (Or.inl rfl) | exact Or.inr (Or.inr rfl))) do_none (do_some (de_var (i := 8) rfl (by first | exact Or.inl rfl | exact Or.inr (Or.inl rfl) | exact Or.inr (Or.inr rfl))))) da_nil)) rfl (hlen := (aC_len (aC_len aN_len)))) (da_cons (de_call k_counted.G (hr.mono (by decide)) rfl k_counted.m k_counted.kp k_counted.b (da_cons (de_var (i := 2) rfl (by first | exact Or.inl rfl | exact Or.inr (Or.inl rfl) | exact Or.inr (Or.inr rfl))) (da_cons (de_sl (de_var (i := 3) rfl (by first | exact Or.inl rfl | exact Or.inr (Or.inl rfl) | exact Or.inr (Or.inr rfl))) (do_some (de_var (i := 8) rfl (by first | exact Or.inl rfl | exact Or.inr (Or.inl rfl) | exact Or.inr (Or.inr rfl)))) do_none) da_nil)) rfl (hlen := (aC_len (aC_len aN_len)))) da_nil)) rfl)
    (dss_cons (ds_sh 10 (ds_sh 9 (ds_if (dt_ne hr.units (de_lc (own := [("_law_mine", 15), ("_law_theirs", 16)]) rfl sc_law.nd (di_zip rfl T.b_zip (de_var (i := 9) rfl (by first | exact Or.inl rfl | exact Or.inr (Or.inl rfl) | exact Or.inr (Or.inr rfl))) (de_var (i := 10) rfl (by first | exact Or.inl rfl | exact Or.inr (Or.inl rfl) | exact Or.inr (Or.inr rfl)))) (blkOk_by (own := [("_law_mine", 15), ("_law_theirs", 16)]) (N := N_law) (by kernel_rfl)) (fun _ _ _ _ _ => (dg_tup rfl (dgs_cons (dg_name (i := 15) sc_law.nd rfl (by first | exact Or.inl rfl | exact Or.inr rfl) (by decide)) (dgs_cons (dg_name (i := 16) sc_law.nd rfl (by first | exact Or.inl rfl | exact Or.inr rfl) (by decide)) dgs_nil)))) (fun _ _ _ _ _ => pts_yes) (fun _ _ _ _ _ => (de_lc (own := [("_law_one", 17), ("_law_other", 18)]) rfl sc_law.nd (di_zip rfl T.b_zip (de_var (i := 15) rfl (by first | exact Or.inl rfl | exact Or.inr (Or.inl rfl) | exact Or.inr (Or.inr rfl))) (de_var (i := 16) rfl (by first | exact Or.inl rfl | exact Or.inr (Or.inl rfl) | exact Or.inr (Or.inr rfl)))) (blkOk_by (own := [("_law_one", 17), ("_law_other", 18)]) (N := N_law) (by kernel_rfl)) (fun _ _ _ _ _ => (dg_tup rfl (dgs_cons (dg_name (i := 17) sc_law.nd rfl (by first | exact Or.inl rfl | exact Or.inr rfl) (by decide)) (dgs_cons (dg_name (i := 18) sc_law.nd rfl (by first | exact Or.inl rfl | exact Or.inr rfl) (by decide)) dgs_nil)))) (fun _ _ _ _ _ => pts_yes) (fun _ _ _ _ _ => (de_add (de_var (i := 17) rfl (by first | exact Or.inl rfl | exact Or.inr (Or.inl rfl) | exact Or.inr (Or.inr rfl))) (de_var (i := 18) rfl (by first | exact Or.inl rfl | exact Or.inr (Or.inl rfl) | exact Or.inr (Or.inr rfl)))))))) (de_var (i := 5) rfl (by first | exact Or.inl rfl | exact Or.inr (Or.inl rfl) | exact Or.inr (Or.inr rfl)))) (dss_one (ds_ret (de_c pe_bl (.bl _)))) dss_nil)))
    (dss_cons (ds_app2 (i := 6) (ps_expr (pe_bm PySem.F.plainAttrs_list PySem.F.slot_list_append PySem.F.type_list_append mt_append (pe_ix ix_list (pe_var (i := 6) rfl (by first | exact Or.inl rfl | exact Or.inr (Or.inl rfl) | exact Or.inr (Or.inr rfl))) (de_c pe_int (.int _)) (fun _ _ => rfl)) (da_cons (de_c pe_int (.int _)) da_nil))))
    (dss_cons (ds_if (dt_ne hr.units (de_sl (de_var (i := 6) rfl (by first | exact Or.inl rfl | exact Or.inr (Or.inl rfl) | exact Or.inr (Or.inr rfl))) (do_some (de_c pe_int (.int _))) do_none) (de_sl (de_var (i := 5) rfl (by first | exact Or.inl rfl | exact Or.inr (Or.inl rfl) | exact Or.inr (Or.inr rfl))) (do_some (de_c pe_int (.int _))) do_none)) (dss_one (ds_ret (de_c pe_bl (.bl _)))) dss_nil)
    (dss_cons (ds_app (i := 6) (ps_expr (pe_bm PySem.F.plainAttrs_list PySem.F.slot_list_append PySem.F.type_list_append mt_append (pe_var (i := 6) rfl (by first | exact Or.inl rfl | exact Or.inr (Or.inl rfl) | exact Or.inr (Or.inr rfl))) (da_cons (de_lst da_nil) da_nil))))
    (dss_cons (ds_if (DW.dt (dw_or (dt_ne hr.units (de_call k_counted.G (hr.mono (by decide)) rfl k_counted.m k_counted.kp k_counted.b (da_cons (de_var (i := 2) rfl (by first | exact Or.inl rfl | exact Or.inr (Or.inl rfl) | exact Or.inr (Or.inr rfl))) (da_cons (de_var (i := 4) rfl (by first | exact Or.inl rfl | exact Or.inr (Or.inl rfl) | exact Or.inr (Or.inr rfl))) da_nil)) rfl (hlen := (aC_len (aC_len aN_len)))) (de_var (i := 5) rfl (by first | exact Or.inl rfl | exact Or.inr (Or.inl rfl) | exact Or.inr (Or.inr rfl)))) (dw_or1 (dt_ne hr.units (de_var (i := 4) rfl (by first | exact Or.inl rfl | exact Or.inr (Or.inl rfl) | exact Or.inr (Or.inr rfl))) (de_var (i := 3) rfl (by first | exact Or.inl rfl | exact Or.inr (Or.inl rfl) | exact Or.inr (Or.inr rfl))))))) (dss_one (ds_ret (de_c pe_bl (.bl _)))) dss_nil)
    (dss_one (ds_ret (de_and (de_eq hr.units (de_call k_counted.G (hr.mono (by decide)) rfl k_counted.m k_counted.kp k_counted.b (da_cons (de_c pe_int (.int _)) (da_cons (de_lst (da_cons (de_tup (da_cons (de_lst (da_cons (de_c pe_int (.int _)) da_nil)) (da_cons (de_c pe_int (.int _)) da_nil))) da_nil)) da_nil)) rfl (hlen := (aC_len (aC_len aN_len)))) (de_lst (da_cons (de_lst (da_cons (de_c pe_int (.int _)) da_nil)) da_nil))) (de_one (de_eq hr.units (de_call k_counted.G (hr.mono (by decide)) rfl k_counted.m k_counted.kp k_counted.b (da_cons (de_c pe_int (.int _)) (da_cons (de_lst (da_cons (de_tup (da_cons (de_lst (da_cons (de_c pe_int (.int _)) (da_cons (de_c pe_int (.int _)) da_nil))) (da_cons (de_c pe_int (.int _)) da_nil))) (da_cons (de_tup (da_cons (de_lst (da_cons (de_c pe_int (.int _)) (da_cons (de_c pe_int (.int _)) da_nil))) (da_cons (de_c pe_int (.int _)) da_nil))) da_nil))) da_nil)) rfl (hlen := (aC_len (aC_len aN_len)))) (de_lst (da_cons (de_lst (da_cons (de_c pe_int (.int _)) (da_cons (de_c pe_int (.int _)) da_nil))) (da_cons (de_lst (da_cons (de_neg (de_c pe_int (.int _))) (da_cons (de_c pe_int (.int _)) da_nil))) da_nil)))))))))))))))))))))))))
  exact @fn_ok P w K mg base T9 "law" "law" s_law f fd N_law p_law 10 1 g_law F sc_law rfl (by decide) h3
end K01
namespace K01
open PySem EV
theorem e_number (i : Int) : F_is_number [.int i] = some (.bool true, 2) := by
  simp [F_is_number, runF, env0, g_is_number, sRet, eAnd, eU1, eVar, isi, tyN, gNot, flatD, mF]
theorem e_cand (n i : Int) : F_is_candidate [.int n, .int i] = some (.bool (decide (0 ≤ i) && decide (i < n)), 2) := by
  simp [F_is_candidate, runF, env0, g_is_candidate, sRet, eAnd, eCall, aCons, aNil, eVar, flatD, e_number, eCh, eC, mF]
  by_cases h : 0 ≤ i <;> simp [h]
theorem e_count (n : Int) (h1 : 1 ≤ n) (h2 : n ≤ 20) : F_is_count_of_candidates [.int n] = some (.bool true, 2) := by
  simp [F_is_count_of_candidates, runF, env0, g_is_count_of_candidates, sRet, eAnd, eCall, aCons, aNil, eVar, flatD, e_number, eCh, eC, mF, h1, h2]
theorem e_pair (x y : D) : F_is_pair [.tuple [x, y]] = some (.bool true, 2) := by
  simp [F_is_pair, runF, env0, g_is_pair, sRet, eAnd, eU1, eVar, isi, tyN, flatD, mF, gLen, eB2, eC, gEq, eqOk, SeqAt.shaped, PyData.canLay0, PyData.depth, noDict, PyData.eqv]
abbrev nD (x : Nat) : D := .int (x : Int)
def ordD (l : List Nat) : D := .list (l.map nD)
def balD (b : List Nat × Int) : D := .tuple [ordD b.1, .int b.2]
def bsD (bs : List (List Nat × Int)) : D := .list (bs.map balD)
def rowsD (n : Nat) (f : Nat → Nat → Int) : List D := (List.range n).map fun a => .list ((List.range n).map fun b => .int (f a b))
def tabD (n : Nat) (f : Nat → Nat → Int) : D := .list (rowsD n f)
structure Val (n : Nat) (b : List Nat × Int) : Prop where
  nd : b.1.Nodup
  ln : b.1.length = n
  lt : ∀ x ∈ b.1, x < n
  m1 : 1 ≤ b.2
theorem intsOf_nD (l : List Nat) : intsOf (l.map nD) = some (l.map fun x : Nat => (x : Int)) := by
  have := intsOf_map (l.map fun x : Nat => (x : Int))
  rw [List.map_map] at this
  exact this
theorem dedup_nodup : ∀ (l acc : List Int), (acc ++ l).Nodup → l.foldl PyProof.Rows.step_dedup acc = acc ++ l
  | [], acc, _ => by simp
  | x :: l, acc, h => by
    have hx : x ∉ acc := fun z => by
      obtain ⟨_, _, h3⟩ := List.nodup_append.mp h
      exact h3 x z x (by simp) rfl
    have e : PyProof.Rows.step_dedup acc x = acc ++ [x] := by
      unfold PyProof.Rows.step_dedup
      simp [hx]
    rw [List.foldl_cons, e, dedup_nodup l (acc ++ [x]) (by simpa using h)]
    simp
theorem firstMet_nodup (ns : List Int) (h : ns.Nodup) : PyProof.Rows.firstMet (fun i => ns.getD i 0) ns.length = ns := by
  unfold PyProof.Rows.firstMet
  have e : (List.range ns.length).map (fun i => ns.getD i 0) = ns := by
    apply List.ext_getElem
    · simp
    · intro i h1 h2
      simp at h1 ⊢
      simp [h1]
  rw [e]
  simpa using dedup_nodup ns [] (by simpa using h)
theorem nodup_cast {l : List Nat} (h : l.Nodup) : (l.map fun x : Nat => (x : Int)).Nodup :=
  List.pairwise_map.mpr (List.Pairwise.imp (fun ne e => ne (by omega)) h)
theorem gLs_ord {l : List Nat} (nd : l.Nodup) (hl : l.length ≤ 4000) : gLs (.list (l.map nD)) = some (.int l.length) := by
  unfold gLs
  simp only [intsOf_nD, Option.bind_some, List.length_map]
  rw [if_pos hl]
  have e2 := firstMet_nodup _ (nodup_cast nd)
  rw [List.length_map] at e2
  rw [e2, List.length_map]
theorem allL_cand (n : Nat) (x1 : Option (D × Nat × Bool)) : ∀ (l : List Nat), (∀ x ∈ l, x < n) → allL (gN 2) (eCall F_is_candidate (aCons (eVar 0) (aCons (eVar 2) aNil))) false [some (.int n, 0, false), x1, none] (l.map nD) = some true
  | [], _ => rfl
  | x :: l, h => by
    have hx := h x (by simp)
    have ih := allL_cand n x1 l fun y hy => h y (by simp [hy])
    have hx' : (x : Int) < n := by omega
    simp [allL, gN, eCall, aCons, aNil, eVar, flatD, e_cand, mF, hx', ih]
theorem e_unlike (n : Nat) (l : List Nat) (h : ∀ x ∈ l, x < n) (nd : l.Nodup) (hl : l.length ≤ 4000) : F_are_unlike_candidates [.int n, ordD l] = some (.bool true, 2) := by
  have e1 := allL_cand n (some (ordD l, 0, false)) l h
  have e2 := gLs_ord nd hl
  simp [F_are_unlike_candidates, runF, env0, g_are_unlike_candidates, sSeq, sSh, shE, sIf, tN, tV, eAg, iS, eVar, flatD, ordD, wE, mF] at e1 ⊢
  simp [e1, sNil, sRet, eB2, eU1, eVar, flatD, e2, gLen, gEq, eqOk, SeqAt.shaped, PyData.canLay0, PyData.depth, noDict, PyData.eqv, mF]
theorem e_order (n : Nat) (l : List Nat) (h : ∀ x ∈ l, x < n) (nd : l.Nodup) (hl : l.length = n) (hn : n ≤ 4000) : F_is_order [.int n, ordD l] = some (.bool true, 2) := by
  have e1 := e_unlike n l h nd (by omega)
  simp [F_is_order, runF, env0, g_is_order, sSeq, sIf, tO2, tN, tV, eU1, eVar, flatD, ordD, isi, tyN, gLen, eB2, gNe, eqOk, SeqAt.shaped, PyData.canLay0, PyData.depth, noDict, PyData.eqv, mF, hl, sNil] at e1 ⊢
  simp [sRet, eCall, aCons, aNil, eVar, flatD, e1]
theorem e_ballot (n : Nat) (b : List Nat × Int) (v : Val n b) (hn : n ≤ 4000) : F_is_ballot [.int n, balD b] = some (.bool true, 2) := by
  have e1 := e_order n b.1 v.lt v.nd v.ln hn
  have h1 := v.m1
  simp [F_is_ballot, runF, env0, g_is_ballot, sSeq, sIf, tN, tV, eCall, aCons, aNil, eVar, flatD, balD, e_pair, mF, sNil, sUnp, gT, gsC, gN, gsN]
  simp [ordD, flatD] at e1 ⊢
  simp [sRet, eAnd, eCall, aCons, aNil, eVar, flatD, e1, e_number, eB2, gI, eC, h1, mF]
theorem allL_bal (n : Nat) (hn : n ≤ 4000) (x1 : Option (D × Nat × Bool)) : ∀ (bs : List (List Nat × Int)), (∀ b ∈ bs, Val n b) → allL (gN 2) (eCall F_is_ballot (aCons (eVar 0) (aCons (eVar 2) aNil))) false [some (.int n, 0, false), x1, none] (bs.map balD) = some true
  | [], _ => rfl
  | b :: bs, h => by
    have hb := e_ballot n b (h b (by simp)) hn
    have ih := allL_bal n hn x1 bs fun y hy => h y (by simp [hy])
    simp [balD, flatD] at hb ih ⊢
    simp [allL, gN, eCall, aCons, aNil, eVar, flatD, mF, hb, ih]
theorem e_ballots (n : Nat) (hn : n ≤ 4000) (bs : List (List Nat × Int)) (h : ∀ b ∈ bs, Val n b) : F_are_ballots [.int n, bsD bs] = some (.bool true, 2) := by
  have e1 := allL_bal n hn (some (bsD bs, 0, false)) bs h
  simp [F_are_ballots, runF, env0, g_are_ballots, sSeq, sSh, shE, sIf, tN, tV, eAg, iS, eU1, eVar, flatD, bsD, isi, tyN, wE, mF, sNil, sRet] at e1 ⊢
  simp [e1]
end K01
namespace K01
open PySem EV
def dl (a b x y : Nat) : Int := (if x = a ∧ y = b then 1 else 0) - (if x = b ∧ y = a then 1 else 0)
theorem dl_swap (a b x y : Nat) : dl b a x y = - dl a b x y := by unfold dl; omega
def sm (f : Nat → Int) : List Nat → Int
  | [] => 0
  | b :: l => f b + sm f l
theorem sm_append (f : Nat → Int) : ∀ l k, sm f (l ++ k) = sm f l + sm f k
  | [], k => by simp [sm]
  | b :: l, k => by simp [sm, sm_append f l k]; omega
theorem sm_neg (f g : Nat → Int) (h : ∀ x, f x = - g x) : ∀ l, sm f l = - sm g l
  | [] => by simp [sm]
  | b :: l => by simp [sm, sm_neg f g h l, h b]; omega
theorem sm_rev (f : Nat → Int) : ∀ l, sm f l.reverse = sm f l
  | [] => rfl
  | b :: l => by simp [sm_append, sm_rev f l, sm]; omega
def pr (x y : Nat) : List Nat → Int
  | [] => 0
  | a :: l => sm (fun b => dl a b x y) l + pr x y l
theorem pr_snoc (x y b : Nat) : ∀ l, pr x y (l ++ [b]) = pr x y l + sm (fun a => dl a b x y) l
  | [] => by simp [pr, sm]
  | a :: l => by simp [pr, sm, pr_snoc x y b l, sm_append]; omega
theorem pr_rev (x y : Nat) : ∀ l, pr x y l.reverse = - pr x y l
  | [] => by simp [pr]
  | a :: l => by
    simp only [List.reverse_cons, pr_snoc, pr_rev x y l, sm_rev, pr]
    rw [sm_neg (fun b => dl b a x y) (fun b => dl a b x y) (fun b => dl_swap a b x y)]
    omega
def pr2 (x y : Nat) : List Nat → List Nat → Int
  | _, [] => 0
  | pre, b :: l => sm (fun a => dl a b x y) pre + pr2 x y (pre ++ [b]) l
theorem pr_pr2 (x y : Nat) : ∀ l pre, pr x y (pre ++ l) = pr x y pre + pr2 x y pre l
  | [], pre => by simp [pr2]
  | b :: l, pre => by
    have := pr_pr2 x y l (pre ++ [b])
    simp only [List.append_assoc, List.cons_append, List.nil_append] at this
    rw [this, pr_snoc, pr2]; omega
def tot : List (List Nat × Int) → Nat → Nat → Int
  | [], _, _ => 0
  | b :: bs, x, y => b.2 * pr x y b.1 + tot bs x y
theorem tot_append : ∀ (l k) (x y : Nat), tot (l ++ k) x y = tot l x y + tot k x y
  | [], k, x, y => by simp [tot]
  | b :: l, k, x, y => by simp [tot, tot_append l k]; omega
theorem tot_rev : ∀ (bs : List (List Nat × Int)) (x y : Nat), tot (bs.map fun b => (b.1.reverse, b.2)) x y = - tot bs x y
  | [], x, y => by simp [tot]
  | b :: l, x, y => by
    simp only [List.map_cons, tot, tot_rev l, pr_rev]
    rw [Int.mul_neg]; omega
def set2 (f : Nat → Nat → Int) (p q : Nat) (z : Int) : Nat → Nat → Int := fun a b => if a = p ∧ b = q then z else f a b
theorem rowsD_get {n p : Nat} {f : Nat → Nat → Int} (hp : p < n) : (rowsD n f)[p]? = some (.list ((List.range n).map fun b => .int (f p b))) := by
  unfold rowsD
  rw [List.getElem?_map, List.getElem?_range hp]; rfl
theorem rowsD_len (n : Nat) (f : Nat → Nat → Int) : (rowsD n f).length = n := by simp [rowsD]
theorem ixN_nat {n p : Nat} (hp : p < n) : L2.ixN n (p : Int) = some p := by
  unfold L2.ixN
  rw [if_pos (by omega), if_pos (by omega)]; simp
theorem rows_set {n p q : Nat} {f : Nat → Nat → Int} {z : Int} (hp : p < n) (hq : q < n) :
    (rowsD n f).set p (.list (((List.range n).map fun b => PyData.int (f p b)).set q (.int z))) = rowsD n (set2 f p q z) := by
  apply List.ext_getElem?
  intro i
  by_cases hi : i < n
  · rw [rowsD_get hi]
    by_cases e : p = i
    · subst e
      rw [List.getElem?_set_self (by rw [rowsD_len]; exact hi)]
      congr 2
      apply List.ext_getElem?
      intro j
      by_cases hj : j < n
      · by_cases e2 : q = j
        · subst e2
          rw [List.getElem?_set_self (by simpa using hj)]
          simp [hj, set2]
        · rw [List.getElem?_set_ne e2]
          simp [hj, set2, Ne.symm e2]
      · rw [List.getElem?_eq_none (by simpa using hj), List.getElem?_eq_none (by simpa using hj)]
    · rw [List.getElem?_set_ne e, rowsD_get hi]
      simp [set2, Ne.symm e]
  · rw [List.getElem?_eq_none (by simpa [rowsD_len] using hi), List.getElem?_eq_none (by simpa [rowsD_len] using hi)]
theorem st2_tab {n p q i : Nat} {f : Nat → Nat → Int} {y : Bool} {g : D → Option D} {z : Int} {ρ : EV.Env} (hp : p < n) (hq : q < n) (hg : g (.int (f p q)) = some (.int z)) :
    st2 i (rowsD n f) y p q g ρ = some (.nx (ρ.set i (some (tabD n (set2 f p q z), 2, y)))) := by
  unfold st2
  rw [rowsD_len, ixN_nat hp, Option.bind_some, rowsD_get hp, Option.bind_some]
  simp only [List.length_map, List.length_range, ixN_nat hq, Option.bind_some, List.getElem?_map, List.getElem?_range hq, Option.map_some, hg, flatD, if_true, rows_set hp hq]
  rfl
def bmp (f : Nat → Nat → Int) (a b : Nat) (m : Int) : Nat → Nat → Int := fun x y => f x y + m * dl a b x y
theorem bmp_set (f : Nat → Nat → Int) (a b : Nat) (m : Int) : set2 (set2 f a b (f a b + m)) b a (set2 f a b (f a b + m) b a - m) = bmp f a b m := by
  funext x y
  unfold set2 bmp dl
  by_cases h1 : x = a <;> by_cases h2 : y = b <;> by_cases h3 : x = b <;> by_cases h4 : y = a <;> simp_all <;> omega
end K01
namespace K01
open PySem EV
abbrev Sl := Option (D × Nat × Bool)
def tb (n : Nat) (bs : D) (f : Nat → Nat → Int) (o3 o4 o5 o6 o7 o8 : Sl) : EV.Env := [some (.int n, 0, false), some (bs, 0, false), some (tabD n f, 2, true), o3, o4, o5, o6, o7, o8]
def inT : Ss := sSeq (sAug2 2 (fun i j => i + j) (eVar 7) (eVar 8) (eVar 4)) (sAug2 2 (fun i j => i - j) (eVar 8) (eVar 7) (eVar 4))
theorem aug2_tab {n p q i : Nat} {f : Nat → Nat → Int} {y : Bool} {op : Int → Int → Int} {fp fq fe : Sm} {m : Int} {mp mq me : Md} {ρ : EV.Env} (hp : p < n) (hq : q < n) (hρ : ρ[i]? = some (some (tabD n f, 2, y))) (h1 : fp ρ = some (nD p, mp)) (h2 : fq ρ = some (nD q, mq)) (h3 : fe ρ = some (.int m, me)) :
    sAug2 i op fp fq fe ρ = some (.nx (ρ.set i (some (tabD n (set2 f p q (op (f p q) m)), 2, y)))) := by
  simp only [sAug2, h1, h2, h3, hρ, tabD, Option.bind_some]
  exact st2_tab hp hq rfl
theorem set2_tab {n p q i : Nat} {f : Nat → Nat → Int} {y : Bool} {fp fq fe : Sm} {m : Int} {mp mq me : Md} {ρ : EV.Env} (hp : p < n) (hq : q < n) (hρ : ρ[i]? = some (some (tabD n f, 2, y))) (h1 : fp ρ = some (nD p, mp)) (h2 : fq ρ = some (nD q, mq)) (h3 : fe ρ = some (.int m, me)) :
    sSet2 i fp fq fe ρ = some (.nx (ρ.set i (some (tabD n (set2 f p q m), 2, y)))) := by
  simp only [sSet2, h1, h2, h3, hρ, tabD, Option.bind_some, flatD, if_true]
  exact st2_tab hp hq rfl
theorem inT_one {n a b : Nat} {m : Int} {bs : D} {f : Nat → Nat → Int} {o3 o5 o6 : Sl} {y7 y8 y4 : Nat × Bool} (ha : a < n) (hb : b < n) :
    inT (tb n bs f o3 (some (.int m, y4)) o5 o6 (some (nD a, y7)) (some (nD b, y8))) = some (.nx (tb n bs (bmp f a b m) o3 (some (.int m, y4)) o5 o6 (some (nD a, y7)) (some (nD b, y8)))) := by
  unfold inT sSeq
  rw [aug2_tab (p := a) (q := b) (m := m) ha hb rfl rfl rfl rfl, Option.bind_some]
  show sAug2 2 (fun i j => i - j) (eVar 8) (eVar 7) (eVar 4) (tb n bs (set2 f a b (f a b + m)) o3 (some (.int m, y4)) o5 o6 (some (nD a, y7)) (some (nD b, y8))) = _
  rw [aug2_tab (p := b) (q := a) (m := m) hb ha rfl rfl rfl rfl, bmp_set]
  rfl
theorem inT_loop {n a : Nat} {m : Int} {bs : D} {o3 o5 o6 : Sl} {y7 y4 : Nat × Bool} {y : Bool} (ha : a < n) : ∀ (l : List Nat) (f : Nat → Nat → Int) (o8 : Sl), (∀ x ∈ l, x < n) →
    ∃ o8', loopF (gN 8) inT y (l.map nD) (tb n bs f o3 (some (.int m, y4)) o5 o6 (some (nD a, y7)) o8) = some (.nx (tb n bs (fun x y => f x y + m * sm (fun b => dl a b x y) l) o3 (some (.int m, y4)) o5 o6 (some (nD a, y7)) o8'))
  | [], f, o8, _ => ⟨o8, by simp [loopF, sm]⟩
  | b :: l, f, o8, h => by
    have hb := h b (by simp)
    obtain ⟨o8', ih⟩ := inT_loop (bs := bs) (m := m) (o3 := o3) (o5 := o5) (o6 := o6) (y7 := y7) (y4 := y4) (y := y) ha l (bmp f a b m) (some (nD b, 0, y)) fun x hx => h x (by simp [hx])
    refine ⟨o8', ?_⟩
    have e := inT_one (bs := bs) (f := f) (m := m) (o3 := o3) (o5 := o5) (o6 := o6) (y7 := y7) (y4 := y4) (y8 := (0, y)) ha hb
    have g : gN 8 (nD b) y (tb n bs f o3 (some (.int m, y4)) o5 o6 (some (nD a, y7)) o8) = some (tb n bs f o3 (some (.int m, y4)) o5 o6 (some (nD a, y7)) (some (nD b, 0, y))) := rfl
    rw [List.map_cons, loopF, g, Option.bind_some, e, Option.bind_some]
    show loopF _ _ _ _ _ = _
    rw [ih]
    congr 3
    funext x y
    simp only [bmp, sm, Int.mul_add]; omega
theorem all_flat (l : List Nat) : (l.map nD).all flatD = true := by simp [flatD]
theorem cut_from (l : List D) (k : Nat) (h : k ≤ l.length) : cutG l (some ((k : Int))) none = l.drop k := by
  unfold cutG
  rw [HT.sIx_nat, HT.sIx_none, Nat.min_eq_left h]
  exact List.take_of_length_le (by simp)
theorem cut_to (l : List D) (k : Nat) (h : k ≤ l.length) : cutG l none (some ((k : Int))) = l.take k := by
  unfold cutG
  rw [HT.sIx_nat, HT.sIx_none, Nat.min_eq_left h]
  simp
def midT : Ss := sFor (iS (eSl (eVar 3) (oS (eB2 gAdd (eVar 6) (eC (.int 1)))) oN)) (gN 8) inT
theorem midT_loop {n : Nat} {m : Int} {bs : D} {o5 : Sl} {y4 : Nat × Bool} {y yo : Bool} : ∀ (suf pre : List Nat) (f : Nat → Nat → Int) (o6 o7 o8 : Sl), (∀ x ∈ pre ++ suf, x < n) →
    ∃ o6' o7' o8', loopF (gT 2 (gsC (gN 6) (gsC (gN 7) gsN))) midT y (((suf.map nD).zipIdx pre.length).map fun x => .tuple [.int (x.2 : Nat), x.1]) (tb n bs f (some (ordD (pre ++ suf), 0, yo)) (some (.int m, y4)) o5 o6 o7 o8) = some (.nx (tb n bs (fun x y => f x y + m * pr x y suf) (some (ordD (pre ++ suf), 0, yo)) (some (.int m, y4)) o5 o6' o7' o8'))
  | [], pre, f, o6, o7, o8, _ => ⟨o6, o7, o8, by simp [loopF, pr]⟩
  | a :: suf, pre, f, o6, o7, o8, h => by
    have ha := h a (by simp)
    obtain ⟨o8a, e1⟩ := inT_loop (bs := bs) (m := m) (o3 := some (ordD (pre ++ a :: suf), 0, yo)) (o5 := o5) (o6 := some (nD pre.length, 0, y)) (y7 := (0, y)) (y4 := y4) (y := true) ha suf f o8 fun x hx => h x (by simp [hx])
    obtain ⟨o6', o7', o8', ih⟩ := midT_loop (bs := bs) (m := m) (o5 := o5) (y4 := y4) (y := y) (yo := yo) suf (pre ++ [a]) (fun x y => f x y + m * sm (fun b => dl a b x y) suf) (some (nD pre.length, 0, y)) (some (nD a, 0, y)) o8a (by simpa using h)
    refine ⟨o6', o7', o8', ?_⟩
    have hm : midT (tb n bs f (some (ordD (pre ++ a :: suf), 0, yo)) (some (.int m, y4)) o5 (some (nD pre.length, 0, y)) (some (nD a, 0, y)) o8) = loopF (gN 8) inT true (suf.map nD) (tb n bs f (some (ordD (pre ++ a :: suf), 0, yo)) (some (.int m, y4)) o5 (some (nD pre.length, 0, y)) (some (nD a, 0, y)) o8) := by
      have c : cutG ((pre ++ a :: suf).map nD) (some ((pre.length : Int) + 1)) none = suf.map nD := by
        have := cut_from ((pre ++ a :: suf).map nD) (pre.length + 1) (by simp)
        rw [show ((pre.length : Int) + 1) = ((pre.length + 1 : Nat) : Int) by omega, this]
        rw [← List.map_drop]
        congr 1
        rw [show pre ++ a :: suf = (pre ++ [a]) ++ suf by simp]
        exact List.drop_left' (by simp)
      simp only [midT, sFor, iS, eSl, oS, oN, eB2, gI, eC, eVar, tb, ordD, flatD, List.getElem?_cons_succ, List.getElem?_cons_zero, Option.bind_some, Option.map_some, if_true, c, mCp, all_flat]
    rw [List.map_cons, List.zipIdx_cons, List.map_cons, loopF]
    have g : gT 2 (gsC (gN 6) (gsC (gN 7) gsN)) (.tuple [.int ((pre.length : Nat)), nD a]) y (tb n bs f (some (ordD (pre ++ a :: suf), 0, yo)) (some (.int m, y4)) o5 o6 o7 o8) = some (tb n bs f (some (ordD (pre ++ a :: suf), 0, yo)) (some (.int m, y4)) o5 (some (nD pre.length, 0, y)) (some (nD a, 0, y)) o8) := rfl
    rw [g, Option.bind_some, hm, e1, Option.bind_some]
    show loopF _ _ _ _ _ = _
    simp only [List.length_append, List.length_cons, List.length_nil, Nat.zero_add, List.append_assoc, List.cons_append, List.nil_append] at ih
    rw [ih]
    congr 3
    funext x y
    simp only [pr, Int.mul_add]; omega
def outT : Ss := sSh 3 (sFor (iE (eVar 3)) (gT 2 (gsC (gN 6) (gsC (gN 7) gsN))) midT)
theorem outT_loop {n : Nat} {d : D} {y : Bool} : ∀ (bs : List (List Nat × Int)) (f : Nat → Nat → Int) (o3 o4 o5 o6 o7 o8 : Sl), (∀ b ∈ bs, Val n b) →
    ∃ o3' o4' o5' o6' o7' o8', loopF (gT 2 (gsC (gN 3) (gsC (gN 4) gsN))) outT y (bs.map balD) (tb n d f o3 o4 o5 o6 o7 o8) = some (.nx (tb n d (fun x y => f x y + tot bs x y) o3' o4' o5' o6' o7' o8'))
  | [], f, o3, o4, o5, o6, o7, o8, _ => ⟨o3, o4, o5, o6, o7, o8, by simp [loopF, tot]⟩
  | b :: bs, f, o3, o4, o5, o6, o7, o8, h => by
    have v := h b (by simp)
    obtain ⟨o6a, o7a, o8a, e1⟩ := midT_loop (bs := d) (m := b.2) (o5 := o5) (y4 := (0, y)) (y := y) (yo := y) b.1 [] f o6 o7 o8 (by simpa using v.lt)
    obtain ⟨o3', o4', o5', o6', o7', o8', ih⟩ := outT_loop (d := d) (y := y) bs (fun x y => f x y + b.2 * pr x y b.1) (some (ordD b.1, 0, y)) (some (.int b.2, 0, y)) o5 o6a o7a o8a fun x hx => h x (by simp [hx])
    refine ⟨o3', o4', o5', o6', o7', o8', ?_⟩
    have g : gT 2 (gsC (gN 3) (gsC (gN 4) gsN)) (balD b) y (tb n d f o3 o4 o5 o6 o7 o8) = some (tb n d f (some (ordD b.1, 0, y)) (some (.int b.2, 0, y)) o5 o6 o7 o8) := rfl
    have hm : outT (tb n d f (some (ordD b.1, 0, y)) (some (.int b.2, 0, y)) o5 o6 o7 o8) = loopF (gT 2 (gsC (gN 6) (gsC (gN 7) gsN))) midT y (((b.1.map nD).zipIdx 0).map fun x => .tuple [.int (x.2 : Nat), x.1]) (tb n d f (some (ordD b.1, 0, y)) (some (.int b.2, 0, y)) o5 o6 o7 o8) := by
      simp only [outT, sSh, shE, sFor, iE, eVar, tb, ordD, flatD, List.getElem?_cons_succ, List.getElem?_cons_zero, Option.bind_some, if_true, enD, List.set_cons_succ, List.set_cons_zero]
      rfl
    rw [List.map_cons, loopF, g, Option.bind_some, hm]
    simp only [List.nil_append, List.length_nil] at e1
    rw [e1, Option.bind_some]
    show loopF _ _ _ _ _ = _
    rw [ih]
    congr 3
    funext x y
    simp only [tot]; omega
theorem compL_map {g : Gm} {fe : Sm} {y : Bool} {ρ : EV.Env} {α : Type} (c : α → D) (e : α → D × Md) : ∀ (l : List α), (∀ x ∈ l, ∃ ρ1, g (c x) y ρ = some ρ1 ∧ fe ρ1 = some (e x)) → compL g tT fe y ρ (l.map c) = some (l.map e)
  | [], _ => rfl
  | x :: l, h => by
    obtain ⟨ρ1, h1, h2⟩ := h x (by simp)
    have ih := compL_map (g := g) (fe := fe) (y := y) (ρ := ρ) c e l fun z hz => h z (by simp [hz])
    simp only [List.map_cons, compL, h1, Option.bind_some, tT, if_true, h2, ih]
end K01
namespace K01
open PySem EV
theorem elOk_own {α : Type} (c : α → D × Md) : ∀ l : List α, (∀ x ∈ l, ∃ n y, (c x).2 = .own n y) → elOk (l.map c) = true
  | [], _ => rfl
  | x :: l, h => by
    obtain ⟨n, y, e⟩ := h x (by simp)
    have ih := elOk_own c l fun z hz => h z (by simp [hz])
    rw [List.map_cons]
    unfold elOk
    simp [e, ih]
theorem lvl1_own {α : Type} (c : α → D × Md) : ∀ l : List α, (∀ x ∈ l, ∃ y, (c x).2 = .own 1 y) → lvl1 (l.map c) = true
  | [], _ => rfl
  | x :: l, h => by
    obtain ⟨y, e⟩ := h x (by simp)
    have ih := lvl1_own c l fun z hz => h z (by simp [hz])
    rw [List.map_cons]
    unfold lvl1
    simp [e, ih]
theorem yAll_own {α : Type} (c : α → D × Md) : ∀ l : List α, (∀ x ∈ l, ∃ n, (c x).2 = .own n true) → yAll (l.map c) = true
  | [], _ => rfl
  | x :: l, h => by
    obtain ⟨y, e⟩ := h x (by simp)
    have ih := yAll_own c l fun z hz => h z (by simp [hz])
    rw [List.map_cons]
    unfold yAll
    simp [e, ih]
theorem flA_rows {α : Type} (c : α → D × Md) (x : α) (l : List α) (h : flatD (c x).1 = false) : flA ((x :: l).map c) = false := by
  rw [List.map_cons]
  unfold flA
  simp [h]
theorem row0 (n : Nat) : (List.replicate n [PyData.int 0]).flatten = (List.range n).map fun _ => .int 0 := by
  apply List.ext_getElem?
  intro i
  induction n generalizing i with
  | zero => rfl
  | succ n ih =>
    rw [List.replicate_succ, List.flatten_cons]
    cases i with
    | zero => simp [List.range_succ_eq_map]
    | succ i =>
      simp only [List.cons_append, List.nil_append, List.getElem?_cons_succ, ih]
      simp [List.getElem?_range, Nat.succ_lt_succ_iff]
      by_cases h : i < n <;> simp [h, List.getElem?_range]
theorem rgD2_0 (n : Nat) : rgD2 0 n = (List.range n).map nD := by
  unfold rgD2
  apply List.map_congr_left
  intro i _
  simp
theorem zeros {i j n : Nat} {fe : Sm} {ρ : EV.Env} {x0 : Nat × Bool} (hn : 1 ≤ n) (hn2 : n ≤ 20) (h0 : ρ[i]? = some (some (.int n, x0))) (hj : (wE ρ [j])[i]? = some (some (.int n, x0))) (hne : j ≠ i) :
    eLc (iR1 (eVar i)) [j] (gN j) tT (eRep (eLst (aCons (eC (.int 0)) aNil)) (eVar i)) ρ = some (tabD n fun _ _ => 0, .own 2 true) := by
  have c := compL_map (g := gN j) (fe := eRep (eLst (aCons (eC (.int 0)) aNil)) (eVar i)) (y := true) (ρ := wE ρ [j]) nD (fun _ => (.list ((List.range n).map fun _ => .int 0), .own 1 true)) (List.range n) fun x _ => by
    refine ⟨_, rfl, ?_⟩
    have g : ((wE ρ [j]).set j (some (nD x, 0, true)))[i]? = some (some (.int n, x0)) := by rw [List.getElem?_set_ne hne]; exact hj
    have hr : eVar i ((wE ρ [j]).set j (some (nD x, 0, true))) = some (.int n, mF) := by
      unfold eVar; rw [g]; rfl
    have hl : (eLst (aCons (eC (.int 0)) aNil)) ((wE ρ [j]).set j (some (nD x, 0, true))) = some (.list [.int 0], .own 1 true) :=
      lst_of (a_cons rfl a_nil) (by simp) rfl
    show eRep _ _ _ = _
    rw [rep_of hl hr rfl (by omega), row0]
  have hr : eVar i ρ = some (.int n, mF) := by
    unfold eVar; rw [h0]; rfl
  obtain ⟨k, rfl⟩ : ∃ k, n = k + 1 := ⟨n - 1, by omega⟩
  have f1 := flA_rows (fun _ : Nat => ((PyData.list ((List.range (k + 1)).map fun _ => .int 0), Md.own 1 true) : D × Md)) 0 ((List.range k).map Nat.succ) rfl
  rw [← List.range_succ_eq_map] at f1
  have hm : mkL ((List.range (k + 1)).map (fun _ : Nat => ((PyData.list ((List.range (k + 1)).map fun _ => .int 0), Md.own 1 true) : D × Md))) = some (.own 2 true) := by
    unfold mkL
    rw [if_neg (by rw [f1]; decide), if_pos (lvl1_own _ _ fun _ _ => ⟨true, rfl⟩), yAll_own _ _ fun _ _ => ⟨1, rfl⟩]
  rw [lc_of (ir1_of hr (by omega)) (by rw [rgD2_0]; exact c) (by simp; omega) (elOk_own _ _ fun _ _ => ⟨1, true, rfl⟩) hm, List.map_map]
  rfl
theorem e_tallied (n : Nat) (hn : 1 ≤ n) (hn2 : n ≤ 20) (bs : List (List Nat × Int)) (h : ∀ b ∈ bs, Val n b) : F_tallied [.int n, bsD bs] = some (tabD n (tot bs), 2) := by
  have z := zeros (i := 0) (j := 5) (n := n) (fe := eC .none) (ρ := [some (.int n, 0, false), some (bsD bs, 0, false), none, none, none, none, none, none, none]) (x0 := (0, false)) hn hn2 rfl rfl (by decide)
  obtain ⟨o3, o4, o5, o6, o7, o8, e1⟩ := outT_loop (n := n) (d := bsD bs) (y := false) bs (fun _ _ => 0) none none none none none none h
  simp only [Int.zero_add] at e1
  have e2 : sFor (iS (eVar 1)) (gT 2 (gsC (gN 3) (gsC (gN 4) gsN))) outT (tb n (bsD bs) (fun _ _ => 0) none none none none none none) = some (.nx (tb n (bsD bs) (tot bs) o3 o4 o5 o6 o7 o8)) := by
    rw [← e1]; rfl
  have g : g_tallied [some (.int n, 0, false), some (bsD bs, 0, false), none, none, none, none, none, none, none] = some (.rt (tabD n (tot bs)) 2) := by
    show sSeq (sSh 0 (sAsg 2 (eLc (iR1 (eVar 0)) [5] (gN 5) tT (eRep (eLst (aCons (eC (.int 0)) aNil)) (eVar 0))))) (sSeq (sSh 1 (sFor (iS (eVar 1)) (gT 2 (gsC (gN 3) (gsC (gN 4) gsN))) outT)) (sRetV 2)) _ = _
    have s1 : sSh 0 (sAsg 2 (eLc (iR1 (eVar 0)) [5] (gN 5) tT (eRep (eLst (aCons (eC (.int 0)) aNil)) (eVar 0)))) [some (.int n, 0, false), some (bsD bs, 0, false), none, none, none, none, none, none, none] = some (.nx (tb n (bsD bs) (fun _ _ => 0) none none none none none none)) := by
      show sAsg 2 (eLc (iR1 (eVar 0)) [5] (gN 5) tT (eRep (eLst (aCons (eC (.int 0)) aNil)) (eVar 0))) [some (.int n, 0, false), some (bsD bs, 0, false), none, none, none, none, none, none, none] = _
      unfold sAsg
      rw [z]; rfl
    unfold sSeq
    rw [s1, Option.bind_some]
    show sSeq (sSh 1 (sFor (iS (eVar 1)) (gT 2 (gsC (gN 3) (gsC (gN 4) gsN))) outT)) (sRetV 2) (tb n (bsD bs) (fun _ _ => 0) none none none none none none) = _
    have s2 : sSh 1 (sFor (iS (eVar 1)) (gT 2 (gsC (gN 3) (gsC (gN 4) gsN))) outT) (tb n (bsD bs) (fun _ _ => 0) none none none none none none) = _ := e2
    unfold sSeq
    rw [s2]
    rfl
  unfold F_tallied runF
  show (g_tallied [some (.int n, 0, false), some (bsD bs, 0, false), none, none, none, none, none, none, none]).bind _ = _
  rw [g]; rfl
theorem e_need (n : Nat) (hn : 1 ≤ n) (hn2 : n ≤ 20) (bs : List (List Nat × Int)) (h : ∀ b ∈ bs, Val n b) : F_need_ballots [.int n, bsD bs] = some (.none, 0) := by
  have e1 := e_count n (by omega) (by omega)
  have e2 := e_ballots n (by omega) bs h
  have v0 : eVar 0 [some (.int n, 0, false), some (bsD bs, 0, false)] = some (.int n, mF) := var_flat rfl rfl
  have v1 : eVar 1 [some (.int n, 0, false), some (bsD bs, 0, false)] = some (bsD bs, .own 0 false) := var_sh rfl rfl
  have g : g_need_ballots [some (.int n, 0, false), some (bsD bs, 0, false)] = some (.nx [some (.int n, 0, false), some (bsD bs, 0, false)]) := by
    unfold g_need_ballots
    rw [seq_nx (ρ' := [some (.int n, 0, false), some (bsD bs, 0, false)])]
    · rw [if_f (tn_of (tv_of (call_of (a_cons v0 (a_cons v1 a_nil)) rfl e2)))]; rfl
    · rw [if_f (tn_of (tv_of (call_of (a_cons v0 a_nil) rfl e1)))]; rfl
  unfold F_need_ballots runF
  show (g_need_ballots [some (.int n, 0, false), some (bsD bs, 0, false)]).bind _ = _
  rw [g]; rfl
theorem e_counted (n : Nat) (hn : 1 ≤ n) (hn2 : n ≤ 20) (bs : List (List Nat × Int)) (h : ∀ b ∈ bs, Val n b) : F_counted [.int n, bsD bs] = some (tabD n (tot bs), 2) := by
  have e2 := e_need n hn hn2 bs h
  have e3 := e_tallied n hn hn2 bs h
  refine run_rt ?_
  show g_counted [some (.int n, 0, false), some (bsD bs, 0, false)] = _
  have v0 : eVar 0 [some (.int n, 0, false), some (bsD bs, 0, false)] = some (.int n, mF) := var_flat rfl rfl
  have v1 : eVar 1 [some (.int n, 0, false), some (bsD bs, 0, false)] = some (bsD bs, .own 0 false) := var_sh rfl rfl
  unfold g_counted
  rw [seq_nx (ρ' := [some (.int n, 0, false), some (bsD bs, 0, false)])]
  · exact ret_of (call_of (a_cons v0 (a_cons v1 a_nil)) rfl e3)
  · exact ex_of (call_of (a_cons v0 (a_cons v1 a_nil)) rfl e2)
def lb (n : Nat) (bs : D) (f : Nat → Nat → Int) (o3 o4 o5 o6 o7 : Sl) : EV.Env := [some (.int n, 0, false), some (bs, 0, false), some (tabD n f, 2, true), o3, o4, o5, o6, o7]
def inL : Ss := sSeq (sSet2 2 (eVar 7) (eVar 5) (eB2 gAdd (eIx (eIx (eVar 2) (eVar 7)) (eVar 5)) (eVar 4))) (sSet2 2 (eVar 5) (eVar 7) (eB2 gSub (eIx (eIx (eVar 2) (eVar 5)) (eVar 7)) (eVar 4)))
theorem atI_tab {n p : Nat} {f : Nat → Nat → Int} (hp : p < n) : L2.atI (rowsD n f) (p : Int) = some (.list ((List.range n).map fun b => .int (f p b))) := L2.atI_nat (rowsD_get hp)
theorem atI_row {n p : Nat} {f : Nat → Int} (hp : p < n) : L2.atI ((List.range n).map fun b => PyData.int (f b)) (p : Int) = some (.int (f p)) := L2.atI_nat (by simp [hp])
theorem ix2_tab {n p q i : Nat} {f : Nat → Nat → Int} {y : Bool} {fp fq : Sm} {mp mq : Md} {ρ : EV.Env} (hp : p < n) (hq : q < n) (hρ : ρ[i]? = some (some (tabD n f, 2, y))) (h1 : fp ρ = some (nD p, mp)) (h2 : fq ρ = some (nD q, mq)) :
    eIx (eIx (eVar i) fp) fq ρ = some (.int (f p q), mF) := by
  simp only [eIx, eVar, hρ, h1, h2, Option.bind_some, ixD, tabD, atI_tab hp, Option.map_some, atI_row hq, mIx, flatD, if_true]
theorem inL_one {n a b : Nat} {m : Int} {bs : D} {f : Nat → Nat → Int} {o3 o6 : Sl} {y5 y7 y4 : Nat × Bool} (ha : a < n) (hb : b < n) :
    inL (lb n bs f o3 (some (.int m, y4)) (some (nD b, y5)) o6 (some (nD a, y7))) = some (.nx (lb n bs (bmp f a b m) o3 (some (.int m, y4)) (some (nD b, y5)) o6 (some (nD a, y7)))) := by
  unfold inL sSeq
  have x1 : eB2 gAdd (eIx (eIx (eVar 2) (eVar 7)) (eVar 5)) (eVar 4) (lb n bs f o3 (some (.int m, y4)) (some (nD b, y5)) o6 (some (nD a, y7))) = some (.int (f a b + m), mF) := by
    unfold eB2
    rw [ix2_tab (p := a) (q := b) (f := f) ha hb rfl rfl rfl]; rfl
  have x2 : eB2 gSub (eIx (eIx (eVar 2) (eVar 5)) (eVar 7)) (eVar 4) (lb n bs (set2 f a b (f a b + m)) o3 (some (.int m, y4)) (some (nD b, y5)) o6 (some (nD a, y7))) = some (.int (set2 f a b (f a b + m) b a - m), mF) := by
    unfold eB2
    rw [ix2_tab (p := b) (q := a) (f := set2 f a b (f a b + m)) hb ha rfl rfl rfl]; rfl
  rw [set2_tab (p := a) (q := b) ha hb rfl rfl rfl x1, Option.bind_some]
  show sSet2 2 (eVar 5) (eVar 7) (eB2 gSub (eIx (eIx (eVar 2) (eVar 5)) (eVar 7)) (eVar 4)) (lb n bs (set2 f a b (f a b + m)) o3 (some (.int m, y4)) (some (nD b, y5)) o6 (some (nD a, y7))) = _
  rw [set2_tab (p := b) (q := a) hb ha rfl rfl rfl x2, bmp_set]
  rfl
theorem inL_loop {n b : Nat} {m : Int} {bs : D} {o3 o6 : Sl} {y5 y4 : Nat × Bool} {y : Bool} (hb : b < n) : ∀ (l : List Nat) (f : Nat → Nat → Int) (o7 : Sl), (∀ x ∈ l, x < n) →
    ∃ o7', loopF (gN 7) inL y (l.map nD) (lb n bs f o3 (some (.int m, y4)) (some (nD b, y5)) o6 o7) = some (.nx (lb n bs (fun x y => f x y + m * sm (fun a => dl a b x y) l) o3 (some (.int m, y4)) (some (nD b, y5)) o6 o7'))
  | [], f, o7, _ => ⟨o7, by simp [loopF, sm]⟩
  | a :: l, f, o7, h => by
    have ha := h a (by simp)
    obtain ⟨o7', ih⟩ := inL_loop (bs := bs) (m := m) (o3 := o3) (o6 := o6) (y5 := y5) (y4 := y4) (y := y) hb l (bmp f a b m) (some (nD a, 0, y)) fun x hx => h x (by simp [hx])
    refine ⟨o7', ?_⟩
    have e := inL_one (bs := bs) (f := f) (m := m) (o3 := o3) (o6 := o6) (y5 := y5) (y4 := y4) (y7 := (0, y)) ha hb
    have g : gN 7 (nD a) y (lb n bs f o3 (some (.int m, y4)) (some (nD b, y5)) o6 o7) = some (lb n bs f o3 (some (.int m, y4)) (some (nD b, y5)) o6 (some (nD a, 0, y))) := rfl
    rw [List.map_cons, loopF, g, Option.bind_some, e, Option.bind_some]
    show loopF _ _ _ _ _ = _
    rw [ih]
    congr 3
    funext x y
    simp only [bmp, sm, Int.mul_add]; omega
def midL : Ss := sFor (iS (eSl (eVar 3) oN (oS (eVar 6)))) (gN 7) inL
theorem midL_loop {n : Nat} {m : Int} {bs : D} {y4 : Nat × Bool} {y yo : Bool} : ∀ (suf pre : List Nat) (f : Nat → Nat → Int) (o5 o6 o7 : Sl), (∀ x ∈ pre ++ suf, x < n) →
    ∃ o5' o6' o7', loopF (gT 2 (gsC (gN 6) (gsC (gN 5) gsN))) midL y (((suf.map nD).zipIdx pre.length).map fun x => .tuple [.int (x.2 : Nat), x.1]) (lb n bs f (some (ordD (pre ++ suf), 0, yo)) (some (.int m, y4)) o5 o6 o7) = some (.nx (lb n bs (fun x y => f x y + m * pr2 x y pre suf) (some (ordD (pre ++ suf), 0, yo)) (some (.int m, y4)) o5' o6' o7'))
  | [], pre, f, o5, o6, o7, _ => ⟨o5, o6, o7, by simp [loopF, pr2]⟩
  | b :: suf, pre, f, o5, o6, o7, h => by
    have hb := h b (by simp)
    obtain ⟨o7a, e1⟩ := inL_loop (bs := bs) (m := m) (o3 := some (ordD (pre ++ b :: suf), 0, yo)) (o6 := some (nD pre.length, 0, y)) (y5 := (0, y)) (y4 := y4) (y := true) hb pre f o7 fun x hx => h x (by simp [hx])
    obtain ⟨o5', o6', o7', ih⟩ := midL_loop (bs := bs) (m := m) (y4 := y4) (y := y) (yo := yo) suf (pre ++ [b]) (fun x y => f x y + m * sm (fun a => dl a b x y) pre) (some (nD b, 0, y)) (some (nD pre.length, 0, y)) o7a (by simpa using h)
    refine ⟨o5', o6', o7', ?_⟩
    have hm : midL (lb n bs f (some (ordD (pre ++ b :: suf), 0, yo)) (some (.int m, y4)) (some (nD b, 0, y)) (some (nD pre.length, 0, y)) o7) = loopF (gN 7) inL true (pre.map nD) (lb n bs f (some (ordD (pre ++ b :: suf), 0, yo)) (some (.int m, y4)) (some (nD b, 0, y)) (some (nD pre.length, 0, y)) o7) := by
      have c : cutG ((pre ++ b :: suf).map nD) none (some (pre.length : Int)) = pre.map nD := by
        rw [cut_to ((pre ++ b :: suf).map nD) pre.length (by simp)]
        rw [← List.map_take]
        congr 1
        exact List.take_left' rfl
      simp only [midL, sFor, iS, eSl, oS, oN, eVar, lb, ordD, flatD, List.getElem?_cons_succ, List.getElem?_cons_zero, Option.bind_some, Option.map_some, if_true, c, mCp, all_flat]
    rw [List.map_cons, List.zipIdx_cons, List.map_cons, loopF]
    have g : gT 2 (gsC (gN 6) (gsC (gN 5) gsN)) (.tuple [.int ((pre.length : Nat)), nD b]) y (lb n bs f (some (ordD (pre ++ b :: suf), 0, yo)) (some (.int m, y4)) o5 o6 o7) = some (lb n bs f (some (ordD (pre ++ b :: suf), 0, yo)) (some (.int m, y4)) (some (nD b, 0, y)) (some (nD pre.length, 0, y)) o7) := rfl
    rw [g, Option.bind_some, hm, e1, Option.bind_some]
    show loopF _ _ _ _ _ = _
    simp only [List.length_append, List.length_cons, List.length_nil, Nat.zero_add, List.append_assoc, List.cons_append, List.nil_append] at ih
    rw [ih]
    congr 3
    funext x y
    simp only [pr2, Int.mul_add]; omega
def outL : Ss := sSh 3 (sFor (iE (eVar 3)) (gT 2 (gsC (gN 6) (gsC (gN 5) gsN))) midL)
theorem outL_loop {n : Nat} {d : D} {y : Bool} : ∀ (bs : List (List Nat × Int)) (f : Nat → Nat → Int) (o3 o4 o5 o6 o7 : Sl), (∀ b ∈ bs, Val n b) →
    ∃ o3' o4' o5' o6' o7', loopF (gT 2 (gsC (gN 3) (gsC (gN 4) gsN))) outL y (bs.map balD) (lb n d f o3 o4 o5 o6 o7) = some (.nx (lb n d (fun x y => f x y + tot bs x y) o3' o4' o5' o6' o7'))
  | [], f, o3, o4, o5, o6, o7, _ => ⟨o3, o4, o5, o6, o7, by simp [loopF, tot]⟩
  | b :: bs, f, o3, o4, o5, o6, o7, h => by
    have v := h b (by simp)
    obtain ⟨o5a, o6a, o7a, e1⟩ := midL_loop (bs := d) (m := b.2) (y4 := (0, y)) (y := y) (yo := y) b.1 [] f o5 o6 o7 (by simpa using v.lt)
    obtain ⟨o3', o4', o5', o6', o7', ih⟩ := outL_loop (d := d) (y := y) bs (fun x y => f x y + b.2 * pr x y b.1) (some (ordD b.1, 0, y)) (some (.int b.2, 0, y)) o5a o6a o7a fun x hx => h x (by simp [hx])
    refine ⟨o3', o4', o5', o6', o7', ?_⟩
    have g : gT 2 (gsC (gN 3) (gsC (gN 4) gsN)) (balD b) y (lb n d f o3 o4 o5 o6 o7) = some (lb n d f (some (ordD b.1, 0, y)) (some (.int b.2, 0, y)) o5 o6 o7) := rfl
    have hm : outL (lb n d f (some (ordD b.1, 0, y)) (some (.int b.2, 0, y)) o5 o6 o7) = loopF (gT 2 (gsC (gN 6) (gsC (gN 5) gsN))) midL y (((b.1.map nD).zipIdx 0).map fun x => .tuple [.int (x.2 : Nat), x.1]) (lb n d f (some (ordD b.1, 0, y)) (some (.int b.2, 0, y)) o5 o6 o7) := by
      simp only [outL, sSh, shE, sFor, iE, eVar, lb, ordD, flatD, List.getElem?_cons_succ, List.getElem?_cons_zero, Option.bind_some, if_true, enD, List.set_cons_succ, List.set_cons_zero]
      rfl
    rw [List.map_cons, loopF, g, Option.bind_some, hm]
    simp only [List.nil_append, List.length_nil] at e1
    rw [e1, Option.bind_some]
    show loopF _ _ _ _ _ = _
    have q : ∀ x y, pr2 x y [] b.1 = pr x y b.1 := fun x y => by
      have := pr_pr2 x y b.1 []
      simp [pr] at this
      exact this.symm
    simp only [q]
    rw [ih]
    congr 3
    funext x y
    simp only [tot]; omega
theorem e_lcount (n : Nat) (hn : 1 ≤ n) (hn2 : n ≤ 20) (bs : List (List Nat × Int)) (h : ∀ b ∈ bs, Val n b) : F__law_count [.int n, bsD bs] = some (tabD n (tot bs), 2) := by
  have z := zeros (i := 0) (j := 5) (n := n) (fe := eC .none) (ρ := [some (.int n, 0, false), some (bsD bs, 0, false), none, none, none, none, none, none]) (x0 := (0, false)) hn hn2 rfl rfl (by decide)
  obtain ⟨o3, o4, o5, o6, o7, e1⟩ := outL_loop (n := n) (d := bsD bs) (y := false) bs (fun _ _ => 0) none none none none none h
  simp only [Int.zero_add] at e1
  have e2 : sFor (iS (eVar 1)) (gT 2 (gsC (gN 3) (gsC (gN 4) gsN))) outL (lb n (bsD bs) (fun _ _ => 0) none none none none none) = some (.nx (lb n (bsD bs) (tot bs) o3 o4 o5 o6 o7)) := by
    rw [← e1]; rfl
  have g : g__law_count [some (.int n, 0, false), some (bsD bs, 0, false), none, none, none, none, none, none] = some (.rt (tabD n (tot bs)) 2) := by
    show sSeq (sSh 0 (sAsg 2 (eLc (iR1 (eVar 0)) [5] (gN 5) tT (eRep (eLst (aCons (eC (.int 0)) aNil)) (eVar 0))))) (sSeq (sSh 1 (sFor (iS (eVar 1)) (gT 2 (gsC (gN 3) (gsC (gN 4) gsN))) outL)) (sRetV 2)) _ = _
    have s1 : sSh 0 (sAsg 2 (eLc (iR1 (eVar 0)) [5] (gN 5) tT (eRep (eLst (aCons (eC (.int 0)) aNil)) (eVar 0)))) [some (.int n, 0, false), some (bsD bs, 0, false), none, none, none, none, none, none] = some (.nx (lb n (bsD bs) (fun _ _ => 0) none none none none none)) := by
      show sAsg 2 (eLc (iR1 (eVar 0)) [5] (gN 5) tT (eRep (eLst (aCons (eC (.int 0)) aNil)) (eVar 0))) [some (.int n, 0, false), some (bsD bs, 0, false), none, none, none, none, none, none] = _
      unfold sAsg
      rw [z]; rfl
    unfold sSeq
    rw [s1, Option.bind_some]
    show sSeq (sSh 1 (sFor (iS (eVar 1)) (gT 2 (gsC (gN 3) (gsC (gN 4) gsN))) outL)) (sRetV 2) (lb n (bsD bs) (fun _ _ => 0) none none none none none) = _
    have s2 : sSh 1 (sFor (iS (eVar 1)) (gT 2 (gsC (gN 3) (gsC (gN 4) gsN))) outL) (lb n (bsD bs) (fun _ _ => 0) none none none none none) = _ := e2
    unfold sSeq
    rw [s2]
    rfl
  unfold F__law_count runF
  show (g__law_count [some (.int n, 0, false), some (bsD bs, 0, false), none, none, none, none, none, none]).bind _ = _
  rw [g]; rfl
end K01
namespace K01
open PySem EV
theorem flA_flat {α : Type} (c : α → D × Md) : ∀ l : List α, (∀ x ∈ l, flatD (c x).1 = true) → flA (l.map c) = true ∧ elOk (l.map c) = true
  | [], _ => ⟨rfl, rfl⟩
  | x :: l, h => by
    have e := h x (by simp)
    obtain ⟨i1, i2⟩ := flA_flat c l fun z hz => h z (by simp [hz])
    rw [List.map_cons]
    unfold flA elOk
    simp [e, i1, i2]
theorem lc_flat {it : Si} {vs : List Nat} {g : Gm} {fe : Sm} {y : Bool} {ρ : EV.Env} {α : Type} (c : α → D) (e : α → D) (l : List α) (hl : l.length ≤ 1000000) (hit : it ρ = some (l.map c, y)) (hf : ∀ x ∈ l, flatD (e x) = true)
    (h : ∀ x ∈ l, ∃ ρ1, g (c x) y (wE ρ vs) = some ρ1 ∧ fe ρ1 = some (e x, mF)) : eLc it vs g tT fe ρ = some (.list (l.map e), .own 1 true) := by
  have cc := compL_map (g := g) (fe := fe) (y := y) (ρ := wE ρ vs) c (fun x => (e x, mF)) l h
  obtain ⟨f1, f2⟩ := flA_flat (fun x => (e x, mF)) l hf
  have hm : mkL (l.map fun x => (e x, mF)) = some (.own 1 true) := by unfold mkL; rw [if_pos f1]
  rw [lc_of hit cc (by simpa using hl) f2 hm, List.map_map]
  rfl
theorem boolsOf_map : ∀ (ns : List Bool), boolsOf (ns.map PyData.bool) = some ns
  | [] => rfl
  | n :: ns => by rw [List.map_cons]; unfold boolsOf; rw [boolsOf_map ns]; rfl
theorem gAll_true {α : Type} (l : List α) : gAll (.list (l.map fun _ => .bool true)) = some (.bool true) := by
  have := boolsOf_map (l.map fun _ => true)
  rw [List.map_map] at this
  unfold gAll
  show (boolsOf (l.map (PyData.bool ∘ fun _ => true))).map _ = _
  rw [this]
  simp
theorem isi_list (ds : List D) : isi "list" (.list ds) = true := by simp [isi, tyN]
theorem gNe_int (i j : Int) : gNe (.int i) (.int j) = some (.bool (!decide (i = j))) := by
  simp [gNe, eqOk, SeqAt.shaped, PyData.canLay0, PyData.depth, noDict, PyData.eqv]
  by_cases h : i = j <;> simp [h]
def rowD (n : Nat) (f : Nat → Nat → Int) (a : Nat) : D := .list ((List.range n).map fun b => .int (f a b))
def tbE (n : Nat) (f : Nat → Nat → Int) (o2 : Sl) : EV.Env := [some (tabD n f, 0, false), some (.int n, 0, false), o2, none]
def rowS : Ss := sSh 2 (sIf (tO2 (tV (eB2 gNe (eU1 gLen (eVar 2)) (eVar 1))) (tN (tV (eU1 gAll (eLc (iS (eVar 2)) [3] (gN 3) tT (eAnd (eU1 (fun d => some (.bool (isi "int" d))) (eVar 3)) (eU1 gNot (eU1 (fun d => some (.bool (isi "bool" d))) (eVar 3))))))))) (sRet (eC (.bool false))) sNil)
theorem row_one {n : Nat} (hn : n ≤ 20) (f : Nat → Nat → Int) (a : Nat) (y : Bool) : rowS (tbE n f (some (rowD n f a, 0, y))) = some (.nx (tbE n f (some (rowD n f a, 0, y)))) := by
  unfold rowS
  rw [sh_of (ρ' := tbE n f (some (rowD n f a, 0, y))) rfl]
  have v2 : eVar 2 (tbE n f (some (rowD n f a, 0, y))) = some (rowD n f a, .own 0 y) := var_sh rfl rfl
  have v1 : eVar 1 (tbE n f (some (rowD n f a, 0, y))) = some (.int n, mF) := var_flat rfl rfl
  have l1 : eU1 gLen (eVar 2) (tbE n f (some (rowD n f a, 0, y))) = some (.int n, mF) := u1_of v2 (by simp [rowD, gLen])
  have c1 := lc_flat (it := iS (eVar 2)) (vs := [3]) (g := gN 3) (fe := eAnd (eU1 (fun d => some (.bool (isi "int" d))) (eVar 3)) (eU1 gNot (eU1 (fun d => some (.bool (isi "bool" d))) (eVar 3)))) (y := y) (ρ := tbE n f (some (rowD n f a, 0, y))) (fun b => .int (f a b)) (fun _ => .bool true) (List.range n) (by simp; omega) (is_l v2) (fun _ _ => rfl)
    (fun b _ => ⟨_, rfl, by
      have v3 : eVar 3 [some (tabD n f, 0, false), some (.int n, 0, false), some (rowD n f a, 0, y), some (.int (f a b), 0, y)] = some (.int (f a b), mF) := var_flat rfl rfl
      show eAnd _ _ [some (tabD n f, 0, false), some (.int n, 0, false), some (rowD n f a, 0, y), some (.int (f a b), 0, y)] = _
      rw [and_t (u1_of v3 (by simp [isi, tyN]))]
      exact u1_of (u1_of v3 (x := .bool false) (by simp [isi, tyN])) rfl⟩)
  have t1 : tO2 (tV (eB2 gNe (eU1 gLen (eVar 2)) (eVar 1))) (tN (tV (eU1 gAll (eLc (iS (eVar 2)) [3] (gN 3) tT (eAnd (eU1 (fun d => some (.bool (isi "int" d))) (eVar 3)) (eU1 gNot (eU1 (fun d => some (.bool (isi "bool" d))) (eVar 3)))))))) (tbE n f (some (rowD n f a, 0, y))) = some false := by
    rw [to_f (tv_of (b2_of l1 v1 (by rw [gNe_int]; simp)))]
    rw [tn_of (tv_of (u1_of c1 (gAll_true _)))]
    rfl
  rw [if_f t1]; rfl
theorem row_loop {n : Nat} (hn : n ≤ 20) (f : Nat → Nat → Int) (y : Bool) : ∀ (l : List Nat) (o2 : Sl), ∃ o2', loopF (gN 2) rowS y (l.map (rowD n f)) (tbE n f o2) = some (.nx (tbE n f o2'))
  | [], o2 => ⟨o2, rfl⟩
  | a :: l, o2 => by
    obtain ⟨o2', ih⟩ := row_loop hn f y l (some (rowD n f a, 0, y))
    refine ⟨o2', ?_⟩
    have g : gN 2 (rowD n f a) y (tbE n f o2) = some (tbE n f (some (rowD n f a, 0, y))) := rfl
    rw [List.map_cons, loopF, g, Option.bind_some, row_one hn, Option.bind_some]
    exact ih
theorem e_istab (n : Nat) (hn : n ≤ 20) (f : Nat → Nat → Int) : F__law_is_table [tabD n f, .int n] = some (.bool true, 2) := by
  refine run_rt ?_
  show g__law_is_table (tbE n f none) = _
  have v0 : eVar 0 (tbE n f none) = some (tabD n f, .own 0 false) := var_sh rfl rfl
  have v1 : eVar 1 (tbE n f none) = some (.int n, mF) := var_flat rfl rfl
  have l1 : eU1 gLen (eVar 0) (tbE n f none) = some (.int n, mF) := u1_of v0 (by simp [tabD, gLen, rowsD_len])
  have c1 := lc_flat (it := iS (eVar 0)) (vs := [2]) (g := gN 2) (fe := eU1 (fun d => some (.bool (isi "list" d))) (eVar 2)) (y := false) (ρ := tbE n f none) (rowD n f) (fun _ => .bool true) (List.range n) (by simp; omega) (is_l v0) (fun _ _ => rfl)
    (fun a _ => ⟨_, rfl, by
      have v3 : eVar 2 [some (tabD n f, 0, false), some (.int n, 0, false), some (rowD n f a, 0, false), none] = some (rowD n f a, .own 0 false) := var_sh rfl rfl
      show eU1 _ _ [some (tabD n f, 0, false), some (.int n, 0, false), some (rowD n f a, 0, false), none] = _
      exact u1_of v3 (by simp [rowD, isi_list])⟩)
  obtain ⟨o2, lp⟩ := row_loop hn f false (List.range n) none
  have lp2 : sFor (iS (eVar 0)) (gN 2) rowS (tbE n f none) = some (.nx (tbE n f o2)) := for_of (is_l v0) lp
  unfold g__law_is_table
  rw [seq_nx (ρ' := tbE n f none), seq_nx (ρ' := tbE n f o2)]
  · rfl
  · rw [sh_of (ρ' := tbE n f none) rfl]; exact lp2
  · rw [sh_of (ρ' := tbE n f none) rfl, if_f]
    · rfl
    · rw [to_f (tn_of (tv_of (b := true) (u1_of v0 (congrArg (fun b => some (PyData.bool b)) (isi_list _)))))]
      rw [to_f (tv_of (b2_of l1 v1 (by rw [gNe_int]; simp)))]
      rw [tn_of (tv_of (u1_of c1 (gAll_true _)))]
      rfl
end K01
namespace K01
open PySem EV
open Builtin.Int (intBits)
theorem gm_of {i j : Int} (h : IntMulOk i j) : gMul (.int i) (.int j) = some (.int (i * j)) := by
  show (if mulOk i j then _ else _) = _
  exact if_pos h
theorem gd_of {i j : Int} (h : j ≠ 0) (h2 : j.natAbs < 1073741824) : gDiv (.int i) (.int j) = some (.int (i.fdiv j)) := by
  show (if _ then _ else _) = _
  rw [if_pos ⟨h, h2⟩]
theorem gmod_of {i j : Int} (h : j ≠ 0) : gMod (.int i) (.int j) = some (.int (i.fmod j)) := by
  show (if _ then _ else _) = _
  rw [if_pos h]
theorem gp_of {i : Int} {j : Nat} (h : j ≤ 1000000) (h2 : i.natAbs < 2 ^ 64) : gPow (.int i) (.int j) = some (.int (i ^ j)) := by
  show (if _ then _ else _) = _
  rw [if_pos ⟨by omega, by omega, h2⟩]; simp
theorem ga_of (i j : Int) : gAdd (.int i) (.int j) = some (.int (i + j)) := rfl
theorem ge_of (i j : Int) : gGe (.int i) (.int j) = some (.bool (decide (j ≤ i))) := rfl
theorem c_of (d : D) (ρ : EV.Env) : eC d ρ = some (d, mF) := rfl
theorem fm_rng (i : Int) {j : Int} (h : 0 < j) : 0 ≤ i.fmod j ∧ i.fmod j < j := ⟨Int.fmod_nonneg_of_pos i h, Int.fmod_lt_of_pos i h⟩
theorem e_lnumber (c w : Int) (a : Nat) (hc : intBits c ≤ 2 ^ 20) (ha : a ≤ 60) : ∃ z, F__law_number [.int c, .int a, .int w] = some (.int z, 2) := by
  let ρ : EV.Env := [some (.int c, 0, false), some (.int a, 0, false), some (.int w, 0, false), none, none]
  have v0 : eVar 0 ρ = some (.int c, mF) := var_flat rfl rfl
  have v1 : eVar 1 ρ = some (.int a, mF) := var_flat rfl rfl
  have v2 : eVar 2 ρ = some (.int w, mF) := var_flat rfl rfl
  have p1 : eB2 gPow (eC (.int 10)) (eC (.int 18)) ρ = some (.int (10 ^ 18), mF) := b2_of (c_of _ _) (c_of _ _) (gp_of (j := 18) (by omega) (by decide))
  have t1 : tV (eB2 gGe (eVar 0) (eB2 gPow (eC (.int 10)) (eC (.int 18)))) ρ = some (decide ((10 : Int) ^ 18 ≤ c)) := tv_of (b2_of v0 p1 (ge_of _ _))
  by_cases hb : (10 : Int) ^ 18 ≤ c
  · rw [decide_eq_true hb] at t1
    have f := fm_rng (a : Int) (j := 7) (by omega)
    refine ⟨c.fdiv (1 + (a : Int).fmod 7), run_rt ?_⟩
    · show g__law_number ρ = _
      unfold g__law_number
      rw [seq_rt (d := .int (c.fdiv (1 + (a : Int).fmod 7))) (k := 2)]
      rw [if_t t1]
      exact ret_of (b2_of v0 (b2_of (c_of _ _) (b2_of v1 (c_of _ _) (gmod_of (by omega))) (ga_of _ _)) (gd_of (by omega) (by omega)))
  · rw [decide_eq_false hb] at t1
    let mx : Int := ((c + 977 * a) * 48271 + w).fmod 2147483647
    have f : 0 ≤ mx ∧ mx < 2147483647 := fm_rng _ (by omega)
    let mo : Int := mx * (c + 31 * a + 7)
    have b0 : intBits mx ≤ 31 := intBits_le_iff.mpr (by omega)
    have m1 : IntMulOk 977 (a : Int) := .of_left (by decide)
    have m2 : IntMulOk (c + 977 * a) 48271 := .of_right (by decide)
    have m3 : IntMulOk 31 (a : Int) := .of_left (by decide)
    have m4 : IntMulOk mx (c + 31 * a + 7) := .of_left (by omega)
    have b1 : intBits (31 * (a : Int)) ≤ 64 := intBits_le_64 (by omega) (by omega)
    have b2 : intBits (c + 31 * a + 7) ≤ 1048578 := Nat.le_trans (intBits_add_le (intBits_add_le hc b1) (intBits_le_64 (by omega) (by omega))) (by decide)
    have b3 : intBits mo ≤ 1048610 := Nat.le_trans (intBits_mul_le b0 b2) (by decide)
    have b4 : intBits (mx + c + 5) ≤ 1048578 := Nat.le_trans (intBits_add_le (intBits_add_le b0 hc) (intBits_le_64 (by omega) (by omega))) (by decide)
    have m5 : IntMulOk mo (mx + c + 5) := .of_le b3 b4 (by decide)
    have m6 : IntMulOk mx mx := .of_left (by omega)
    have b5 : intBits (mx * mx + 11) ≤ 64 := Nat.le_trans (intBits_add_le (intBits_mul_le b0 b0) (n := 4) (intBits_le_iff.mpr (by decide))) (by decide)
    have m7 : IntMulOk (mo * (mx + c + 5)) (mx * mx + 11) := .of_right b5
    refine ⟨(mo * (mx + c + 5) * (mx * mx + 11)).fdiv (1009 + a), run_rt ?_⟩
    show g__law_number ρ = _
    let ρ2 : EV.Env := [some (.int c, 0, false), some (.int a, 0, false), some (.int w, 0, false), some (.int mx, 2, true), none]
    let ρ3 : EV.Env := [some (.int c, 0, false), some (.int a, 0, false), some (.int w, 0, false), some (.int mx, 2, true), some (.int mo, 2, true)]
    unfold g__law_number
    rw [seq_nx (ρ' := ρ), seq_nx (ρ' := ρ2), seq_nx (ρ' := ρ3)]
    · have w0 : eVar 0 ρ3 = some (.int c, mF) := var_flat rfl rfl
      have w1 : eVar 1 ρ3 = some (.int a, mF) := var_flat rfl rfl
      have w3 : eVar 3 ρ3 = some (.int mx, mF) := var_flat rfl rfl
      have w4 : eVar 4 ρ3 = some (.int mo, mF) := var_flat rfl rfl
      exact ret_of (b2_of (b2_of (b2_of w4 (b2_of (b2_of w3 w0 (ga_of _ _)) (c_of _ _) (ga_of _ _)) (gm_of m5)) (b2_of (b2_of w3 w3 (gm_of m6)) (c_of _ _) (ga_of _ _)) (gm_of m7)) (b2_of (c_of _ _) w1 (ga_of _ _)) (gd_of (by omega) (by omega)))
    · have w0 : eVar 0 ρ2 = some (.int c, mF) := var_flat rfl rfl
      have w1 : eVar 1 ρ2 = some (.int a, mF) := var_flat rfl rfl
      have w3 : eVar 3 ρ2 = some (.int mx, mF) := var_flat rfl rfl
      exact asg_of (b2_of w3 (b2_of (b2_of w0 (b2_of (c_of _ _) w1 (gm_of m3)) (ga_of _ _)) (c_of _ _) (ga_of _ _)) (gm_of m4))
    · exact asg_of (b2_of (b2_of (b2_of (b2_of v0 (b2_of (c_of _ _) v1 (gm_of m1)) (ga_of _ _)) (c_of _ _) (gm_of m2)) v2 (ga_of _ _)) (c_of _ _) (gmod_of (by omega)))
    · rw [if_f t1]; rfl
end K01
namespace K01
open PySem EV
open Builtin.Int (intBits)
theorem erase_map (f : Nat → D) : ∀ (l : List Nat) (q : Nat), (l.map f).eraseIdx q = (l.eraseIdx q).map f
  | [], _ => rfl
  | _ :: _, 0 => rfl
  | x :: l, q + 1 => by simp [erase_map f l q]
theorem erase_perm : ∀ (l : List Nat) (q x : Nat), l[q]? = some x → (x :: l.eraseIdx q).Perm l
  | [], _, _, h => by simp at h
  | a :: l, 0, x, h => by simp at h; subst h; simp
  | a :: l, q + 1, x, h => by
    have ih := erase_perm l q x (by simpa using h)
    simp only [List.eraseIdx_cons_succ]
    exact (List.Perm.swap a x _).trans (ih.cons a)
abbrev oS1 (l : List Nat) : Sl := some (.list (l.map nD), 1, true)
def wb (o0 o1 o2 o3 o4 o5 : Sl) (z : Int) (u : Nat × Bool) (left line : List Nat) : EV.Env := [o0, o1, o2, o3, o4, o5, some (.int z, u), oS1 left, oS1 line]
def wC : Tm := tV (eB2 gNe (eVar 7) (eLst aNil))
def wB : Ss := sSeq (sPop 8 7 (eB2 gMod (eVar 6) (eU1 gLen (eVar 7)))) (sAsg 6 (eB2 gDiv (eVar 6) (eB2 gAdd (eU1 gLen (eVar 7)) (eC (.int 1)))))
theorem nice_nD (l : List Nat) : Nice 1 (.list (l.map nD)) := nice_list fun x hx => by
  obtain ⟨a, _, rfl⟩ := List.mem_map.mp hx
  exact nice_int 0 _
theorem wC_of (o0 o1 o2 o3 o4 o5 : Sl) (z : Int) (u : Nat × Bool) (left line : List Nat) : wC (wb o0 o1 o2 o3 o4 o5 z u left line) = some (decide (left ≠ [])) := by
  have v : eVar 7 (wb o0 o1 o2 o3 o4 o5 z u left line) = some (.list (left.map nD), .bor) := var_bor rfl rfl
  have e : eLst aNil (wb o0 o1 o2 o3 o4 o5 z u left line) = some (.list [], .own 1 true) := lst_of a_nil (by simp) rfl
  refine tv_of (b2_of v e ?_)
  refine (gNe_nice (nice_nD left) (nice_nD [])).trans ?_
  cases left with
  | nil => simp [PyData.eqv, PyData.eqvAll]
  | cons x l => simp [PyData.eqv, PyData.eqvAll]
theorem wh_loop (o0 o1 o2 o3 o4 o5 : Sl) : ∀ (n : Nat) (z : Int) (u : Nat × Bool) (left line : List Nat), left.length ≤ n → left.length + line.length ≤ 20 →
    ∃ z' u' line', whileF wC wB n (wb o0 o1 o2 o3 o4 o5 z u left line) = some (.nx (wb o0 o1 o2 o3 o4 o5 z' u' [] line')) ∧ line'.Perm (line ++ left)
  | n, z, u, [], line, _, _ => ⟨z, u, line, while_f (wC_of ..), by simp⟩
  | 0, z, u, x :: left, line, h, _ => by simp at h
  | n + 1, z, u, x :: l, line, h, h2 => by
    let left := x :: l
    have hlen : left.length = l.length + 1 := rfl
    have hp : (0 : Int) < left.length := by omega
    obtain ⟨f1, f2⟩ := fm_rng z hp
    obtain ⟨q, hq⟩ : ∃ q : Nat, z.fmod left.length = q := ⟨(z.fmod left.length).toNat, by omega⟩
    have hql : q < left.length := by omega
    obtain ⟨a, ha⟩ : ∃ a, left[q]? = some a := ⟨left[q], List.getElem?_eq_getElem hql⟩
    have pm := erase_perm left q a ha
    have el : (left.eraseIdx q).length = l.length := by rw [List.length_eraseIdx_of_lt hql]; simp [hlen]
    let ρ := wb o0 o1 o2 o3 o4 o5 z u left line
    have v6 : eVar 6 ρ = some (.int z, mF) := var_flat rfl rfl
    have v7 : eVar 7 ρ = some (.list (left.map nD), .bor) := var_bor rfl rfl
    have l7 : eU1 gLen (eVar 7) ρ = some (.int left.length, mF) := u1_of v7 (by simp [gLen])
    have ix : eB2 gMod (eVar 6) (eU1 gLen (eVar 7)) ρ = some (.int q, mF) := b2_of v6 l7 (by rw [gmod_of (by omega), hq])
    have s1 : sPop 8 7 (eB2 gMod (eVar 6) (eU1 gLen (eVar 7))) ρ = some (.nx (wb o0 o1 o2 o3 o4 o5 z u (left.eraseIdx q) (line ++ [a]))) := by
      have := pop_of (i := 8) (j := 7) (k := q) (y := true) (z := true) (d := nD a) (ds := line.map nD) (es := left.map nD) (ρ := ρ) (by decide) rfl rfl ix (by simpa using hql) (by simp at h2 ⊢; omega) (by simp at h2 ⊢; omega) (by rw [List.getElem?_map, ha]; rfl) rfl
      rw [this, erase_map, ← List.map_singleton, ← List.map_append]
      rfl
    let ρ1 := wb o0 o1 o2 o3 o4 o5 z u (left.eraseIdx q) (line ++ [a])
    have w6 : eVar 6 ρ1 = some (.int z, mF) := var_flat rfl rfl
    have w7 : eVar 7 ρ1 = some (.list ((left.eraseIdx q).map nD), .bor) := var_bor rfl rfl
    have k7 : eU1 gLen (eVar 7) ρ1 = some (.int l.length, mF) := u1_of w7 (by simp [gLen, el])
    have s2 : sAsg 6 (eB2 gDiv (eVar 6) (eB2 gAdd (eU1 gLen (eVar 7)) (eC (.int 1)))) ρ1 = some (.nx (wb o0 o1 o2 o3 o4 o5 (z.fdiv ((l.length : Int) + 1)) (2, true) (left.eraseIdx q) (line ++ [a]))) :=
      asg_of (b2_of w6 (b2_of k7 (c_of _ _) (ga_of _ _)) (gd_of (by omega) (by simp at h2; omega)))
    obtain ⟨z', u', line', ih, ip⟩ := wh_loop o0 o1 o2 o3 o4 o5 n (z.fdiv ((l.length : Int) + 1)) (2, true) (left.eraseIdx q) (line ++ [a]) (by rw [el]; simp at h; omega) (by rw [el]; simp at h2 ⊢; omega)
    refine ⟨z', u', line', ?_, ?_⟩
    · rw [while_t (ρ' := wb o0 o1 o2 o3 o4 o5 (z.fdiv ((l.length : Int) + 1)) (2, true) (left.eraseIdx q) (line ++ [a]))]
      · exact ih
      · rw [wC_of]; simp
      · unfold wB
        rw [seq_nx s1]; exact s2
    · refine ip.trans ?_
      rw [List.append_assoc]
      exact List.Perm.append_left line (by simpa using pm)
def cb (sc : D) (n : Nat) (bs : List (List Nat × Int)) (w : Int) (o4 o5 o6 o7 o8 : Sl) : EV.Env := [some (sc, 0, false), some (.int n, 0, false), some (bsD bs, 1, true), some (.int w, 2, true), o4, o5, o6, o7, o8]
def tupS : Sm := eTup (aCons (eC (.int 1)) (aCons (eC (.int 4)) (aCons (eB2 gPow (eC (.int 10)) (eC (.int 20))) aNil)))
def cntS : Sm := eB2 gAdd (eC (.int 1)) (eB2 gMod (eCall F__law_number (aCons (eVar 5) (aCons (eB2 gAdd (eVar 4) (eC (.int 30))) (aCons (eVar 3) aNil)))) (eIx tupS (eB2 gMod (eB2 gDiv (eVar 3) (eC (.int 5))) (eC (.int 3)))))
def cellS : Ss := sSeq (sAsg 6 (eCall F__law_number (aCons (eVar 5) (aCons (eVar 4) (aCons (eVar 3) aNil)))))
  (sSeq (sAsg 7 (eLr (eVar 1)))
  (sSeq (sAsg 8 (eLst aNil))
  (sSeq (whileF wC wB 64)
  (sSh 8 (sApp 2 (eTup (aCons (eVar 8) (aCons cntS aNil))))))))
theorem perm_val {n : Nat} {l : List Nat} {m : Int} (h : l.Perm (List.range n)) (hm : 1 ≤ m) : Val n (l, m) :=
  ⟨h.nodup_iff.mpr List.nodup_range, by simpa using h.length_eq, fun x hx => List.mem_range.mp (h.mem_iff.mp hx), hm⟩
theorem cell_one {sc : D} {n k : Nat} {bs : List (List Nat × Int)} {w c : Int} {o6 o7 o8 : Sl} (hn : n ≤ 20) (hk : k ≤ 24) (hb : bs.length ≤ 24) (hc : intBits c ≤ 2 ^ 20) :
    ∃ b o6' o7' o8', cellS (cb sc n bs w (some (nD k, 0, true)) (some (.int c, 0, true)) o6 o7 o8) = some (.nx (cb sc n (bs ++ [b]) w (some (nD k, 0, true)) (some (.int c, 0, true)) o6' o7' o8')) ∧ Val n b := by
  obtain ⟨z1, hz1⟩ := e_lnumber c w k hc (by omega)
  obtain ⟨z2, hz2⟩ := e_lnumber c w (k + 30) hc (by omega)
  let ρ := cb sc n bs w (some (nD k, 0, true)) (some (.int c, 0, true)) o6 o7 o8
  let ρ1 := cb sc n bs w (some (nD k, 0, true)) (some (.int c, 0, true)) (some (.int z1, 2, true)) o7 o8
  let ρ2 := cb sc n bs w (some (nD k, 0, true)) (some (.int c, 0, true)) (some (.int z1, 2, true)) (oS1 (List.range n)) o8
  obtain ⟨z', u', line, hw, hp⟩ := wh_loop (some (sc, 0, false)) (some (.int n, 0, false)) (some (bsD bs, 1, true)) (some (.int w, 2, true)) (some (nD k, 0, true)) (some (.int c, 0, true)) 64 z1 (2, true) (List.range n) [] (by simp; omega) (by simp; omega)
  simp only [List.nil_append] at hp
  let ρ3 := cb sc n bs w (some (nD k, 0, true)) (some (.int c, 0, true)) (some (.int z1, 2, true)) (oS1 (List.range n)) (oS1 [])
  let ρ4 := cb sc n bs w (some (nD k, 0, true)) (some (.int c, 0, true)) (some (.int z', u')) (oS1 []) (oS1 line)
  let ρ5 := cb sc n bs w (some (nD k, 0, true)) (some (.int c, 0, true)) (some (.int z', u')) (oS1 []) (some (ordD line, 0, true))
  have s1 : sAsg 6 (eCall F__law_number (aCons (eVar 5) (aCons (eVar 4) (aCons (eVar 3) aNil)))) ρ = some (.nx ρ1) := by
    have a1 : eVar 5 ρ = some (.int c, mF) := var_flat rfl rfl
    have a2 : eVar 4 ρ = some (nD k, mF) := var_flat rfl rfl
    have a3 : eVar 3 ρ = some (.int w, mF) := var_flat rfl rfl
    exact asg_of (call_of (a_cons a1 (a_cons a2 (a_cons a3 a_nil))) rfl hz1)
  have s2 : sAsg 7 (eLr (eVar 1)) ρ1 = some (.nx ρ2) := by
    have a1 : eVar 1 ρ1 = some (.int n, mF) := var_flat rfl rfl
    rw [asg_of (lr_of a1 (by omega))]
    have : rgD (n : Int) = (List.range n).map nD := by simp [rgD, nD]
    rw [this]; rfl
  have s3 : sAsg 8 (eLst aNil) ρ2 = some (.nx ρ3) := asg_of (lst_of a_nil (by simp) rfl)
  have s4 : whileF wC wB 64 ρ3 = some (.nx ρ4) := hw
  obtain ⟨m, hm, h1⟩ : ∃ m : Int, L2.atI [PyData.int 1, .int 4, .int (10 ^ 20)] ((w.fdiv 5).fmod 3) = some (.int m) ∧ 1 ≤ m := by
    obtain ⟨f1, f2⟩ := fm_rng (w.fdiv 5) (j := 3) (by omega)
    generalize (w.fdiv 5).fmod 3 = i at f1 f2 ⊢
    have : i = 0 ∨ i = 1 ∨ i = 2 := by omega
    rcases this with rfl | rfl | rfl
    · exact ⟨1, rfl, by decide⟩
    · exact ⟨4, rfl, by decide⟩
    · exact ⟨10 ^ 20, rfl, by decide⟩
  have s5 : cntS ρ5 = some (.int (1 + z2.fmod m), mF) := by
    have a1 : eVar 5 ρ5 = some (.int c, mF) := var_flat rfl rfl
    have a2 : eVar 4 ρ5 = some (nD k, mF) := var_flat rfl rfl
    have a3 : eVar 3 ρ5 = some (.int w, mF) := var_flat rfl rfl
    have a4 : tupS ρ5 = some (.tuple [.int 1, .int 4, .int (10 ^ 20)], .own 0 true) :=
      tup_of (a_cons (c_of _ _) (a_cons (c_of _ _) (a_cons (b2_of (c_of _ _) (c_of _ _) (gp_of (j := 20) (by omega) (by decide))) a_nil))) (by simp) rfl
    have a5 : eB2 gMod (eB2 gDiv (eVar 3) (eC (.int 5))) (eC (.int 3)) ρ5 = some (.int ((w.fdiv 5).fmod 3), mF) :=
      b2_of (b2_of a3 (c_of _ _) (gd_of (by omega) (by omega))) (c_of _ _) (gmod_of (by omega))
    have a6 : eCall F__law_number (aCons (eVar 5) (aCons (eB2 gAdd (eVar 4) (eC (.int 30))) (aCons (eVar 3) aNil))) ρ5 = some (.int z2, mF) :=
      call_of (a_cons a1 (a_cons (b2_of a2 (c_of _ _) (ga_of _ _)) (a_cons a3 a_nil))) rfl hz2
    exact b2_of (c_of _ _) (b2_of a6 (ix_t a4 a5 hm rfl) (gmod_of (by omega))) (ga_of _ _)
  have s6 : sSh 8 (sApp 2 (eTup (aCons (eVar 8) (aCons cntS aNil)))) ρ4 = some (.nx (cb sc n (bs ++ [(line, 1 + z2.fmod m)]) w (some (nD k, 0, true)) (some (.int c, 0, true)) (some (.int z', u')) (oS1 []) (some (ordD line, 0, true)))) := by
    rw [sh_of (ρ' := ρ5) rfl]
    have a1 : eVar 8 ρ5 = some (ordD line, .own 0 true) := var_sh rfl rfl
    have t := tup_of (a_cons a1 (a_cons s5 a_nil)) (by simp) (m := .own 0 true) (by simp [mkT, elOk, yAll, flatD, ordD])
    rw [app1_of (ds := bs.map balD) (y := true) rfl t (by simp; omega)]
    have : bs.map balD ++ [PyData.tuple (List.map (·.1) [(ordD line, Md.own 0 true), (.int (1 + z2.fmod m), mF)])] = (bs ++ [(line, 1 + z2.fmod m)]).map balD := by simp [balD]
    rw [this]; rfl
  refine ⟨(line, 1 + z2.fmod m), some (.int z', u'), oS1 [], some (ordD line, 0, true), ?_, perm_val hp ?_⟩
  · unfold cellS
    rw [seq_nx s1, seq_nx s2, seq_nx s3, seq_nx s4]
    exact s6
  · have := (fm_rng z2 (j := m) (by omega)).1
    omega
theorem cell_loop {sc : D} {n : Nat} {w : Int} (hn : n ≤ 20) : ∀ (cs : List Int) (k : Nat) (bs : List (List Nat × Int)) (o4 o5 o6 o7 o8 : Sl), k + cs.length ≤ 24 → bs.length = k → (∀ b ∈ bs, Val n b) → (∀ c ∈ cs, intBits c ≤ 2 ^ 20) →
    ∃ bs' o4' o5' o6' o7' o8', loopF (gT 2 (gsC (gN 4) (gsC (gN 5) gsN))) cellS true (((cs.map PyData.int).zipIdx k).map fun x => .tuple [.int (x.2 : Nat), x.1]) (cb sc n bs w o4 o5 o6 o7 o8) = some (.nx (cb sc n bs' w o4' o5' o6' o7' o8')) ∧ (∀ b ∈ bs', Val n b) ∧ bs'.length ≤ 24
  | [], k, bs, o4, o5, o6, o7, o8, h, hb, hv, _ => ⟨bs, o4, o5, o6, o7, o8, rfl, hv, by simp at h; omega⟩
  | c :: cs, k, bs, o4, o5, o6, o7, o8, h, hb, hv, hc => by
    simp at h
    obtain ⟨b, o6a, o7a, o8a, e1, vb⟩ := cell_one (sc := sc) (n := n) (k := k) (bs := bs) (w := w) (c := c) (o6 := o6) (o7 := o7) (o8 := o8) hn (by omega) (by omega) (hc c (by simp))
    obtain ⟨bs', o4', o5', o6', o7', o8', ih, i2, i3⟩ := cell_loop (sc := sc) (n := n) (w := w) hn cs (k + 1) (bs ++ [b]) (some (nD k, 0, true)) (some (.int c, 0, true)) o6a o7a o8a (by omega) (by simp [hb]) (by
      intro x hx
      rcases List.mem_append.mp hx with hx | hx
      · exact hv x hx
      · rw [List.mem_singleton.mp hx]; exact vb) fun x hx => hc x (by simp [hx])
    refine ⟨bs', o4', o5', o6', o7', o8', ?_, i2, i3⟩
    have g : gT 2 (gsC (gN 4) (gsC (gN 5) gsN)) (.tuple [.int ((k : Nat)), .int c]) true (cb sc n bs w o4 o5 o6 o7 o8) = some (cb sc n bs w (some (nD k, 0, true)) (some (.int c, 0, true)) o6 o7 o8) := rfl
    rw [List.map_cons, List.zipIdx_cons, List.map_cons, loopF, g, Option.bind_some, e1, Option.bind_some]
    exact ih
theorem gSum_ints (ns : List Int) : gSum (.list (ns.map PyData.int)) = some (.int ns.sum) := by
  show (intsOf _).map _ = _
  rw [intsOf_map]; rfl
theorem flat_ints (ns : List Int) : (ns.map PyData.int).all flatD = true := by simp [flatD]
theorem cutN (ns : List Int) (k : Nat) : cutG (ns.map PyData.int) none (some (k : Int)) = (ns.take k).map PyData.int := by
  unfold cutG
  rw [HT.sIx_nat, HT.sIx_none, List.drop_zero, Nat.sub_zero, List.map_take, List.length_map]
  by_cases h : k ≤ ns.length
  · rw [Nat.min_eq_left h]
  · rw [Nat.min_eq_right (by omega), List.take_of_length_le (by simp), List.take_of_length_le (by simp; omega)]
theorem e_lballots (ns : List Int) (n : Nat) (hn : n ≤ 20) (hb : ∀ c ∈ ns, intBits c ≤ 2 ^ 20) : ∃ bs, F__law_ballots [.list (ns.map PyData.int), .int n] = some (bsD bs, 1) ∧ (∀ b ∈ bs, Val n b) ∧ bs.length ≤ 24 := by
  let sc : D := .list (ns.map PyData.int)
  let w : Int := (ns.take 63).sum
  obtain ⟨bs, o4, o5, o6, o7, o8, e1, hv, hl⟩ := cell_loop (sc := sc) (w := w) hn (ns.take 24) 0 [] none none none none none (by simp; omega) rfl (by simp) fun c hc => hb c (List.mem_of_mem_take hc)
  refine ⟨bs, run_rt ?_, hv, hl⟩
  let ρ : EV.Env := [some (sc, 0, false), some (.int n, 0, false), none, none, none, none, none, none, none]
  let ρ1 : EV.Env := [some (sc, 0, false), some (.int n, 0, false), some (bsD [], 1, true), none, none, none, none, none, none]
  show g__law_ballots ρ = _
  have s1 : sAsg 2 (eLst aNil) ρ = some (.nx ρ1) := asg_of (lst_of a_nil (by simp) rfl)
  have s2 : sAsg 3 (eU1 gSum (eSl (eVar 0) oN (oS (eC (.int 63))))) ρ1 = some (.nx (cb sc n [] w none none none none none)) := by
    have a1 : eVar 0 ρ1 = some (sc, .own 0 false) := var_sh rfl rfl
    have a2 := sl_of a1 o_n (o_s (c_of (.int 63) ρ1))
    rw [show ((63 : Int)) = ((63 : Nat) : Int) from rfl, cutN] at a2
    exact asg_of (u1_of a2 (gSum_ints _))
  have s3 : sFor (iE (eSl (eVar 0) oN (oS (eC (.int 24))))) (gT 2 (gsC (gN 4) (gsC (gN 5) gsN))) cellS (cb sc n [] w none none none none none) = some (.nx (cb sc n bs w o4 o5 o6 o7 o8)) := by
    have a1 : eVar 0 (cb sc n [] w none none none none none) = some (sc, .own 0 false) := var_sh rfl rfl
    have a2 := sl_of a1 o_n (o_s (c_of (.int 24) (cb sc n [] w none none none none none)))
    rw [show ((24 : Int)) = ((24 : Nat) : Int) from rfl, cutN] at a2
    have a3 : mCp (.own 0 false) ((ns.take 24).map PyData.int) = .own 1 true := by unfold mCp; rw [if_pos (flat_ints _)]
    rw [a3] at a2
    exact for_of (ie_l a2) e1
  show sSeq (sAsg 2 (eLst aNil)) (sSeq (sAsg 3 (eU1 gSum (eSl (eVar 0) oN (oS (eC (.int 63)))))) (sSeq (sFor (iE (eSl (eVar 0) oN (oS (eC (.int 24))))) (gT 2 (gsC (gN 4) (gsC (gN 5) gsN))) cellS) (sRetV 2))) ρ = _
  rw [seq_nx s1, seq_nx s2, seq_nx s3]
  rfl
end K01
namespace K01
open PySem EV
open Builtin.Int (intBits)
theorem nice_row (n : Nat) (f : Nat → Nat → Int) (a : Nat) : Nice 1 (rowD n f a) := nice_list fun x hx => by
  obtain ⟨a, _, rfl⟩ := List.mem_map.mp hx
  exact nice_int 0 _
theorem rows_row (n : Nat) (f : Nat → Nat → Int) : rowsD n f = (List.range n).map (rowD n f) := rfl
theorem nice_tab (n : Nat) (f : Nat → Nat → Int) : Nice 2 (tabD n f) := nice_list fun x hx => by
  rw [rows_row] at hx
  obtain ⟨a, _, rfl⟩ := List.mem_map.mp hx
  exact nice_row n f a
theorem nice_bal (b : List Nat × Int) : Nice 2 (balD b) := nice_tuple fun x hx => by
  simp only [List.mem_cons, List.not_mem_nil, or_false] at hx
  rcases hx with rfl | rfl
  · exact nice_nD b.1
  · exact nice_int 1 _
theorem nice_bs (bs : List (List Nat × Int)) : Nice 3 (bsD bs) := nice_list fun x hx => by
  obtain ⟨a, _, rfl⟩ := List.mem_map.mp hx
  exact nice_bal a
theorem lc_rows {it : Si} {vs : List Nat} {g : Gm} {fe : Sm} {y : Bool} {ρ : EV.Env} (c e : Nat → D) (n : Nat) (h1 : 1 ≤ n) (h2 : n ≤ 20) (hit : it ρ = some ((List.range n).map c, y)) (hf : ∀ a, flatD (e a) = false)
    (h : ∀ x ∈ List.range n, ∃ ρ1, g (c x) y (wE ρ vs) = some ρ1 ∧ fe ρ1 = some (e x, .own 1 true)) : eLc it vs g tT fe ρ = some (.list ((List.range n).map e), .own 2 true) := by
  have cc := compL_map (g := g) (fe := fe) (y := y) (ρ := wE ρ vs) c (fun x => (e x, .own 1 true)) (List.range n) h
  have hm : mkL ((List.range n).map fun x => (e x, Md.own 1 true)) = some (.own 2 true) := by
    obtain ⟨k, rfl⟩ : ∃ k, n = k + 1 := ⟨n - 1, by omega⟩
    have f1 := flA_rows (fun x => (e x, Md.own 1 true)) 0 ((List.range k).map Nat.succ) (hf 0)
    rw [← List.range_succ_eq_map] at f1
    unfold mkL
    rw [if_neg (by rw [f1]; decide), if_pos (lvl1_own _ _ fun _ _ => ⟨true, rfl⟩), yAll_own _ _ fun _ _ => ⟨1, rfl⟩]
  rw [lc_of hit cc (by simp; omega) (elOk_own _ _ fun _ _ => ⟨1, true, rfl⟩) hm, List.map_map]
  rfl
theorem lc_bals {it : Si} {vs : List Nat} {g : Gm} {fe : Sm} {y : Bool} {ρ : EV.Env} (e : List Nat × Int → List Nat × Int) (bs : List (List Nat × Int)) (h2 : bs.length ≤ 24) (hit : it ρ = some (bs.map balD, y))
    (h : ∀ x ∈ bs, ∃ ρ1, g (balD x) y (wE ρ vs) = some ρ1 ∧ fe ρ1 = some (balD (e x), .own 0 true)) : eLc it vs g tT fe ρ = some (bsD (bs.map e), .own 1 true) := by
  have cc := compL_map (g := g) (fe := fe) (y := y) (ρ := wE ρ vs) balD (fun x => (balD (e x), .own 0 true)) bs h
  have hm : mkL (bs.map fun x => (balD (e x), Md.own 0 true)) = some (.own 1 true) := by
    cases bs with
    | nil => rfl
    | cons b bs =>
      have f1 := flA_rows (fun x => (balD (e x), Md.own 0 true)) b bs rfl
      have f2 : lvl1 ((b :: bs).map fun x => (balD (e x), Md.own 0 true)) = false := by
        rw [List.map_cons]; unfold lvl1; simp [balD, flatD]
      unfold mkL
      rw [if_neg (by rw [f1]; decide), if_neg (by rw [f2]; decide), if_pos (elOk_own _ _ fun _ _ => ⟨0, true, rfl⟩), yAll_own _ _ fun _ _ => ⟨0, rfl⟩]
  rw [lc_of hit cc (by simp; omega) (elOk_own _ _ fun _ _ => ⟨0, true, rfl⟩) hm, List.map_map]
  unfold bsD
  rw [List.map_map]
  rfl
theorem e_counted_ret (n : Nat) (hn : 1 ≤ n) (hn2 : n ≤ 20) (bs : List (List Nat × Int)) (h : ∀ b ∈ bs, Val n b) {fa fb : Sm} {ma mb : Md} {ρ : EV.Env} (ha : fa ρ = some (.int n, ma)) (hb : fb ρ = some (bsD bs, mb)) :
    eCall F_counted (aCons fa (aCons fb aNil)) ρ = some (tabD n (tot bs), .own 2 true) := call_of (a_cons ha (a_cons hb a_nil)) rfl (e_counted n hn hn2 bs h)
theorem rev_of {fa : Sm} {ds : List D} {m : Md} {ρ : EV.Env} (h : fa ρ = some (.list ds, m)) : eRev fa ρ = some (.list ds.reverse, mCp m ds.reverse) := by unfold eRev; rw [h]; rfl
theorem lo_of {fa : Sm} {ds : List D} {m : Md} {ρ : EV.Env} (h : fa ρ = some (.list ds, m)) : eLo fa ρ = some (.list ds, mCp m ds) := by unfold eLo; rw [h]; rfl
theorem zip_of {fa fb : Sm} {ds es : List D} {y z : Bool} {m k : Nat} {ρ : EV.Env} (h : fa ρ = some (.list ds, .own m y)) (h2 : fb ρ = some (.list es, .own k z)) : iZ fa fb ρ = some (zpD ds es, y && z) := by
  unfold iZ; rw [h, Option.bind_some, h2, Option.bind_some]; simp [elOk, yAll, flatD]
theorem par_of {i j : Nat} {fa fb : Sm} {d e : D} {m k : Nat} {y z : Bool} {ρ : EV.Env} (h : fa ρ = some (d, .own m y)) (h2 : fb ρ = some (e, .own k z)) : sPar i j (aCons fa (aCons fb aNil)) ρ = some (.nx ((ρ.set i (some (d, m, y))).set j (some (e, k, z)))) := by
  unfold sPar; rw [a_cons h (a_cons h2 a_nil)]; rfl
theorem app2_of {i : Nat} {rows row : List D} {y : Bool} {p pp : Nat} {fp fe : Sm} {mp me : Md} {x : D} {ρ : EV.Env} (hρ : ρ[i]? = some (some (.list rows, 2, y))) (h1 : fp ρ = some (.int p, mp)) (h2 : fe ρ = some (x, me)) (hp : p < rows.length) (hr : rows[p]? = some (.list row)) (hf : flatD x = true) (hl : row.length < 1000000) :
    sApp2 i fp fe ρ = some (.nx (ρ.set i (some (.list (rows.set p (.list (row ++ [x]))), 2, y)))) := by
  unfold sApp2
  rw [h1, Option.bind_some, h2, Option.bind_some, hρ]
  show (L2.ixN rows.length (p : Int)).bind _ = _
  rw [ixN_nat hp, Option.bind_some, hr, Option.bind_some]
  show (if _ then _ else _) = _
  rw [if_pos ⟨hf, hl⟩]
theorem app1L_of {i : Nat} {ds : List D} {d : D} {fe : Sm} {y ye : Bool} {ρ : EV.Env} (hρ : ρ[i]? = some (some (.list ds, 2, y))) (h : fe ρ = some (d, .own 1 ye)) (hl : ds.length < 1000000) : sApp i fe ρ = some (.nx (ρ.set i (some (.list (ds ++ [d]), 2, y && ye)))) := by
  unfold sApp
  rw [hρ]
  show (fe ρ).bind _ = _
  rw [h, Option.bind_some, if_pos hl]; rfl
theorem cut_bal_to (bs : List (List Nat × Int)) (k : Nat) (h : k ≤ bs.length) : cutG (bs.map balD) none (some (k : Int)) = (bs.take k).map balD := by
  rw [cut_to _ _ (by simpa using h), List.map_take]
theorem cut_bal_from (bs : List (List Nat × Int)) (k : Nat) (h : k ≤ bs.length) : cutG (bs.map balD) (some (k : Int)) none = (bs.drop k).map balD := by
  rw [cut_from _ _ (by simpa using h), List.map_drop]
def lE (sc : D) (w : Int) (o2 o3 o4 o5 o6 o7 o8 o9 o10 : Sl) : EV.Env := [some (sc, 0, false), some (.int w, 2, true), o2, o3, o4, o5, o6, o7, o8, o9, o10, none, none, none, none, none, none, none, none]
theorem law_size (sc : D) (w : Int) (o3 o4 o5 o6 o7 o8 o9 o10 : Sl) : ∃ n : Nat, 1 ≤ n ∧ n ≤ 20 ∧ ∀ g : Ss,
    sSeq (sAsg 2 (eB2 gAdd (eC (.int 1)) (eB2 gMod (eVar 1) (eC (.int 8))))) (sSeq (sIf (tV (eB2 gEq (eB2 gMod (eB2 gDiv (eVar 1) (eC (.int 8))) (eC (.int 16))) (eC (.int 3)))) (sAsg 2 (eB2 gAdd (eC (.int 9)) (eB2 gMod (eB2 gDiv (eVar 1) (eC (.int 128))) (eC (.int 12))))) sNil) g) (lE sc w none o3 o4 o5 o6 o7 o8 o9 o10) =
      g (lE sc w (some (.int n, 2, true)) o3 o4 o5 o6 o7 o8 o9 o10) := by
  let ρ := lE sc w none o3 o4 o5 o6 o7 o8 o9 o10
  have v1 : eVar 1 ρ = some (.int w, mF) := var_flat rfl rfl
  have s1 := asg_of (i := 2) (b2_of (c_of (.int 1) ρ) (b2_of v1 (c_of (.int 8) ρ) (gmod_of (by omega))) (ga_of _ _))
  let ρ1 := lE sc w (some (.int (1 + w.fmod 8), 2, true)) o3 o4 o5 o6 o7 o8 o9 o10
  have w1 : eVar 1 ρ1 = some (.int w, mF) := var_flat rfl rfl
  have e1 : eB2 gMod (eB2 gDiv (eVar 1) (eC (.int 8))) (eC (.int 16)) ρ1 = some (.int ((w.fdiv 8).fmod 16), mF) := b2_of (b2_of w1 (c_of _ _) (gd_of (by omega) (by omega))) (c_of _ _) (gmod_of (by omega))
  have t1 := tv_of (b2_of e1 (c_of (.int 3) ρ1) (gEq_nice (nice_int 0 _) (nice_int 0 _)))
  have s2 := asg_of (i := 2) (b2_of (c_of (.int 9) ρ1) (b2_of (b2_of w1 (c_of (.int 128) ρ1) (gd_of (by omega) (by omega))) (c_of (.int 12) ρ1) (gmod_of (by omega))) (ga_of _ _))
  obtain ⟨f1, f2⟩ := fm_rng w (j := 8) (by omega)
  obtain ⟨f3, f4⟩ := fm_rng (w.fdiv 128) (j := 12) (by omega)
  cases hq : PyData.eqv (.int ((w.fdiv 8).fmod 16)) (.int 3) with
  | true =>
    rw [hq] at t1
    refine ⟨(9 + (w.fdiv 128).fmod 12).toNat, by omega, by omega, fun g => ?_⟩
    rw [seq_nx s1]
    show sSeq _ g ρ1 = _
    rw [seq_nx (ρ' := lE sc w (some (.int (9 + (w.fdiv 128).fmod 12), 2, true)) o3 o4 o5 o6 o7 o8 o9 o10)]
    · rw [Int.toNat_of_nonneg (by omega)]
    · rw [if_t t1]; exact s2
  | false =>
    rw [hq] at t1
    refine ⟨(1 + w.fmod 8).toNat, by omega, by omega, fun g => ?_⟩
    rw [seq_nx s1]
    show sSeq _ g ρ1 = _
    rw [seq_nx (ρ' := ρ1)]
    · rw [Int.toNat_of_nonneg (by omega)]
    · rw [if_f t1]; rfl
def rowNegS : Sm := eLc (iS (eVar 13)) [14] (gN 14) tT (eU1 gNeg (eVar 14))
def rowAddS : Sm := eLc (iZ (eVar 15) (eVar 16)) [17, 18] (gT 2 (gsC (gN 17) (gsC (gN 18) gsN))) tT (eB2 gAdd (eVar 17) (eVar 18))
theorem neg_tab (sc : D) (w : Int) (n : Nat) (h1 : 1 ≤ n) (h2 : n ≤ 20) (f : Nat → Nat → Int) (o2 o3 o4 o6 o7 o8 o9 o10 : Sl) :
    eLc (iS (eVar 5)) [13] (gN 13) tT rowNegS (lE sc w o2 o3 o4 (some (tabD n f, 0, true)) o6 o7 o8 o9 o10) = some (tabD n (fun x y => - f x y), .own 2 true) := by
  have v : eVar 5 (lE sc w o2 o3 o4 (some (tabD n f, 0, true)) o6 o7 o8 o9 o10) = some (tabD n f, .own 0 true) := var_sh rfl rfl
  refine lc_rows (rowD n f) (rowD n fun x y => - f x y) n h1 h2 (is_l v) (fun _ => rfl) fun a _ => ⟨_, rfl, ?_⟩
  show rowNegS [some (sc, 0, false), some (.int w, 2, true), o2, o3, o4, some (tabD n f, 0, true), o6, o7, o8, o9, o10, none, none, some (rowD n f a, 0, true), none, none, none, none, none] = _
  have v13 : eVar 13 [some (sc, 0, false), some (.int w, 2, true), o2, o3, o4, some (tabD n f, 0, true), o6, o7, o8, o9, o10, none, none, some (rowD n f a, 0, true), none, none, none, none, none] = some (rowD n f a, .own 0 true) := var_sh rfl rfl
  refine lc_flat (fun b => .int (f a b)) (fun b => .int (- f a b)) (List.range n) (by simp; omega) (is_l v13) (fun _ _ => rfl) fun b _ => ⟨_, rfl, ?_⟩
  have v14 : eVar 14 [some (sc, 0, false), some (.int w, 2, true), o2, o3, o4, some (tabD n f, 0, true), o6, o7, o8, o9, o10, none, none, some (rowD n f a, 0, true), some (.int (f a b), 0, true), none, none, none, none] = some (.int (f a b), mF) := var_flat rfl rfl
  exact u1_of v14 rfl
theorem add_tab (sc : D) (w : Int) (n : Nat) (h1 : 1 ≤ n) (h2 : n ≤ 20) (f g : Nat → Nat → Int) (o2 o3 o4 o5 o6 o7 o8 : Sl) :
    eLc (iZ (eVar 9) (eVar 10)) [15, 16] (gT 2 (gsC (gN 15) (gsC (gN 16) gsN))) tT rowAddS (lE sc w o2 o3 o4 o5 o6 o7 o8 (some (tabD n f, 0, true)) (some (tabD n g, 0, true))) = some (tabD n (fun x y => f x y + g x y), .own 2 true) := by
  have v9 : eVar 9 (lE sc w o2 o3 o4 o5 o6 o7 o8 (some (tabD n f, 0, true)) (some (tabD n g, 0, true))) = some (tabD n f, .own 0 true) := var_sh rfl rfl
  have v10 : eVar 10 (lE sc w o2 o3 o4 o5 o6 o7 o8 (some (tabD n f, 0, true)) (some (tabD n g, 0, true))) = some (tabD n g, .own 0 true) := var_sh rfl rfl
  have z := zip_of v9 v10
  have hz : zpD (rowsD n f) (rowsD n g) = (List.range n).map fun a => .tuple [rowD n f a, rowD n g a] := by
    unfold zpD
    rw [rows_row, rows_row, List.zip_map', List.map_map]; rfl
  rw [hz] at z
  refine lc_rows (fun a => .tuple [rowD n f a, rowD n g a]) (rowD n fun x y => f x y + g x y) n h1 h2 z (fun _ => rfl) fun a _ => ⟨_, rfl, ?_⟩
  show rowAddS [some (sc, 0, false), some (.int w, 2, true), o2, o3, o4, o5, o6, o7, o8, some (tabD n f, 0, true), some (tabD n g, 0, true), none, none, none, none, some (rowD n f a, 0, true), some (rowD n g a, 0, true), none, none] = _
  have v15 : eVar 15 [some (sc, 0, false), some (.int w, 2, true), o2, o3, o4, o5, o6, o7, o8, some (tabD n f, 0, true), some (tabD n g, 0, true), none, none, none, none, some (rowD n f a, 0, true), some (rowD n g a, 0, true), none, none] = some (rowD n f a, .own 0 true) := var_sh rfl rfl
  have v16 : eVar 16 [some (sc, 0, false), some (.int w, 2, true), o2, o3, o4, o5, o6, o7, o8, some (tabD n f, 0, true), some (tabD n g, 0, true), none, none, none, none, some (rowD n f a, 0, true), some (rowD n g a, 0, true), none, none] = some (rowD n g a, .own 0 true) := var_sh rfl rfl
  have z2 := zip_of v15 v16
  have hz2 : zpD ((List.range n).map fun b => PyData.int (f a b)) ((List.range n).map fun b => PyData.int (g a b)) = (List.range n).map fun b => .tuple [.int (f a b), .int (g a b)] := by
    unfold zpD
    rw [List.zip_map', List.map_map]; rfl
  rw [hz2] at z2
  refine lc_flat (fun b => .tuple [.int (f a b), .int (g a b)]) (fun b => .int (f a b + g a b)) (List.range n) (by simp; omega) z2 (fun _ _ => rfl) fun b _ => ⟨_, rfl, ?_⟩
  have v17 : eVar 17 [some (sc, 0, false), some (.int w, 2, true), o2, o3, o4, o5, o6, o7, o8, some (tabD n f, 0, true), some (tabD n g, 0, true), none, none, none, none, some (rowD n f a, 0, true), some (rowD n g a, 0, true), some (.int (f a b), 0, true), some (.int (g a b), 0, true)] = some (.int (f a b), mF) := var_flat rfl rfl
  have v18 : eVar 18 [some (sc, 0, false), some (.int w, 2, true), o2, o3, o4, o5, o6, o7, o8, some (tabD n f, 0, true), some (tabD n g, 0, true), none, none, none, none, some (rowD n f a, 0, true), some (rowD n g a, 0, true), some (.int (f a b), 0, true), some (.int (g a b), 0, true)] = some (.int (g a b), mF) := var_flat rfl rfl
  exact b2_of v17 v18 (ga_of _ _)
theorem copy_bs (sc : D) (w : Int) (bs : List (List Nat × Int)) (hb : bs.length ≤ 24) (o2 o4 o5 o6 o7 o8 o9 o10 : Sl) :
    eLc (iS (eVar 3)) [11, 12] (gT 2 (gsC (gN 11) (gsC (gN 12) gsN))) tT (eTup (aCons (eLo (eVar 11)) (aCons (eVar 12) aNil))) (lE sc w o2 (some (bsD bs, 0, true)) o4 o5 o6 o7 o8 o9 o10) = some (bsD bs, .own 1 true) := by
  have v : eVar 3 (lE sc w o2 (some (bsD bs, 0, true)) o4 o5 o6 o7 o8 o9 o10) = some (bsD bs, .own 0 true) := var_sh rfl rfl
  have r := lc_bals (it := iS (eVar 3)) (vs := [11, 12]) (g := gT 2 (gsC (gN 11) (gsC (gN 12) gsN))) (fe := eTup (aCons (eLo (eVar 11)) (aCons (eVar 12) aNil))) (y := true) (ρ := lE sc w o2 (some (bsD bs, 0, true)) o4 o5 o6 o7 o8 o9 o10) (fun b => b) bs hb (is_l v) fun b _ => ⟨_, rfl, by
    show eTup (aCons (eLo (eVar 11)) (aCons (eVar 12) aNil)) [some (sc, 0, false), some (.int w, 2, true), o2, some (bsD bs, 0, true), o4, o5, o6, o7, o8, o9, o10, some (ordD b.1, 0, true), some (.int b.2, 0, true), none, none, none, none, none, none] = _
    have v11 : eVar 11 [some (sc, 0, false), some (.int w, 2, true), o2, some (bsD bs, 0, true), o4, o5, o6, o7, o8, o9, o10, some (ordD b.1, 0, true), some (.int b.2, 0, true), none, none, none, none, none, none] = some (ordD b.1, .own 0 true) := var_sh rfl rfl
    have v12 : eVar 12 [some (sc, 0, false), some (.int w, 2, true), o2, some (bsD bs, 0, true), o4, o5, o6, o7, o8, o9, o10, some (ordD b.1, 0, true), some (.int b.2, 0, true), none, none, none, none, none, none] = some (.int b.2, mF) := var_flat rfl rfl
    have c1 := lo_of v11
    rw [show mCp (.own 0 true) (b.1.map nD) = .own 1 true by unfold mCp; rw [if_pos (all_flat _)]] at c1
    exact tup_of (a_cons c1 (a_cons v12 a_nil)) (by simp) rfl⟩
  rwa [List.map_id'] at r
theorem rev_bs (sc : D) (w : Int) (bs : List (List Nat × Int)) (hb : bs.length ≤ 24) (o2 o4 o5 o6 o7 o8 o9 o10 : Sl) :
    eLc (iS (eVar 3)) [11, 12] (gT 2 (gsC (gN 11) (gsC (gN 12) gsN))) tT (eTup (aCons (eRev (eVar 11)) (aCons (eVar 12) aNil))) (lE sc w o2 (some (bsD bs, 0, true)) o4 o5 o6 o7 o8 o9 o10) = some (bsD (bs.map fun b => (b.1.reverse, b.2)), .own 1 true) := by
  have v : eVar 3 (lE sc w o2 (some (bsD bs, 0, true)) o4 o5 o6 o7 o8 o9 o10) = some (bsD bs, .own 0 true) := var_sh rfl rfl
  refine lc_bals (fun b => (b.1.reverse, b.2)) bs hb (is_l v) fun b _ => ⟨_, rfl, ?_⟩
  show eTup (aCons (eRev (eVar 11)) (aCons (eVar 12) aNil)) [some (sc, 0, false), some (.int w, 2, true), o2, some (bsD bs, 0, true), o4, o5, o6, o7, o8, o9, o10, some (ordD b.1, 0, true), some (.int b.2, 0, true), none, none, none, none, none, none] = _
  have v11 : eVar 11 [some (sc, 0, false), some (.int w, 2, true), o2, some (bsD bs, 0, true), o4, o5, o6, o7, o8, o9, o10, some (ordD b.1, 0, true), some (.int b.2, 0, true), none, none, none, none, none, none] = some (ordD b.1, .own 0 true) := var_sh rfl rfl
  have v12 : eVar 12 [some (sc, 0, false), some (.int w, 2, true), o2, some (bsD bs, 0, true), o4, o5, o6, o7, o8, o9, o10, some (ordD b.1, 0, true), some (.int b.2, 0, true), none, none, none, none, none, none] = some (.int b.2, mF) := var_flat rfl rfl
  have c1 := rev_of v11
  rw [← List.map_reverse, show mCp (.own 0 true) (b.1.reverse.map nD) = .own 1 true by unfold mCp; rw [if_pos (all_flat _)]] at c1
  exact tup_of (a_cons c1 (a_cons v12 a_nil)) (by simp) rfl
theorem val_rev {n : Nat} {b : List Nat × Int} (v : Val n b) : Val n (b.1.reverse, b.2) :=
  ⟨(List.reverse_perm _).nodup_iff.mpr v.nd, by simpa using v.ln, fun x hx => v.lt x (by simpa using hx), v.m1⟩
end K01
namespace K01
open PySem EV
open Builtin.Int (intBits)
theorem end_one (sc : D) (w : Int) (o2 o3 o4 o5 o6 o7 o8 o9 o10 : Sl) :
    (eAnd (eB2 gEq (eCall F_counted (aCons (eC (.int 1)) (aCons (eLst (aCons (eTup (aCons (eLst (aCons (eC (.int 0)) aNil)) (aCons (eC (.int 5)) aNil))) aNil)) aNil))) (eLst (aCons (eLst (aCons (eC (.int 0)) aNil)) aNil))) (eB2 gEq (eCall F_counted (aCons (eC (.int 2)) (aCons (eLst (aCons (eTup (aCons (eLst (aCons (eC (.int 1)) (aCons (eC (.int 0)) aNil))) (aCons (eC (.int 2)) aNil))) (aCons (eTup (aCons (eLst (aCons (eC (.int 0)) (aCons (eC (.int 1)) aNil))) (aCons (eC (.int 5)) aNil))) aNil))) aNil))) (eLst (aCons (eLst (aCons (eC (.int 0)) (aCons (eC (.int 3)) aNil))) (aCons (eLst (aCons (eU1 gNeg (eC (.int 3))) (aCons (eC (.int 0)) aNil))) aNil))))) (lE sc w o2 o3 o4 o5 o6 o7 o8 o9 o10) = some (.bool true, mF) := by
  let ρ := lE sc w o2 o3 o4 o5 o6 o7 o8 o9 o10
  have p1 : Val 1 ([0], 5) := ⟨by decide, rfl, by decide, by decide⟩
  have p2 : Val 2 ([1, 0], 2) := ⟨by decide, rfl, by decide, by decide⟩
  have p3 : Val 2 ([0, 1], 5) := ⟨by decide, rfl, by decide, by decide⟩
  have a1 : eLst (aCons (eTup (aCons (eLst (aCons (eC (.int 0)) aNil)) (aCons (eC (.int 5)) aNil))) aNil) ρ = some (bsD [([0], 5)], .own 1 true) :=
    lst_of (a_cons (tup_of (a_cons (lst_of (a_cons (c_of _ _) a_nil) (by simp) rfl) (a_cons (c_of _ _) a_nil)) (by simp) rfl) a_nil) (by simp) rfl
  have a2 : eLst (aCons (eTup (aCons (eLst (aCons (eC (.int 1)) (aCons (eC (.int 0)) aNil))) (aCons (eC (.int 2)) aNil))) (aCons (eTup (aCons (eLst (aCons (eC (.int 0)) (aCons (eC (.int 1)) aNil))) (aCons (eC (.int 5)) aNil))) aNil)) ρ = some (bsD [([1, 0], 2), ([0, 1], 5)], .own 1 true) :=
    lst_of (a_cons (tup_of (a_cons (lst_of (a_cons (c_of _ _) (a_cons (c_of _ _) a_nil)) (by simp) rfl) (a_cons (c_of _ _) a_nil)) (by simp) rfl) (a_cons (tup_of (a_cons (lst_of (a_cons (c_of _ _) (a_cons (c_of _ _) a_nil)) (by simp) rfl) (a_cons (c_of _ _) a_nil)) (by simp) rfl) a_nil)) (by simp) rfl
  have b1 := e_counted_ret 1 (by omega) (by omega) [([0], 5)] (by intro b hb; rw [List.mem_singleton.mp hb]; exact p1) (c_of (.int 1) ρ) a1
  have b2 := e_counted_ret 2 (by omega) (by omega) [([1, 0], 2), ([0, 1], 5)] (by
    intro b hb
    simp only [List.mem_cons, List.not_mem_nil, or_false] at hb
    rcases hb with rfl | rfl
    · exact p2
    · exact p3) (c_of (.int 2) ρ) a2
  have t1 : tabD 1 (tot [([0], 5)]) = .list [.list [.int 0]] := rfl
  have t2 : tabD 2 (tot [([1, 0], 2), ([0, 1], 5)]) = .list [.list [.int 0, .int 3], .list [.int (-3), .int 0]] := rfl
  rw [t1] at b1
  rw [t2] at b2
  have c1 : eLst (aCons (eLst (aCons (eC (.int 0)) aNil)) aNil) ρ = some (.list [.list [.int 0]], .own 2 true) :=
    lst_of (a_cons (lst_of (a_cons (c_of _ _) a_nil) (by simp) rfl) a_nil) (by simp) rfl
  have c2 : eLst (aCons (eLst (aCons (eC (.int 0)) (aCons (eC (.int 3)) aNil))) (aCons (eLst (aCons (eU1 gNeg (eC (.int 3))) (aCons (eC (.int 0)) aNil))) aNil)) ρ = some (.list [.list [.int 0, .int 3], .list [.int (-3), .int 0]], .own 2 true) :=
    lst_of (a_cons (lst_of (a_cons (c_of _ _) (a_cons (c_of _ _) a_nil)) (by simp) rfl) (a_cons (lst_of (a_cons (u1_of (c_of _ _) rfl) (a_cons (c_of _ _) a_nil)) (by simp) rfl) a_nil)) (by simp) rfl
  have n1 : Nice 2 (.list [.list [.int 0]]) := by rw [← t1]; exact nice_tab _ _
  have n2 : Nice 2 (.list [.list [.int 0, .int 3], .list [.int (-3), .int 0]]) := by rw [← t2]; exact nice_tab _ _
  rw [and_t (b2_of b1 c1 (gEq_same n1))]
  exact b2_of b2 c2 (gEq_same n2)
theorem e_law (ns : List Int) (hb : ∀ c ∈ ns, intBits c ≤ 2 ^ 20) : F_law [.list (ns.map PyData.int)] = some (.bool true, 2) := by
  let sc : D := .list (ns.map PyData.int)
  let w : Int := (ns.take 63).sum
  refine run_rt ?_
  let ρ0 : EV.Env := [some (sc, 0, false), none, none, none, none, none, none, none, none, none, none, none, none, none, none, none, none, none, none]
  show g_law ρ0 = _
  have s1 : sAsg 1 (eU1 gSum (eSl (eVar 0) oN (oS (eC (.int 63))))) ρ0 = some (.nx (lE sc w none none none none none none none none none)) := by
    have a1 : eVar 0 ρ0 = some (sc, .own 0 false) := var_sh rfl rfl
    have a2 := sl_of a1 o_n (o_s (c_of (.int 63) ρ0))
    rw [show ((63 : Int)) = ((63 : Nat) : Int) from rfl, cutN] at a2
    exact asg_of (u1_of a2 (gSum_ints _))
  obtain ⟨n, h1, h2, hsz⟩ := law_size sc w none none none none none none none none
  obtain ⟨bs, hbs, hv, hl⟩ := e_lballots ns n h2 hb
  let oN2 : Sl := some (.int n, 2, true)
  let T := tabD n (tot bs)
  unfold g_law
  rw [seq_nx s1, hsz]
  -- the ballots
  let ρ1 := lE sc w oN2 none none none none none none none none
  have s4 : sAsg 3 (eCall F__law_ballots (aCons (eVar 0) (aCons (eVar 2) aNil))) ρ1 = some (.nx (lE sc w oN2 (some (bsD bs, 1, true)) none none none none none none none)) := by
    have a0 : eVar 0 ρ1 = some (sc, .own 0 false) := var_sh rfl rfl
    have a2 : eVar 2 ρ1 = some (.int n, mF) := var_flat rfl rfl
    exact asg_of (call_of (a_cons a0 (a_cons a2 a_nil)) rfl hbs)
  rw [seq_nx s4]
  -- what is handed in
  rw [seq_nx (ρ' := lE sc w oN2 (some (bsD bs, 0, true)) (some (bsD bs, 1, true)) none none none none none none)]
  rotate_left
  · rw [sh_of (ρ' := lE sc w oN2 (some (bsD bs, 0, true)) none none none none none none none) rfl]
    exact asg_of (copy_bs sc w bs hl _ _ _ _ _ _ _ _)
  -- what is due
  let ρ3 := lE sc w oN2 (some (bsD bs, 0, true)) (some (bsD bs, 1, true)) none none none none none none
  have c2 : eVar 2 ρ3 = some (.int n, mF) := var_flat rfl rfl
  have c3 : eVar 3 ρ3 = some (bsD bs, .own 0 true) := var_sh rfl rfl
  rw [seq_nx (ρ' := lE sc w oN2 (some (bsD bs, 0, true)) (some (bsD bs, 1, true)) (some (T, 2, true)) none none none none none) (asg_of (call_of (a_cons c2 (a_cons c3 a_nil)) rfl (e_lcount n h1 h2 bs hv)))]
  let ρ4 := lE sc w oN2 (some (bsD bs, 0, true)) (some (bsD bs, 1, true)) (some (T, 2, true)) none none none none none
  have d2 : eVar 2 ρ4 = some (.int n, mF) := var_flat rfl rfl
  have d4 : eVar 4 ρ4 = some (bsD bs, .bor) := var_bor rfl rfl
  rw [seq_nx (ρ' := lE sc w oN2 (some (bsD bs, 0, true)) (some (bsD bs, 1, true)) (some (T, 2, true)) (some (T, 2, true)) none none none none) (asg_of (e_counted_ret n h1 h2 bs hv d2 d4))]
  let ρ5 := lE sc w oN2 (some (bsD bs, 0, true)) (some (bsD bs, 1, true)) (some (T, 2, true)) (some (T, 2, true)) none none none none
  have f2 : eVar 2 ρ5 = some (.int n, mF) := var_flat rfl rfl
  have f3 : eVar 3 ρ5 = some (bsD bs, .own 0 true) := var_sh rfl rfl
  have f4 : eVar 4 ρ5 = some (bsD bs, .bor) := var_bor rfl rfl
  have f5 : eVar 5 ρ5 = some (T, .bor) := var_bor rfl rfl
  have f6 : eVar 6 ρ5 = some (T, .bor) := var_bor rfl rfl
  rw [seq_nx (ρ' := ρ5)]
  rotate_left
  · rw [if_f]
    · rfl
    · rw [to_f (tn_of (tv_of (call_of (a_cons f6 (a_cons f2 a_nil)) rfl (e_istab n h2 _))))]
      rw [to_f (tv_of (b2_of f6 f5 (gNe_same (nice_tab n _))))]
      exact tv_of (b2_of f4 f3 (gNe_same (nice_bs bs)))
  -- turned about
  let B := tabD n (fun x y => - tot bs x y)
  rw [seq_nx (ρ' := lE sc w oN2 (some (bsD bs, 0, true)) (some (bsD bs, 1, true)) (some (T, 2, true)) (some (T, 2, true)) (some (B, 2, true)) none none none)]
  rotate_left
  · rw [sh_of (ρ' := ρ5) rfl]
    have r := e_counted_ret n h1 h2 (bs.map fun b => (b.1.reverse, b.2)) (by
      intro b hb
      obtain ⟨b0, hb0, rfl⟩ := List.mem_map.mp hb
      exact val_rev (hv b0 hb0)) f2 (rev_bs sc w bs hl oN2 (some (bsD bs, 1, true)) (some (T, 2, true)) (some (T, 2, true)) none none none none)
    have e : tot (bs.map fun b => (b.1.reverse, b.2)) = fun x y => - tot bs x y := by
      funext x y; exact tot_rev bs x y
    rw [e] at r
    exact asg_of r
  let ρ6 := lE sc w oN2 (some (bsD bs, 0, true)) (some (bsD bs, 1, true)) (some (T, 0, true)) (some (T, 2, true)) (some (B, 2, true)) none none none
  rw [seq_nx (ρ' := ρ6)]
  rotate_left
  · rw [sh_of (ρ' := ρ6) rfl, if_f]
    · rfl
    · have g7 : eVar 7 ρ6 = some (B, .bor) := var_bor rfl rfl
      exact tv_of (b2_of g7 (neg_tab sc w n h1 h2 (tot bs) _ _ _ _ _ _ _ _) (gNe_same (nice_tab n _)))
  -- in two parts
  have g1 : eVar 1 ρ6 = some (.int w, mF) := var_flat rfl rfl
  have g3 : eVar 3 ρ6 = some (bsD bs, .own 0 true) := var_sh rfl rfl
  obtain ⟨q1, q2⟩ := fm_rng (w.fdiv 3) (j := (bs.length : Int) + 1) (by omega)
  obtain ⟨k, hk⟩ : ∃ k : Nat, (w.fdiv 3).fmod ((bs.length : Int) + 1) = k := ⟨((w.fdiv 3).fmod ((bs.length : Int) + 1)).toNat, by omega⟩
  have hkl : k ≤ bs.length := by omega
  let ρ7 := lE sc w oN2 (some (bsD bs, 0, true)) (some (bsD bs, 1, true)) (some (T, 0, true)) (some (T, 2, true)) (some (B, 2, true)) (some (nD k, 2, true)) none none
  rw [seq_nx (ρ' := ρ7)]
  rotate_left
  · have len : eU1 gLen (eVar 3) ρ6 = some (.int bs.length, mF) := u1_of g3 (by simp [bsD, gLen])
    have := b2_of (b2_of g1 (c_of (.int 3) ρ6) (gd_of (by omega) (by omega))) (b2_of len (c_of (.int 1) ρ6) (ga_of _ _)) (gmod_of (by omega))
    rw [hk] at this
    exact asg_of this
  have k2 : eVar 2 ρ7 = some (.int n, mF) := var_flat rfl rfl
  have k3 : eVar 3 ρ7 = some (bsD bs, .own 0 true) := var_sh rfl rfl
  have k8 : eVar 8 ρ7 = some (nD k, mF) := var_flat rfl rfl
  have k9 := sl_of k3 o_n (o_s k8)
  have k10 := sl_of k3 (o_s k8) o_n
  rw [cut_bal_to bs k hkl] at k9
  rw [cut_bal_from bs k hkl] at k10
  have p9 := e_counted_ret n h1 h2 (bs.take k) (fun b hb => hv b (List.mem_of_mem_take hb)) k2 k9
  have p10 := e_counted_ret n h1 h2 (bs.drop k) (fun b hb => hv b (List.mem_of_mem_drop hb)) k2 k10
  let A9 := tabD n (tot (bs.take k))
  let A10 := tabD n (tot (bs.drop k))
  rw [seq_nx (ρ' := lE sc w oN2 (some (bsD bs, 0, true)) (some (bsD bs, 1, true)) (some (T, 0, true)) (some (T, 2, true)) (some (B, 2, true)) (some (nD k, 2, true)) (some (A9, 2, true)) (some (A10, 2, true))) (par_of p9 p10)]
  let ρ8 := lE sc w oN2 (some (bsD bs, 0, true)) (some (bsD bs, 1, true)) (some (T, 0, true)) (some (T, 2, true)) (some (B, 2, true)) (some (nD k, 2, true)) (some (A9, 0, true)) (some (A10, 0, true))
  rw [seq_nx (ρ' := ρ8)]
  rotate_left
  · rw [sh_of (ρ' := lE sc w oN2 (some (bsD bs, 0, true)) (some (bsD bs, 1, true)) (some (T, 0, true)) (some (T, 2, true)) (some (B, 2, true)) (some (nD k, 2, true)) (some (A9, 2, true)) (some (A10, 0, true))) rfl, sh_of (ρ' := ρ8) rfl, if_f]
    · rfl
    · have a := add_tab sc w n h1 h2 (tot (bs.take k)) (tot (bs.drop k)) oN2 (some (bsD bs, 0, true)) (some (bsD bs, 1, true)) (some (T, 0, true)) (some (T, 2, true)) (some (B, 2, true)) (some (nD k, 2, true))
      have e : (fun x y => tot (bs.take k) x y + tot (bs.drop k) x y) = tot bs := by
        funext x y
        rw [← tot_append, List.take_append_drop]
      rw [e] at a
      have v5 : eVar 5 ρ8 = some (T, .own 0 true) := var_sh rfl rfl
      exact tv_of (b2_of a v5 (gNe_same (nice_tab n _)))
  -- what was told is changed
  let R := (rowsD n (tot bs)).set 0 (.list ((List.range n).map (fun b => PyData.int (tot bs 0 b)) ++ [.int 1]))
  let ρ9 := lE sc w oN2 (some (bsD bs, 0, true)) (some (bsD bs, 1, true)) (some (T, 0, true)) (some (.list R, 2, true)) (some (B, 2, true)) (some (nD k, 2, true)) (some (A9, 0, true)) (some (A10, 0, true))
  rw [seq_nx (ρ' := ρ9)]
  rotate_left
  · exact app2_of (p := 0) (pp := 0) (rows := rowsD n (tot bs)) (row := (List.range n).map fun b => PyData.int (tot bs 0 b)) (y := true) rfl (c_of _ _) (c_of _ _) (by rw [rowsD_len]; omega) (rowsD_get (by omega)) rfl (by simp; omega)
  rw [seq_nx (ρ' := ρ9)]
  rotate_left
  · have v5 : eVar 5 ρ9 = some (T, .own 0 true) := var_sh rfl rfl
    have v6 : eVar 6 ρ9 = some (.list R, .bor) := var_bor rfl rfl
    have x5 := sl_of v5 (o_s (c_of (.int 1) ρ9)) o_n
    have x6 := sl_of v6 (o_s (c_of (.int 1) ρ9)) o_n
    have y5 : cutG (rowsD n (tot bs)) (some 1) none = (rowsD n (tot bs)).drop 1 := cut_from _ 1 (by rw [rowsD_len]; omega)
    have y6 : cutG R (some 1) none = (rowsD n (tot bs)).drop 1 := by
      have := cut_from R 1 (by simp only [R, List.length_set, rowsD_len]; omega)
      refine Eq.trans this ?_
      exact List.drop_set_of_lt (by omega)
    rw [y5] at x5
    rw [y6] at x6
    have nn : Nice 2 (.list ((rowsD n (tot bs)).drop 1)) := nice_list fun x hx => by
      have := List.mem_of_mem_drop hx
      rw [rows_row] at this
      obtain ⟨a, _, rfl⟩ := List.mem_map.mp this
      exact nice_row n _ a
    rw [if_f (tv_of (b2_of x6 x5 (gNe_same nn)))]
    rfl
  let ρ10 := lE sc w oN2 (some (bsD bs, 0, true)) (some (bsD bs, 1, true)) (some (T, 0, true)) (some (.list (R ++ [.list []]), 2, true)) (some (B, 2, true)) (some (nD k, 2, true)) (some (A9, 0, true)) (some (A10, 0, true))
  rw [seq_nx (ρ' := ρ10)]
  rotate_left
  · exact app1L_of (ds := R) (y := true) (ye := true) rfl (lst_of a_nil (by simp) rfl) (by simp only [R, List.length_set, rowsD_len]; omega)
  rw [seq_nx (ρ' := ρ10)]
  rotate_left
  · have v2 : eVar 2 ρ10 = some (.int n, mF) := var_flat rfl rfl
    have v3 : eVar 3 ρ10 = some (bsD bs, .own 0 true) := var_sh rfl rfl
    have v4 : eVar 4 ρ10 = some (bsD bs, .bor) := var_bor rfl rfl
    have v5 : eVar 5 ρ10 = some (T, .own 0 true) := var_sh rfl rfl
    rw [if_f]
    · rfl
    · rw [to_f (tv_of (b2_of (e_counted_ret n h1 h2 bs hv v2 v4) v5 (gNe_same (nice_tab n _))))]
      exact tv_of (b2_of v4 v3 (gNe_same (nice_bs bs)))
  exact ret_of (end_one sc w _ _ _ _ _ _ _ _ _)
end K01
namespace K01
open PySem PySem.Spec PyProof.Rows L2 EV
open PySem.W
theorem all_mk {l : PySem.W.OpenLaw} {q : Program} {loose : List Str} {XP : (Str → Option Value) → Heap → Prop} {w : World} {s₀ : Shared} {K : Fg} {h : Heap} {mg mb : Str → Option Value} {fa : Addr}
    {f_is_number : Addr} {oc_is_number kV_is_number dc_is_number pm_is_number cd_is_number ct_is_number : Value} {od_is_number an_is_number : Option Addr} {sl_is_number : Array (Option Value)}
    {f_is_count_of_candidates : Addr} {oc_is_count_of_candidates kV_is_count_of_candidates dc_is_count_of_candidates pm_is_count_of_candidates cd_is_count_of_candidates ct_is_count_of_candidates : Value} {od_is_count_of_candidates an_is_count_of_candidates : Option Addr} {sl_is_count_of_candidates : Array (Option Value)}
    {f_is_candidate : Addr} {oc_is_candidate kV_is_candidate dc_is_candidate pm_is_candidate cd_is_candidate ct_is_candidate : Value} {od_is_candidate an_is_candidate : Option Addr} {sl_is_candidate : Array (Option Value)}
    {f_are_unlike_candidates : Addr} {oc_are_unlike_candidates kV_are_unlike_candidates dc_are_unlike_candidates pm_are_unlike_candidates cd_are_unlike_candidates ct_are_unlike_candidates : Value} {od_are_unlike_candidates an_are_unlike_candidates : Option Addr} {sl_are_unlike_candidates : Array (Option Value)}
    {f_is_order : Addr} {oc_is_order kV_is_order dc_is_order pm_is_order cd_is_order ct_is_order : Value} {od_is_order an_is_order : Option Addr} {sl_is_order : Array (Option Value)}
    {f_is_pair : Addr} {oc_is_pair kV_is_pair dc_is_pair pm_is_pair cd_is_pair ct_is_pair : Value} {od_is_pair an_is_pair : Option Addr} {sl_is_pair : Array (Option Value)}
    {f_is_ballot : Addr} {oc_is_ballot kV_is_ballot dc_is_ballot pm_is_ballot cd_is_ballot ct_is_ballot : Value} {od_is_ballot an_is_ballot : Option Addr} {sl_is_ballot : Array (Option Value)}
    {f_are_ballots : Addr} {oc_are_ballots kV_are_ballots dc_are_ballots pm_are_ballots cd_are_ballots ct_are_ballots : Value} {od_are_ballots an_are_ballots : Option Addr} {sl_are_ballots : Array (Option Value)}
    {f_need_ballots : Addr} {oc_need_ballots kV_need_ballots dc_need_ballots pm_need_ballots cd_need_ballots ct_need_ballots : Value} {od_need_ballots an_need_ballots : Option Addr} {sl_need_ballots : Array (Option Value)}
    {f_tallied : Addr} {oc_tallied kV_tallied dc_tallied pm_tallied cd_tallied ct_tallied : Value} {od_tallied an_tallied : Option Addr} {sl_tallied : Array (Option Value)}
    {f_counted : Addr} {oc_counted kV_counted dc_counted pm_counted cd_counted ct_counted : Value} {od_counted an_counted : Option Addr} {sl_counted : Array (Option Value)}
    {f__law_number : Addr} {oc__law_number kV__law_number dc__law_number pm__law_number cd__law_number ct__law_number : Value} {od__law_number an__law_number : Option Addr} {sl__law_number : Array (Option Value)}
    {f__law_ballots : Addr} {oc__law_ballots kV__law_ballots dc__law_ballots pm__law_ballots cd__law_ballots ct__law_ballots : Value} {od__law_ballots an__law_ballots : Option Addr} {sl__law_ballots : Array (Option Value)}
    {f__law_count : Addr} {oc__law_count kV__law_count dc__law_count pm__law_count cd__law_count ct__law_count : Value} {od__law_count an__law_count : Option Addr} {sl__law_count : Array (Option Value)}
    {f__law_is_table : Addr} {oc__law_is_table kV__law_is_table dc__law_is_table pm__law_is_table cd__law_is_table ct__law_is_table : Value} {od__law_is_table an__law_is_table : Option Addr} {sl__law_is_table : Array (Option Value)}
    {f_law : Addr} {oc_law kV_law dc_law pm_law cd_law ct_law : Value} {od_law an_law : Option Addr} {sl_law : Array (Option Value)}
    {t_MOST_CANDIDATES : Tok}
    {r_are_unlike_candidates : DefRec}
    {r_are_ballots : DefRec}
    (X : K.In h) (GR : PySem.W.Ground q loose [] XP w s₀ mg mb h) (hfa : mg "law" = some (.ref fa))
    (a_is_number : PySem.W.nsIn K mainGlobals "is_number" = some (some (.ref f_is_number)))
    (l_is_number : K.lookup f_is_number = some ⟨oc_is_number, od_is_number, .func (PySem.W.fnOf "is_number" "is_number" (defArgs s_is_number) (defBody s_is_number) (defScope s_is_number) .none kV_is_number dc_is_number pm_is_number an_is_number cd_is_number ct_is_number), sl_is_number⟩)
    (c_is_number : PySem.W.codeIn K cd_is_number "is_number" = true) (h_is_number : PySem.W.keepIn K (.ref f_is_number) = true)
    (a_is_count_of_candidates : PySem.W.nsIn K mainGlobals "is_count_of_candidates" = some (some (.ref f_is_count_of_candidates)))
    (l_is_count_of_candidates : K.lookup f_is_count_of_candidates = some ⟨oc_is_count_of_candidates, od_is_count_of_candidates, .func (PySem.W.fnOf "is_count_of_candidates" "is_count_of_candidates" (defArgs s_is_count_of_candidates) (defBody s_is_count_of_candidates) (defScope s_is_count_of_candidates) .none kV_is_count_of_candidates dc_is_count_of_candidates pm_is_count_of_candidates an_is_count_of_candidates cd_is_count_of_candidates ct_is_count_of_candidates), sl_is_count_of_candidates⟩)
    (c_is_count_of_candidates : PySem.W.codeIn K cd_is_count_of_candidates "is_count_of_candidates" = true) (h_is_count_of_candidates : PySem.W.keepIn K (.ref f_is_count_of_candidates) = true)
    (a_is_candidate : PySem.W.nsIn K mainGlobals "is_candidate" = some (some (.ref f_is_candidate)))
    (l_is_candidate : K.lookup f_is_candidate = some ⟨oc_is_candidate, od_is_candidate, .func (PySem.W.fnOf "is_candidate" "is_candidate" (defArgs s_is_candidate) (defBody s_is_candidate) (defScope s_is_candidate) .none kV_is_candidate dc_is_candidate pm_is_candidate an_is_candidate cd_is_candidate ct_is_candidate), sl_is_candidate⟩)
    (c_is_candidate : PySem.W.codeIn K cd_is_candidate "is_candidate" = true) (h_is_candidate : PySem.W.keepIn K (.ref f_is_candidate) = true)
    (a_are_unlike_candidates : PySem.W.nsIn K mainGlobals "are_unlike_candidates" = some (some (.ref f_are_unlike_candidates)))
    (l_are_unlike_candidates : K.lookup f_are_unlike_candidates = some ⟨oc_are_unlike_candidates, od_are_unlike_candidates, .func (PySem.W.fnOf "are_unlike_candidates" "are_unlike_candidates" (defArgs s_are_unlike_candidates) (defBody s_are_unlike_candidates) (defScope s_are_unlike_candidates) .none kV_are_unlike_candidates dc_are_unlike_candidates pm_are_unlike_candidates an_are_unlike_candidates cd_are_unlike_candidates ct_are_unlike_candidates), sl_are_unlike_candidates⟩)
    (c_are_unlike_candidates : PySem.W.codeIn K cd_are_unlike_candidates "are_unlike_candidates" = true) (h_are_unlike_candidates : PySem.W.keepIn K (.ref f_are_unlike_candidates) = true)
    (a_is_order : PySem.W.nsIn K mainGlobals "is_order" = some (some (.ref f_is_order)))
    (l_is_order : K.lookup f_is_order = some ⟨oc_is_order, od_is_order, .func (PySem.W.fnOf "is_order" "is_order" (defArgs s_is_order) (defBody s_is_order) (defScope s_is_order) .none kV_is_order dc_is_order pm_is_order an_is_order cd_is_order ct_is_order), sl_is_order⟩)
    (c_is_order : PySem.W.codeIn K cd_is_order "is_order" = true) (h_is_order : PySem.W.keepIn K (.ref f_is_order) = true)
    (a_is_pair : PySem.W.nsIn K mainGlobals "is_pair" = some (some (.ref f_is_pair)))
    (l_is_pair : K.lookup f_is_pair = some ⟨oc_is_pair, od_is_pair, .func (PySem.W.fnOf "is_pair" "is_pair" (defArgs s_is_pair) (defBody s_is_pair) (defScope s_is_pair) .none kV_is_pair dc_is_pair pm_is_pair an_is_pair cd_is_pair ct_is_pair), sl_is_pair⟩)
    (c_is_pair : PySem.W.codeIn K cd_is_pair "is_pair" = true) (h_is_pair : PySem.W.keepIn K (.ref f_is_pair) = true)
    (a_is_ballot : PySem.W.nsIn K mainGlobals "is_ballot" = some (some (.ref f_is_ballot)))
    (l_is_ballot : K.lookup f_is_ballot = some ⟨oc_is_ballot, od_is_ballot, .func (PySem.W.fnOf "is_ballot" "is_ballot" (defArgs s_is_ballot) (defBody s_is_ballot) (defScope s_is_ballot) .none kV_is_ballot dc_is_ballot pm_is_ballot an_is_ballot cd_is_ballot ct_is_ballot), sl_is_ballot⟩)
    (c_is_ballot : PySem.W.codeIn K cd_is_ballot "is_ballot" = true) (h_is_ballot : PySem.W.keepIn K (.ref f_is_ballot) = true)
    (a_are_ballots : PySem.W.nsIn K mainGlobals "are_ballots" = some (some (.ref f_are_ballots)))
    (l_are_ballots : K.lookup f_are_ballots = some ⟨oc_are_ballots, od_are_ballots, .func (PySem.W.fnOf "are_ballots" "are_ballots" (defArgs s_are_ballots) (defBody s_are_ballots) (defScope s_are_ballots) .none kV_are_ballots dc_are_ballots pm_are_ballots an_are_ballots cd_are_ballots ct_are_ballots), sl_are_ballots⟩)
    (c_are_ballots : PySem.W.codeIn K cd_are_ballots "are_ballots" = true) (h_are_ballots : PySem.W.keepIn K (.ref f_are_ballots) = true)
    (a_need_ballots : PySem.W.nsIn K mainGlobals "need_ballots" = some (some (.ref f_need_ballots)))
    (l_need_ballots : K.lookup f_need_ballots = some ⟨oc_need_ballots, od_need_ballots, .func (PySem.W.fnOf "need_ballots" "need_ballots" (defArgs s_need_ballots) (defBody s_need_ballots) (defScope s_need_ballots) .none kV_need_ballots dc_need_ballots pm_need_ballots an_need_ballots cd_need_ballots ct_need_ballots), sl_need_ballots⟩)
    (c_need_ballots : PySem.W.codeIn K cd_need_ballots "need_ballots" = true) (h_need_ballots : PySem.W.keepIn K (.ref f_need_ballots) = true)
    (a_tallied : PySem.W.nsIn K mainGlobals "tallied" = some (some (.ref f_tallied)))
    (l_tallied : K.lookup f_tallied = some ⟨oc_tallied, od_tallied, .func (PySem.W.fnOf "tallied" "tallied" (defArgs s_tallied) (defBody s_tallied) (defScope s_tallied) .none kV_tallied dc_tallied pm_tallied an_tallied cd_tallied ct_tallied), sl_tallied⟩)
    (c_tallied : PySem.W.codeIn K cd_tallied "tallied" = true) (h_tallied : PySem.W.keepIn K (.ref f_tallied) = true)
    (a_counted : PySem.W.nsIn K mainGlobals "counted" = some (some (.ref f_counted)))
    (l_counted : K.lookup f_counted = some ⟨oc_counted, od_counted, .func (PySem.W.fnOf "counted" "counted" (defArgs s_counted) (defBody s_counted) (defScope s_counted) .none kV_counted dc_counted pm_counted an_counted cd_counted ct_counted), sl_counted⟩)
    (c_counted : PySem.W.codeIn K cd_counted "counted" = true) (h_counted : PySem.W.keepIn K (.ref f_counted) = true)
    (a__law_number : PySem.W.nsIn K mainGlobals "_law_number" = some (some (.ref f__law_number)))
    (l__law_number : K.lookup f__law_number = some ⟨oc__law_number, od__law_number, .func (PySem.W.fnOf "_law_number" "_law_number" (defArgs s__law_number) (defBody s__law_number) (defScope s__law_number) .none kV__law_number dc__law_number pm__law_number an__law_number cd__law_number ct__law_number), sl__law_number⟩)
    (c__law_number : PySem.W.codeIn K cd__law_number "_law_number" = true) (h__law_number : PySem.W.keepIn K (.ref f__law_number) = true)
    (a__law_ballots : PySem.W.nsIn K mainGlobals "_law_ballots" = some (some (.ref f__law_ballots)))
    (l__law_ballots : K.lookup f__law_ballots = some ⟨oc__law_ballots, od__law_ballots, .func (PySem.W.fnOf "_law_ballots" "_law_ballots" (defArgs s__law_ballots) (defBody s__law_ballots) (defScope s__law_ballots) .none kV__law_ballots dc__law_ballots pm__law_ballots an__law_ballots cd__law_ballots ct__law_ballots), sl__law_ballots⟩)
    (c__law_ballots : PySem.W.codeIn K cd__law_ballots "_law_ballots" = true) (h__law_ballots : PySem.W.keepIn K (.ref f__law_ballots) = true)
    (a__law_count : PySem.W.nsIn K mainGlobals "_law_count" = some (some (.ref f__law_count)))
    (l__law_count : K.lookup f__law_count = some ⟨oc__law_count, od__law_count, .func (PySem.W.fnOf "_law_count" "_law_count" (defArgs s__law_count) (defBody s__law_count) (defScope s__law_count) .none kV__law_count dc__law_count pm__law_count an__law_count cd__law_count ct__law_count), sl__law_count⟩)
    (c__law_count : PySem.W.codeIn K cd__law_count "_law_count" = true) (h__law_count : PySem.W.keepIn K (.ref f__law_count) = true)
    (a__law_is_table : PySem.W.nsIn K mainGlobals "_law_is_table" = some (some (.ref f__law_is_table)))
    (l__law_is_table : K.lookup f__law_is_table = some ⟨oc__law_is_table, od__law_is_table, .func (PySem.W.fnOf "_law_is_table" "_law_is_table" (defArgs s__law_is_table) (defBody s__law_is_table) (defScope s__law_is_table) .none kV__law_is_table dc__law_is_table pm__law_is_table an__law_is_table cd__law_is_table ct__law_is_table), sl__law_is_table⟩)
    (c__law_is_table : PySem.W.codeIn K cd__law_is_table "_law_is_table" = true) (h__law_is_table : PySem.W.keepIn K (.ref f__law_is_table) = true)
    (a_law : PySem.W.nsIn K mainGlobals "law" = some (some (.ref f_law)))
    (l_law : K.lookup f_law = some ⟨oc_law, od_law, .func (PySem.W.fnOf "law" "law" (defArgs s_law) (defBody s_law) (defScope s_law) .none kV_law dc_law pm_law an_law cd_law ct_law), sl_law⟩)
    (c_law : PySem.W.codeIn K cd_law "law" = true) (h_law : PySem.W.keepIn K (.ref f_law) = true)
    (z_all : PySem.W.nsIn K mainGlobals "all" = some none)
    (z_bool : PySem.W.nsIn K mainGlobals "bool" = some none)
    (z_enumerate : PySem.W.nsIn K mainGlobals "enumerate" = some none)
    (z_int : PySem.W.nsIn K mainGlobals "int" = some none)
    (z_isinstance : PySem.W.nsIn K mainGlobals "isinstance" = some none)
    (z_len : PySem.W.nsIn K mainGlobals "len" = some none)
    (z_list : PySem.W.nsIn K mainGlobals "list" = some none)
    (z_range : PySem.W.nsIn K mainGlobals "range" = some none)
    (z_set : PySem.W.nsIn K mainGlobals "set" = some none)
    (z_sum : PySem.W.nsIn K mainGlobals "sum" = some none)
    (z_tuple : PySem.W.nsIn K mainGlobals "tuple" = some none)
    (z_zip : PySem.W.nsIn K mainGlobals "zip" = some none)
    (y_MOST_CANDIDATES : PySem.W.nsIn K mainGlobals "MOST_CANDIDATES" = some (some (.int 20 t_MOST_CANDIDATES)))
    (q_are_unlike_candidates : (recsOf q).find? (fun e => e.name == ("are_unlike_candidates" : Str)) = some r_are_unlike_candidates)
    (q_are_ballots : (recsOf q).find? (fun e => e.name == ("are_ballots" : Str)) = some r_are_ballots)
    (cl : kb_classed K = true)
    : ∃ (fd : FuncData) (T9 : List Addr), (∀ (s : Shared) (u : Value), BindsTo s fd ⟨[u], []⟩ [("_law_script", u)]) ∧ (∀ Q ∈ T9, K.lookup Q = none ∧ ∃ c ps, h.TableAt c Q ps ∧ TriplesOk ps.toList) ∧
        ∀ (bm : Addr) (ob : Obj) (base : Heap), K.In base → base.Ns mainGlobals mg → BMod base mainGlobals mg bm ob → FnOk l.prog w K mg base CX0 11 fa fd ["_law_script"] (spD K T9 1 F_law) := by
  have GN : h.Ns mainGlobals mg := GR.T.g
  have e := hfa.symm.trans (PySem.W.mg_of X GN a_law)
  cases e
  have T : Txt mg := ⟨PySem.W.mg_none_of X GN z_all, PySem.W.mg_none_of X GN z_bool, PySem.W.mg_none_of X GN z_enumerate, PySem.W.mg_none_of X GN z_int, PySem.W.mg_none_of X GN z_isinstance, PySem.W.mg_none_of X GN z_len, PySem.W.mg_none_of X GN z_list, PySem.W.mg_none_of X GN z_range, PySem.W.mg_none_of X GN z_set, PySem.W.mg_none_of X GN z_sum, PySem.W.mg_none_of X GN z_tuple, PySem.W.mg_none_of X GN z_zip, ⟨_, PySem.W.mg_of X GN y_MOST_CANDIDATES⟩⟩
  obtain ⟨C_are_unlike_candidates, Q_are_unlike_candidates, e_are_unlike_candidates, B_are_unlike_candidates⟩ := based_of_top GR.T q_are_unlike_candidates (PySem.W.mg_of X GN a_are_unlike_candidates) (X _ _ l_are_unlike_candidates) rfl
  obtain ⟨C_are_ballots, Q_are_ballots, e_are_ballots, B_are_ballots⟩ := based_of_top GR.T q_are_ballots (PySem.W.mg_of X GN a_are_ballots) (X _ _ l_are_ballots) rfl
  refine ⟨PySem.W.fnOf "law" "law" (defArgs s_law) (defBody s_law) (defScope s_law) .none kV_law dc_law pm_law an_law cd_law ct_law, [Q_are_unlike_candidates, Q_are_ballots], fun s v => .of_eq rfl, ?_, fun bm ob base Xb Gb BM => ?_⟩
  · intro Q hQ
    simp only [List.mem_cons, List.not_mem_nil, or_false] at hQ
    rcases hQ with rfl | rfl
    · exact ⟨lookup_none X cl B_are_unlike_candidates GN, C_are_unlike_candidates, #[], B_are_unlike_candidates.tab, by simp [TriplesOk]⟩
    · exact ⟨lookup_none X cl B_are_ballots GN, C_are_ballots, #[], B_are_ballots.tab, by simp [TriplesOk]⟩
  have F_is_number' := fun_mk (st := s_is_number) l_is_number c_is_number h_is_number
  have o_is_number : FnOk l.prog w K mg base CX0 1 f_is_number _ p_is_number (spD K [Q_are_unlike_candidates, Q_are_ballots] 1 F_is_number) := ok_is_number F_is_number' T 
  have b_is_number := F_is_number'.binds (ps := p_is_number) fun _ _ _ _ _ _ us hl => match us, hl with | [_], _ => rfl
  have k_is_number : Fk l.prog w K mg base "is_number" 1 p_is_number (spD K [Q_are_unlike_candidates, Q_are_ballots] 1 F_is_number) f_is_number _ := ⟨o_is_number, PySem.W.mg_of X GN a_is_number, h_is_number, b_is_number⟩
  have F_is_count_of_candidates' := fun_mk (st := s_is_count_of_candidates) l_is_count_of_candidates c_is_count_of_candidates h_is_count_of_candidates
  have o_is_count_of_candidates : FnOk l.prog w K mg base CX0 2 f_is_count_of_candidates _ p_is_count_of_candidates (spD K [Q_are_unlike_candidates, Q_are_ballots] 1 F_is_count_of_candidates) := ok_is_count_of_candidates F_is_count_of_candidates' T k_is_number
  have b_is_count_of_candidates := F_is_count_of_candidates'.binds (ps := p_is_count_of_candidates) fun _ _ _ _ _ _ us hl => match us, hl with | [_], _ => rfl
  have k_is_count_of_candidates : Fk l.prog w K mg base "is_count_of_candidates" 2 p_is_count_of_candidates (spD K [Q_are_unlike_candidates, Q_are_ballots] 1 F_is_count_of_candidates) f_is_count_of_candidates _ := ⟨o_is_count_of_candidates, PySem.W.mg_of X GN a_is_count_of_candidates, h_is_count_of_candidates, b_is_count_of_candidates⟩
  have F_is_candidate' := fun_mk (st := s_is_candidate) l_is_candidate c_is_candidate h_is_candidate
  have o_is_candidate : FnOk l.prog w K mg base CX0 2 f_is_candidate _ p_is_candidate (spD K [Q_are_unlike_candidates, Q_are_ballots] 2 F_is_candidate) := ok_is_candidate F_is_candidate' T k_is_number
  have b_is_candidate := F_is_candidate'.binds (ps := p_is_candidate) fun _ _ _ _ _ _ us hl => match us, hl with | [_, _], _ => rfl
  have k_is_candidate : Fk l.prog w K mg base "is_candidate" 2 p_is_candidate (spD K [Q_are_unlike_candidates, Q_are_ballots] 2 F_is_candidate) f_is_candidate _ := ⟨o_is_candidate, PySem.W.mg_of X GN a_is_candidate, h_is_candidate, b_is_candidate⟩
  have F_are_unlike_candidates' := fun_mk (st := s_are_unlike_candidates) l_are_unlike_candidates c_are_unlike_candidates h_are_unlike_candidates
  have o_are_unlike_candidates : FnOk l.prog w K mg base CX0 4 f_are_unlike_candidates _ p_are_unlike_candidates (spD K [Q_are_unlike_candidates, Q_are_ballots] 2 F_are_unlike_candidates) := ok_are_unlike_candidates F_are_unlike_candidates' T (Q := Q_are_unlike_candidates) (fun cdv z => by cases z; exact gc_of X c_are_unlike_candidates e_are_unlike_candidates B_are_unlike_candidates) (by simp) ⟨bm, ob, BM⟩ k_is_candidate
  have b_are_unlike_candidates := F_are_unlike_candidates'.binds (ps := p_are_unlike_candidates) fun _ _ _ _ _ _ us hl => match us, hl with | [_, _], _ => rfl
  have k_are_unlike_candidates : Fk l.prog w K mg base "are_unlike_candidates" 4 p_are_unlike_candidates (spD K [Q_are_unlike_candidates, Q_are_ballots] 2 F_are_unlike_candidates) f_are_unlike_candidates _ := ⟨o_are_unlike_candidates, PySem.W.mg_of X GN a_are_unlike_candidates, h_are_unlike_candidates, b_are_unlike_candidates⟩
  have F_is_order' := fun_mk (st := s_is_order) l_is_order c_is_order h_is_order
  have o_is_order : FnOk l.prog w K mg base CX0 5 f_is_order _ p_is_order (spD K [Q_are_unlike_candidates, Q_are_ballots] 2 F_is_order) := ok_is_order F_is_order' T k_are_unlike_candidates
  have b_is_order := F_is_order'.binds (ps := p_is_order) fun _ _ _ _ _ _ us hl => match us, hl with | [_, _], _ => rfl
  have k_is_order : Fk l.prog w K mg base "is_order" 5 p_is_order (spD K [Q_are_unlike_candidates, Q_are_ballots] 2 F_is_order) f_is_order _ := ⟨o_is_order, PySem.W.mg_of X GN a_is_order, h_is_order, b_is_order⟩
  have F_is_pair' := fun_mk (st := s_is_pair) l_is_pair c_is_pair h_is_pair
  have o_is_pair : FnOk l.prog w K mg base CX0 1 f_is_pair _ p_is_pair (spD K [Q_are_unlike_candidates, Q_are_ballots] 1 F_is_pair) := ok_is_pair F_is_pair' T 
  have b_is_pair := F_is_pair'.binds (ps := p_is_pair) fun _ _ _ _ _ _ us hl => match us, hl with | [_], _ => rfl
  have k_is_pair : Fk l.prog w K mg base "is_pair" 1 p_is_pair (spD K [Q_are_unlike_candidates, Q_are_ballots] 1 F_is_pair) f_is_pair _ := ⟨o_is_pair, PySem.W.mg_of X GN a_is_pair, h_is_pair, b_is_pair⟩
  have F_is_ballot' := fun_mk (st := s_is_ballot) l_is_ballot c_is_ballot h_is_ballot
  have o_is_ballot : FnOk l.prog w K mg base CX0 6 f_is_ballot _ p_is_ballot (spD K [Q_are_unlike_candidates, Q_are_ballots] 2 F_is_ballot) := ok_is_ballot F_is_ballot' T k_is_number k_is_order k_is_pair
  have b_is_ballot := F_is_ballot'.binds (ps := p_is_ballot) fun _ _ _ _ _ _ us hl => match us, hl with | [_, _], _ => rfl
  have k_is_ballot : Fk l.prog w K mg base "is_ballot" 6 p_is_ballot (spD K [Q_are_unlike_candidates, Q_are_ballots] 2 F_is_ballot) f_is_ballot _ := ⟨o_is_ballot, PySem.W.mg_of X GN a_is_ballot, h_is_ballot, b_is_ballot⟩
  have F_are_ballots' := fun_mk (st := s_are_ballots) l_are_ballots c_are_ballots h_are_ballots
  have o_are_ballots : FnOk l.prog w K mg base CX0 8 f_are_ballots _ p_are_ballots (spD K [Q_are_unlike_candidates, Q_are_ballots] 2 F_are_ballots) := ok_are_ballots F_are_ballots' T (Q := Q_are_ballots) (fun cdv z => by cases z; exact gc_of X c_are_ballots e_are_ballots B_are_ballots) (by simp) ⟨bm, ob, BM⟩ k_is_ballot
  have b_are_ballots := F_are_ballots'.binds (ps := p_are_ballots) fun _ _ _ _ _ _ us hl => match us, hl with | [_, _], _ => rfl
  have k_are_ballots : Fk l.prog w K mg base "are_ballots" 8 p_are_ballots (spD K [Q_are_unlike_candidates, Q_are_ballots] 2 F_are_ballots) f_are_ballots _ := ⟨o_are_ballots, PySem.W.mg_of X GN a_are_ballots, h_are_ballots, b_are_ballots⟩
  have F_need_ballots' := fun_mk (st := s_need_ballots) l_need_ballots c_need_ballots h_need_ballots
  have o_need_ballots : FnOk l.prog w K mg base CX0 9 f_need_ballots _ p_need_ballots (spD K [Q_are_unlike_candidates, Q_are_ballots] 2 F_need_ballots) := ok_need_ballots F_need_ballots' T k_is_count_of_candidates k_are_ballots
  have b_need_ballots := F_need_ballots'.binds (ps := p_need_ballots) fun _ _ _ _ _ _ us hl => match us, hl with | [_, _], _ => rfl
  have k_need_ballots : Fk l.prog w K mg base "need_ballots" 9 p_need_ballots (spD K [Q_are_unlike_candidates, Q_are_ballots] 2 F_need_ballots) f_need_ballots _ := ⟨o_need_ballots, PySem.W.mg_of X GN a_need_ballots, h_need_ballots, b_need_ballots⟩
  have F_tallied' := fun_mk (st := s_tallied) l_tallied c_tallied h_tallied
  have o_tallied : FnOk l.prog w K mg base CX0 1 f_tallied _ p_tallied (spD K [Q_are_unlike_candidates, Q_are_ballots] 2 F_tallied) := ok_tallied F_tallied' T 
  have b_tallied := F_tallied'.binds (ps := p_tallied) fun _ _ _ _ _ _ us hl => match us, hl with | [_, _], _ => rfl
  have k_tallied : Fk l.prog w K mg base "tallied" 1 p_tallied (spD K [Q_are_unlike_candidates, Q_are_ballots] 2 F_tallied) f_tallied _ := ⟨o_tallied, PySem.W.mg_of X GN a_tallied, h_tallied, b_tallied⟩
  have F_counted' := fun_mk (st := s_counted) l_counted c_counted h_counted
  have o_counted : FnOk l.prog w K mg base CX0 10 f_counted _ p_counted (spD K [Q_are_unlike_candidates, Q_are_ballots] 2 F_counted) := ok_counted F_counted' T k_need_ballots k_tallied
  have b_counted := F_counted'.binds (ps := p_counted) fun _ _ _ _ _ _ us hl => match us, hl with | [_, _], _ => rfl
  have k_counted : Fk l.prog w K mg base "counted" 10 p_counted (spD K [Q_are_unlike_candidates, Q_are_ballots] 2 F_counted) f_counted _ := ⟨o_counted, PySem.W.mg_of X GN a_counted, h_counted, b_counted⟩
  have F__law_number' := fun_mk (st := s__law_number) l__law_number c__law_number h__law_number
  have o__law_number : FnOk l.prog w K mg base CX0 1 f__law_number _ p__law_number (spD K [Q_are_unlike_candidates, Q_are_ballots] 3 F__law_number) := ok__law_number F__law_number' T 
  have b__law_number := F__law_number'.binds (ps := p__law_number) fun _ _ _ _ _ _ us hl => match us, hl with | [_, _, _], _ => rfl
  have k__law_number : Fk l.prog w K mg base "_law_number" 1 p__law_number (spD K [Q_are_unlike_candidates, Q_are_ballots] 3 F__law_number) f__law_number _ := ⟨o__law_number, PySem.W.mg_of X GN a__law_number, h__law_number, b__law_number⟩
  have F__law_ballots' := fun_mk (st := s__law_ballots) l__law_ballots c__law_ballots h__law_ballots
  have o__law_ballots : FnOk l.prog w K mg base CX0 2 f__law_ballots _ p__law_ballots (spD K [Q_are_unlike_candidates, Q_are_ballots] 2 F__law_ballots) := ok__law_ballots F__law_ballots' T k__law_number
  have b__law_ballots := F__law_ballots'.binds (ps := p__law_ballots) fun _ _ _ _ _ _ us hl => match us, hl with | [_, _], _ => rfl
  have k__law_ballots : Fk l.prog w K mg base "_law_ballots" 2 p__law_ballots (spD K [Q_are_unlike_candidates, Q_are_ballots] 2 F__law_ballots) f__law_ballots _ := ⟨o__law_ballots, PySem.W.mg_of X GN a__law_ballots, h__law_ballots, b__law_ballots⟩
  have F__law_count' := fun_mk (st := s__law_count) l__law_count c__law_count h__law_count
  have o__law_count : FnOk l.prog w K mg base CX0 1 f__law_count _ p__law_count (spD K [Q_are_unlike_candidates, Q_are_ballots] 2 F__law_count) := ok__law_count F__law_count' T 
  have b__law_count := F__law_count'.binds (ps := p__law_count) fun _ _ _ _ _ _ us hl => match us, hl with | [_, _], _ => rfl
  have k__law_count : Fk l.prog w K mg base "_law_count" 1 p__law_count (spD K [Q_are_unlike_candidates, Q_are_ballots] 2 F__law_count) f__law_count _ := ⟨o__law_count, PySem.W.mg_of X GN a__law_count, h__law_count, b__law_count⟩
  have F__law_is_table' := fun_mk (st := s__law_is_table) l__law_is_table c__law_is_table h__law_is_table
  have o__law_is_table : FnOk l.prog w K mg base CX0 1 f__law_is_table _ p__law_is_table (spD K [Q_are_unlike_candidates, Q_are_ballots] 2 F__law_is_table) := ok__law_is_table F__law_is_table' T 
  have b__law_is_table := F__law_is_table'.binds (ps := p__law_is_table) fun _ _ _ _ _ _ us hl => match us, hl with | [_, _], _ => rfl
  have k__law_is_table : Fk l.prog w K mg base "_law_is_table" 1 p__law_is_table (spD K [Q_are_unlike_candidates, Q_are_ballots] 2 F__law_is_table) f__law_is_table _ := ⟨o__law_is_table, PySem.W.mg_of X GN a__law_is_table, h__law_is_table, b__law_is_table⟩
  have F_law' := fun_mk (st := s_law) l_law c_law h_law
  have o_law : FnOk l.prog w K mg base CX0 11 fa _ p_law (spD K [Q_are_unlike_candidates, Q_are_ballots] 1 F_law) := ok_law F_law' T k_counted k__law_ballots k__law_count k__law_is_table
  exact o_law
end K01
open PySem PySem.W PyProof.Rows
open PySem PySem.W PyProof.Rows
set_option maxRecDepth 100000 in
set_option maxHeartbeats 0 in
theorem PySem.Challenge.cw_headcounts_k01_whole_counted_holds : PySem.Challenge.rw_headcounts_k01_whole_counted.Holds := by
  w_on; o_law; k_head; (case hw => w_witness2)
  k_fill
  refine EV.walk_T (l := PySem.Challenge.rw_headcounts_k01_whole_counted) (k := 11) (x := "_law_script") (Fd := K01.F_law) rfl rfl ⟨rfl, by decide, by decide⟩ (fun w h Y => PySem.W.kIn_of Y) ?F (fun ns _ hb => ⟨_, K01.e_law ns hb⟩)
  case F =>
    intro w s₀ mg mb fa h KX G hmg
    refine' K01.all_mk KX G hmg ?a_is_number ?l_is_number ?c_is_number ?h_is_number ?a_is_count_of_candidates ?l_is_count_of_candidates ?c_is_count_of_candidates ?h_is_count_of_candidates ?a_is_candidate ?l_is_candidate ?c_is_candidate ?h_is_candidate ?a_are_unlike_candidates ?l_are_unlike_candidates ?c_are_unlike_candidates ?h_are_unlike_candidates ?a_is_order ?l_is_order ?c_is_order ?h_is_order ?a_is_pair ?l_is_pair ?c_is_pair ?h_is_pair ?a_is_ballot ?l_is_ballot ?c_is_ballot ?h_is_ballot ?a_are_ballots ?l_are_ballots ?c_are_ballots ?h_are_ballots ?a_need_ballots ?l_need_ballots ?c_need_ballots ?h_need_ballots ?a_tallied ?l_tallied ?c_tallied ?h_tallied ?a_counted ?l_counted ?c_counted ?h_counted ?a__law_number ?l__law_number ?c__law_number ?h__law_number ?a__law_ballots ?l__law_ballots ?c__law_ballots ?h__law_ballots ?a__law_count ?l__law_count ?c__law_count ?h__law_count ?a__law_is_table ?l__law_is_table ?c__law_is_table ?h__law_is_table ?a_law ?l_law ?c_law ?h_law ?z_all ?z_bool ?z_enumerate ?z_int ?z_isinstance ?z_len ?z_list ?z_range ?z_set ?z_sum ?z_tuple ?z_zip ?y_MOST_CANDIDATES ?q_are_unlike_candidates ?q_are_ballots ?cl
    case a_is_number => k_is
    case l_is_number => k_is
    case c_is_number => k_is
    case h_is_number => k_is
    case a_is_count_of_candidates => k_is
    case l_is_count_of_candidates => k_is
    case c_is_count_of_candidates => k_is
    case h_is_count_of_candidates => k_is
    case a_is_candidate => k_is
    case l_is_candidate => k_is
    case c_is_candidate => k_is
    case h_is_candidate => k_is
    case a_are_unlike_candidates => k_is
    case l_are_unlike_candidates => k_is
    case c_are_unlike_candidates => k_is
    case h_are_unlike_candidates => k_is
    case a_is_order => k_is
    case l_is_order => k_is
    case c_is_order => k_is
    case h_is_order => k_is
    case a_is_pair => k_is
    case l_is_pair => k_is
    case c_is_pair => k_is
    case h_is_pair => k_is
    case a_is_ballot => k_is
    case l_is_ballot => k_is
    case c_is_ballot => k_is
    case h_is_ballot => k_is
    case a_are_ballots => k_is
    case l_are_ballots => k_is
    case c_are_ballots => k_is
    case h_are_ballots => k_is
    case a_need_ballots => k_is
    case l_need_ballots => k_is
    case c_need_ballots => k_is
    case h_need_ballots => k_is
    case a_tallied => k_is
    case l_tallied => k_is
    case c_tallied => k_is
    case h_tallied => k_is
    case a_counted => k_is
    case l_counted => k_is
    case c_counted => k_is
    case h_counted => k_is
    case a__law_number => k_is
    case l__law_number => k_is
    case c__law_number => k_is
    case h__law_number => k_is
    case a__law_ballots => k_is
    case l__law_ballots => k_is
    case c__law_ballots => k_is
    case h__law_ballots => k_is
    case a__law_count => k_is
    case l__law_count => k_is
    case c__law_count => k_is
    case h__law_count => k_is
    case a__law_is_table => k_is
    case l__law_is_table => k_is
    case c__law_is_table => k_is
    case h__law_is_table => k_is
    case a_law => k_is
    case l_law => k_is
    case c_law => k_is
    case h_law => k_is
    case z_all => k_is
    case z_bool => k_is
    case z_enumerate => k_is
    case z_int => k_is
    case z_isinstance => k_is
    case z_len => k_is
    case z_list => k_is
    case z_range => k_is
    case z_set => k_is
    case z_sum => k_is
    case z_tuple => k_is
    case z_zip => k_is
    case y_MOST_CANDIDATES => k_is
    case q_are_unlike_candidates => rfl
    case q_are_ballots => rfl
    case cl => kernel_rfl
