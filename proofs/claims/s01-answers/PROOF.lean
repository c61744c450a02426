import PyProof.Rows.All
import Wide.All
import OpenK.AllK
import Wide.FinOn
import PyProof.EqAt
import PyProof.EqKinds
import PyProof.TupleCall
import KE.BitLaws
import Open.SpecLaws
import KE.OsHead
import KE.OsGo
import KE.KSortRegAny
import PySem.Challenge.RW_cuesheets_s01_answers
set_option Elab.async false
set_option linter.all false
set_option maxRecDepth 100000
namespace L2
open PySem PySem.Spec PyProof.Rows
abbrev Key := Sum Int Str
def keyIs : Key → Value → Bool
  | .inl k, v => Value.isInt k v
  | .inr x, v => Value.isStrOf x v
def keyH (w : World) : Key → Int
  | .inl k => hashInt k
  | .inr x => hashStr w x
theorem keyIs_shape : ∀ {k : Key} {v : Value}, keyIs k v = true → (∃ i t, k = Sum.inl i ∧ v = Value.int i t) ∨ (∃ x t, k = Sum.inr x ∧ v = Value.str x t)
  | .inl i, v, h => by
    obtain ⟨t, e⟩ := Value.isInt_shape (k := i) (v := v) h
    exact .inl ⟨i, t, rfl, e⟩
  | .inr x, v, h => by
    obtain ⟨t, e⟩ := Value.isStrOf_shape (x := x) (v := v) h
    exact .inr ⟨x, t, rfl, e⟩
theorem keyIs_int (i : Int) (t : Tok) : keyIs (.inl i) (.int i t) = true := by simp [keyIs, Value.isInt]
theorem keyIs_str (x : Str) (t : Tok) : keyIs (.inr x) (.str x t) = true := by simp [keyIs, Value.isStrOf]
theorem key_ll (a b : Int) : decide ((Sum.inl a : Key) = Sum.inl b) = (a == b) := by
  by_cases e : a = b
  · subst e; simp
  · have h : ¬ (Sum.inl a : Key) = Sum.inl b := fun q => e (Sum.inl.inj q)
    rw [decide_eq_false h]
    exact (beq_eq_false_iff_ne.mpr e).symm
theorem key_rr (a b : Str) : decide ((Sum.inr a : Key) = Sum.inr b) = decide (a = b) := by
  by_cases e : a = b
  · subst e; simp
  · have h : ¬ (Sum.inr a : Key) = Sum.inr b := fun q => e (Sum.inr.inj q)
    rw [decide_eq_false h, decide_eq_false e]
theorem key_lr (a : Int) (b : Str) : decide ((Sum.inl a : Key) = Sum.inr b) = false := decide_eq_false (fun q => nomatch q)
theorem key_rl (a : Str) (b : Int) : decide ((Sum.inr a : Key) = Sum.inl b) = false := decide_eq_false (fun q => nomatch q)
def mixKind (prog : Program) (w : World) : PySem.KeyKind prog w Key where
  is := keyIs
  hash := keyH w
  inj := fun v a b ha hb => by
    rcases keyIs_shape ha with ⟨i, t, rfl, rfl⟩ | ⟨x, t, rfl, rfl⟩
    · rcases keyIs_shape hb with ⟨j, u, rfl, e⟩ | ⟨y, u, rfl, e⟩
      · injection e with e1 _; rw [e1]
      · exact nomatch e
    · rcases keyIs_shape hb with ⟨j, u, rfl, e⟩ | ⟨y, u, rfl, e⟩
      · exact nomatch e
      · injection e with e1 _; rw [e1]
  byValue := fun k v h => by
    rcases keyIs_shape h with ⟨i, t, rfl, rfl⟩ | ⟨x, t, rfl, rfl⟩ <;> rfl
  pyHash := fun hv h => by
    rcases keyIs_shape hv with ⟨i, t, rfl, rfl⟩ | ⟨x, t, rfl, rfl⟩
    · exact wpAny_pyHash_int h
    · exact wpAny_pyHash_str h
  eqBool := fun hu hv h => by
    rcases keyIs_shape hu with ⟨i, t, rfl, rfl⟩ | ⟨x, t, rfl, rfl⟩
    · rcases keyIs_shape hv with ⟨j, u, rfl, rfl⟩ | ⟨y, u, rfl, rfl⟩
      · rw [key_ll] at h; exact wpAny_eqBool_int h
      · rw [key_lr] at h; exact SeqAt.EqAt.int_str i t y u _ _ _ _ h
    · rcases keyIs_shape hv with ⟨j, u, rfl, rfl⟩ | ⟨y, u, rfl, rfl⟩
      · rw [key_rl] at h; exact SeqAt.EqAt.str_int x t j u _ _ _ _ h
      · rw [key_rr] at h; exact wpAny_eqBool_str h
  «strs» := fun k x t v h => by
    rcases keyIs_shape h with ⟨i, u, rfl, e⟩ | ⟨y, u, rfl, e⟩
    · exact nomatch e
    · injection e with e1 _
      subst e1
      cases v <;> rfl
theorem mixKind_int (prog : Program) (w : World) (i : Int) (t : Tok) : (mixKind prog w).is (.inl i) (.int i t) = true := keyIs_int i t
theorem mixKind_str (prog : Program) (w : World) (x : Str) (t : Tok) : (mixKind prog w).is (.inr x) (.str x t) = true := keyIs_str x t
end L2
namespace L2
open PySem PySem.Spec PyProof.Rows
inductive V where
  | non | bl (b : Bool) | int (i : Int) | str (x : Str) | byt (b : Array UInt8) | flt (b : UInt64) | ref (a : Addr) | ty (n : String)
  deriving DecidableEq
def RelV : V → Value → Prop
  | .non, u => u = Value.none
  | .bl b, u => u = Value.bool b
  | .int i, u => ∃ t, u = Value.int i t
  | .str x, u => ∃ t, u = Value.str x t
  | .byt b, u => ∃ t, u = Value.bytes b t
  | .flt b, u => ∃ t, u = Value.float b t
  | .ref a, u => u = Value.ref a
  | .ty n, u => u = Value.type n
abbrev Vals : List V → List Value → Prop := Paired RelV
theorem Vals.length {xs : List V} {us : List Value} (r : Vals xs us) : xs.length = us.length := Paired.length r
theorem Vals.get : ∀ {xs : List V} {us : List Value} {i : Nat} {x : V}, Vals xs us → xs[i]? = some x → ∃ u, us[i]? = some u ∧ RelV x u
  | _, _, _, _, .nil, e => by simp at e
  | _, _, 0, _, .cons r _, e => by simp at e; subst e; exact ⟨_, rfl, r⟩
  | _, _, i + 1, x, .cons _ t, e => by
    obtain ⟨u, h1, h2⟩ := Vals.get (i := i) (x := x) t (by simpa using e)
    exact ⟨u, by simpa using h1, h2⟩
theorem Vals.set {x : V} {u : Value} (r : RelV x u) : ∀ {xs : List V} {us : List Value} (i : Nat), Vals xs us → Vals (xs.set i x) (us.set i u)
  | _, _, _, .nil => .nil
  | _, _, 0, .cons _ t => .cons r t
  | _, _, i + 1, .cons q t => .cons q (Vals.set r i t)
theorem Vals.append : ∀ {xs ys : List V} {us ws : List Value}, Vals xs us → Vals ys ws → Vals (xs ++ ys) (us ++ ws)
  | _, _, _, _, .nil, s => s
  | _, _, _, _, .cons r t, s => .cons r (Vals.append t s)
theorem Vals.take : ∀ {xs : List V} {us : List Value} (n : Nat), Vals xs us → Vals (xs.take n) (us.take n)
  | _, _, 0, _ => .nil
  | _, _, _ + 1, .nil => .nil
  | _, _, n + 1, .cons r t => .cons r (Vals.take n t)
theorem Vals.drop : ∀ {xs : List V} {us : List Value} (n : Nat), Vals xs us → Vals (xs.drop n) (us.drop n)
  | _, _, 0, r => r
  | _, _, _ + 1, .nil => .nil
  | _, _, n + 1, .cons _ t => Vals.drop n t
def RelO : Option V → Option Value → Prop
  | some v, some u => RelV v u
  | none, none => True
  | _, _ => False
def KV {κ : Type} : List (κ × V) → List (κ × Value) → Prop := Paired fun (p : κ × V) (q : κ × Value) => p.1 = q.1 ∧ RelV p.2 q.2
def kV : Key → V
  | .inl i => .int i
  | .inr x => .str x
inductive HO where
  /-- a list -/
  | lst (xs : List V)
  /-- a tuple (never changes) -/
  | tup (xs : List V)
  /-- a dict whose keys are ints and texts; one whose keys are tuples of ints and texts (the empty one is both) -/
  | dK (kvs : List (Key × V)) | dT (kvs : List (List Key × V))
  /-- a set of ints: its members, its size -/
  | set (S : Int → Bool) (n : Nat)
  /-- an instance of the class at C, its dict at dx, its attributes -/
  | ins (C dx : Addr) (fs : List (Str × V))
  /-- the dict of the instance at x -/
  | own (x : Addr)
  /-- the dict of an exception -/
  | xd (fs : List (Str × V))
  /-- a bound method, f of x -/
  | met (f x : Addr)
  /-- a range object lo, lo + 1, .. below hi -/
  | rng (lo hi : Int)
  /-- a thing that is known to the object (the script; a dict while a loop walks it): read, never written while it is so -/
  | frz (o : Obj) (u : HO)
  /-- a code object's table -/
  | tbl (ps : Array Value)
  /-- any other thing, by what is true of its one object (a def of one's own: SetO a S n := HO.ext fun h => ..) -/
  | ext (φ : Heap → Prop)
abbrev Hp := Addr → Option HO
def upd (H : Hp) (a : Addr) (o : HO) : Hp := fun b => if b = a then some o else H b
theorem upd_same {H : Hp} {a : Addr} {o : HO} : upd H a o a = some o := by unfold upd; rw [if_pos rfl]
theorem upd_ne {H : Hp} {a b : Addr} {o : HO} (h : b ≠ a) : upd H a o b = H b := by unfold upd; rw [if_neg h]
theorem upd_upd {H : Hp} {a : Addr} {o u : HO} : upd (upd H a o) a u = upd H a u := by
  funext b; unfold upd; split <;> rfl
theorem ne_of {H : Hp} {a b : Addr} {o u : HO} (h : H a = some o) (h' : H b = some u) (d : o ≠ u) : a ≠ b := by
  intro e; subst e; rw [h] at h'; exact d (Option.some.inj h')
theorem ne_of_none {H : Hp} {a b : Addr} {o : HO} (h : H a = some o) (h' : H b = none) : a ≠ b := by
  intro e; subst e; rw [h] at h'; cases h'
section
variable (P : Program) (w : World)
def ObjOk (H : Hp) (h : Heap) (a : Addr) : HO → Prop
  | .lst xs => xs.length ≤ sizeLine ∧ ∃ (its : List Value) (n : Nat), Vals xs its ∧ h.get? a = some { cls := .type "list", data := .seq its.toArray n }
  | .tup xs => xs.length ≤ sizeLine ∧ ∃ its : List Value, Vals xs its ∧ IsTup h a its.toArray
  | .dK kvs => kvs.length ≤ sizeLine ∧ (a == sysModules) = false ∧ ∃ vs, KV kvs vs ∧ h.DictOf (mixKind P w) a vs
  | .dT kvs => kvs.length ≤ sizeLine ∧ (a == sysModules) = false ∧ ∃ xs : List (List Key × Addr × Value),
      Paired (fun (p : List Key × V) (q : List Key × Addr × Value) => p.1 = q.1 ∧ H q.2.1 = some (.tup (p.1.map kV)) ∧ RelV p.2 q.2.2) kvs xs ∧
      ∃ o es ep, h.get? a = some o ∧ o.ExactDict ∧ o.data = .dict es ep ∧ es.toList = xs.map (entryOfKey (tupleKind (mixKind P w))) ∧ (xs.map (·.1)).Nodup
  | .set S n => h.SetOf (intKind P w) a S n
  | .ins C dx fs => H dx = some (.own a) ∧ fs.length ≤ 1000 ∧ dx ≠ a ∧ h.get? a = some (PySem.W.instObj C dx) ∧
      ∃ mA, h.Ns1 dx mA ∧ (∀ f, RelO (fs.lookup f) (mA f)) ∧ PySem.Within mA (fs.map (·.1))
  | .own _ => ∃ o, h.get? a = some o
  | .xd fs => ∃ mA, h.Ns1 a mA ∧ ∀ f, RelO (fs.lookup f) (mA f)
  | .rng lo hi => ∃ t u v, h.get? a = some { cls := .type "range", data := .fields #[.int lo t, .int hi u, .int 1 v] }
  | .frz o u => h.get? a = some o ∧ ObjOk H h a u
  | .tbl ps => h.get? a = some { cls := .none, data := .fields ps }
  | .met f x => h.get? a = some (PySem.W.methodObj (.ref f) (.ref x))
  | .ext φ => φ h ∧ (∃ o, h.get? a = some o) ∧ ∀ h1 h2 : Heap, φ h1 → (∀ o, h1.get? a = some o → h2.get? a = some o) → φ h2
def HOk (H : Hp) (h : Heap) : Prop := ∀ a o, H a = some o → ObjOk P w H h a o
end
section
variable {P : Program} {w : World} {H H' : Hp} {h h' : Heap} {a : Addr} {o : HO}
theorem ObjOk.lt (x : ObjOk P w H h a o) : a < h.objs.size := by
  cases o with
  | lst xs => obtain ⟨_, _, _, _, e⟩ := x; exact Heap.lt_size e
  | tup xs => obtain ⟨_, _, _, p⟩ := x; exact p.lt
  | dK kvs => obtain ⟨_, _, _, _, o, _, _, e, _⟩ := x; exact Heap.lt_size e
  | dT kvs => obtain ⟨_, _, _, _, o, _, _, e, _⟩ := x; exact Heap.lt_size e
  | set S n => obtain ⟨o, _, _, _, e, _⟩ := x; exact Heap.lt_size e
  | ins C dx fs => obtain ⟨_, _, _, e, _⟩ := x; exact Heap.lt_size e
  | own y => obtain ⟨_, e⟩ := x; exact Heap.lt_size e
  | xd fs => obtain ⟨_, ⟨_, _, _, e, _⟩, _⟩ := x; exact Heap.lt_size e
  | rng lo hi => obtain ⟨_, _, _, e⟩ := x; exact Heap.lt_size e
  | frz ob u => obtain ⟨e, _⟩ := x; exact Heap.lt_size e
  | tbl ps => exact Heap.lt_size (show h.get? a = some _ from x)
  | met f y => exact Heap.lt_size (show h.get? a = some _ from x)
  | ext φ => obtain ⟨_, ⟨_, e⟩, _⟩ := x; exact Heap.lt_size e
theorem Paired.mapP {α β : Type} {F G : α → β → Prop} : ∀ {l₁ : List α} {l₂ : List β}, Paired F l₁ l₂ → (∀ a b, F a b → G a b) → Paired G l₁ l₂
  | _, _, .nil, _ => .nil
  | _, _, .cons r t, f => .cons (f _ _ r) (Paired.mapP t f)
theorem ObjOk.stay (x : ObjOk P w H h a o) (k : ∀ b u, (b = a ∨ H b = some (.own a)) → h.get? b = some u → h'.get? b = some u)
    (ho : ∀ b, H b = some (.own a) → H' b = some (.own a)) (ht : ∀ b xs, H b = some (.tup xs) → H' b = some (.tup xs)) : ObjOk P w H' h' a o := by
  induction o with
  | lst xs => obtain ⟨z, its, n, r, e⟩ := x; exact ⟨z, its, n, r, k _ _ (.inl rfl) e⟩
  | tup xs => obtain ⟨z, its, r, ob, e, c⟩ := x; exact ⟨z, its, r, ob, k _ _ (.inl rfl) e, c⟩
  | dK kvs => obtain ⟨z, y, vs, r, ob, es, ep, e, c⟩ := x; exact ⟨z, y, vs, r, ob, es, ep, k _ _ (.inl rfl) e, c⟩
  | dT kvs =>
    obtain ⟨z, y, xs, r, ob, es, ep, e, c⟩ := x
    exact ⟨z, y, xs, Paired.mapP r fun p q z => ⟨z.1, ht _ _ z.2.1, z.2.2⟩, ob, es, ep, k _ _ (.inl rfl) e, c⟩
  | set S n => obtain ⟨ob, es, ep, t, e, c⟩ := x; exact ⟨ob, es, ep, t, k _ _ (.inl rfl) e, c⟩
  | ins C dx fs =>
    obtain ⟨d, z, ne, e, mA, ⟨od, es, ep, e2, c⟩, r⟩ := x
    exact ⟨ho _ d, z, ne, k _ _ (.inl rfl) e, mA, ⟨od, es, ep, k _ _ (.inr d) e2, c⟩, r⟩
  | own y => obtain ⟨ob, e⟩ := x; exact ⟨ob, k _ _ (.inl rfl) e⟩
  | xd fs => obtain ⟨mA, ⟨od, es, ep, e, c⟩, r⟩ := x; exact ⟨mA, ⟨od, es, ep, k _ _ (.inl rfl) e, c⟩, r⟩
  | rng lo hi => obtain ⟨t, u, v, e⟩ := x; exact ⟨t, u, v, k _ _ (.inl rfl) e⟩
  | frz ob u ih => obtain ⟨e, q⟩ := x; exact ⟨k _ _ (.inl rfl) e, ih q⟩
  | tbl ps =>
    have e : h.get? a = some { cls := .none, data := .fields ps } := x
    show h'.get? a = some { cls := .none, data := .fields ps }
    exact k a _ (.inl rfl) e
  | met f y =>
    have e : h.get? a = some (PySem.W.methodObj (.ref f) (.ref y)) := x
    show h'.get? a = some (PySem.W.methodObj (.ref f) (.ref y))
    exact k a _ (.inl rfl) e
  | ext φ => obtain ⟨p, ⟨o, e⟩, st⟩ := x; exact ⟨st _ _ p fun o q => k _ _ (.inl rfl) q, ⟨o, k _ _ (.inl rfl) e⟩, st⟩
theorem HOk.lt (x : HOk P w H h) (e : H a = some o) : a < h.objs.size := (x a o e).lt
theorem HOk.fresh (x : HOk P w H h) (e : h.objs.size ≤ a) : H a = none := by
  cases q : H a with
  | none => rfl
  | some u => exact absurd (Nat.lt_of_lt_of_le (x.lt q) e) (Nat.lt_irrefl _)
theorem HOk.kept (x : HOk P w H h) (k : ∀ b u, h.get? b = some u → h'.get? b = some u) : HOk P w H h' := fun a o e =>
  (x a o e).stay (fun b u _ q => k b u q) (fun _ q => q) fun _ _ q => q
theorem HOk.laid (x : HOk P w H h) (k : ∀ b u, h.get? b = some u → h'.get? b = some u) (hp : h.objs.size ≤ a) (new : ObjOk P w (upd H a o) h' a o) : HOk P w (upd H a o) h' := fun b u e => by
  have hn := x.fresh hp
  by_cases hb : b = a
  · subst hb; rw [upd_same] at e; cases e; exact new
  · rw [upd_ne hb] at e
    exact (x b u e).stay (fun c v _ q => k c v q) (fun c q => by rw [upd_ne (ne_of_none q hn)]; exact q) fun c xs q => by rw [upd_ne (ne_of_none q hn)]; exact q
end
def Rd (H : Hp) (a : Addr) (u : HO) : Prop := H a = some u ∨ ∃ o, H a = some (.frz o u)
theorem Rd.ok {P : Program} {w : World} {H : Hp} {h : Heap} {a : Addr} {u : HO} (r : Rd H a u) (x : HOk P w H h) : ObjOk P w H h a u := by
  rcases r with r | ⟨o, r⟩
  · exact x a u r
  · obtain ⟨_, q⟩ := x a _ r
    exact q
def Mut : Option HO → Prop
  | some (.lst _) => True
  | some (.dK _) => True
  | some (.dT _) => True
  | some (.set _ _) => True
  | some (.ins _ _ _) => True
  | some (.ext _) => True
  | _ => False
section
variable {P : Program} {w : World} {H : Hp} {h h' : Heap} {x e : Addr} {o' : HO}
theorem HOk.write (ok : HOk P w H h) (mu : Mut (H x)) (he : e = x ∨ H e = some (.own x)) (k : ∀ b u, b ≠ e → h.get? b = some u → h'.get? b = some u) (heo : ∃ u, h'.get? e = some u)
    (new : ObjOk P w (upd H x o') h' x o') : HOk P w (upd H x o') h' := fun b u q => by
  have nown : ∀ c y, H c = some (.own y) → c ≠ x := fun c y r z => by subst z; rw [r] at mu; exact mu
  have ntup : ∀ c xs, H c = some (.tup xs) → c ≠ x := fun c xs r z => by subst z; rw [r] at mu; exact mu
  by_cases hb : b = x
  · subst hb; rw [upd_same] at q; cases q; exact new
  · rw [upd_ne hb] at q
    by_cases hbe : b = e
    · have q' : H b = some (.own x) := by
        rcases he with z | z
        · exact absurd (hbe.trans z) hb
        · rw [hbe]; exact z
      rw [q] at q'; cases q'
      obtain ⟨v, hv⟩ := heo
      exact ⟨v, by rw [hbe]; exact hv⟩
    · refine (ok b u q).stay (fun c v hc r => k c v ?_ r) (fun c r => by rw [upd_ne (nown c b r)]; exact r) fun c xs r => by rw [upd_ne (ntup c xs r)]; exact r
      rcases hc with rfl | hc
      · exact hbe
      · rintro rfl
        rcases he with z | z
        · exact nown c b hc z
        · rw [hc] at z; cases z; exact hb rfl
end
structure Un (fs ex : List Addr) (H H' : Hp) (h h' : Heap) : Prop where
  keep : ∀ b o, h.get? b = some o → H b = none → b ∉ fs → b ∉ ex → h'.get? b = some o
  slot : ∀ b o, h.get? b = some o → H b = none → b ∈ fs → b ∉ ex → ∃ sl, h'.get? b = some { o with slots := sl }
  free : ∀ b o, h.get? b = some o → H b = none → b ∉ ex → H' b = none
  there : ∀ b o, h.get? b = some o → b ∉ ex → ∃ o', h'.get? b = some o'
  tups : ∀ b xs, H b = some (.tup xs) → H' b = some (.tup xs)
  frzs : ∀ b o u, H b = some (.frz o u) → H' b = some (.frz o u)
  tbls : ∀ b ps, H b = some (.tbl ps) → ∃ more, H' b = some (.tbl (ps ++ more))
section
variable {fs fs' ex ex' : List Addr} {H H1 H2 : Hp} {h h1 h2 h' : Heap} {a x e : Addr} {o : HO}
theorem Un.any (u : Un fs ex H H1 h h1) {b : Addr} {ob : Obj} (q : h.get? b = some ob) (n : H b = none) (hx : b ∉ ex) : ∃ sl, h1.get? b = some { ob with slots := sl } := by
  by_cases hb : b ∈ fs
  · exact u.slot b ob q n hb hx
  · exact ⟨ob.slots, u.keep b ob q n hb hx⟩
theorem Un.kept (k : ∀ b u, h.get? b = some u → h'.get? b = some u) : Un fs ex H H h h' :=
  ⟨fun b ob q _ _ _ => k b ob q, fun b ob q _ _ _ => ⟨ob.slots, k b ob q⟩, fun _ _ _ n _ => n, fun b ob q _ => ⟨ob, k b ob q⟩, fun _ _ q => q, fun _ _ _ q => q, fun _ ps q => ⟨#[], by rw [q]; simp⟩⟩
theorem Un.refl : Un fs ex H H h h := Un.kept fun _ _ q => q
theorem Un.laid (k : ∀ b u, h.get? b = some u → h'.get? b = some u) (hp : h.objs.size ≤ a) (hn : H a = none) : Un fs ex H (upd H a o) h h' where
  keep := fun b u q _ _ _ => k b u q
  slot := fun b u q _ _ _ => ⟨u.slots, k b u q⟩
  free := fun b u q n _ => by rw [upd_ne (Nat.ne_of_lt (Nat.lt_of_lt_of_le (Heap.lt_size q) hp))]; exact n
  there := fun b u q _ => ⟨u, k b u q⟩
  tups := fun b xs q => by rw [upd_ne (ne_of_none q hn)]; exact q
  frzs := fun b u xs q => by rw [upd_ne (ne_of_none q hn)]; exact q
  tbls := fun b ps q => ⟨#[], by rw [upd_ne (ne_of_none q hn), q]; simp⟩
theorem Un.write (mu : Mut (H x)) (he : e = x ∨ H e = some (.own x)) (k : ∀ b u, b ≠ e → h.get? b = some u → h'.get? b = some u) (heo : ∃ u, h'.get? e = some u) : Un fs ex H (upd H x o) h h' := by
  have hx : ∀ b, H b = none → b ≠ x := fun b n z => by subst z; rw [n] at mu; exact mu
  have hb : ∀ b, H b = none → b ≠ e := fun b n z => by
    subst z
    rcases he with r | r
    · exact hx b n r
    · rw [n] at r; cases r
  have hm : ∀ b u, H b = some u → ¬ Mut (some u) → b ≠ x := fun b u q nm z => by subst z; rw [q] at mu; exact nm mu
  refine ⟨fun b u q n _ _ => k b u (hb b n) q, fun b u q n _ _ => ⟨u.slots, k b u (hb b n) q⟩, fun b u q n _ => by rw [upd_ne (hx b n)]; exact n, fun b u q _ => ?_,
    fun b xs q => by rw [upd_ne (hm b _ q fun z => z)]; exact q, fun b u xs q => by rw [upd_ne (hm b _ q fun z => z)]; exact q, fun b ps q => ⟨#[], by rw [upd_ne (hm b _ q fun z => z), q]; simp⟩⟩
  by_cases hbe : b = e
  · subst hbe; exact heo
  · exact ⟨u, k b u hbe q⟩
end
def trk (h : Heap) (H : Hp) : List Addr := (List.range h.objs.size).filter fun a => (H a).isSome
def hidT (h : Heap) (H : Hp) : Heap := PySem.W.hideAll h (trk h H)
theorem hidT_size (h : Heap) (H : Hp) : (hidT h H).objs.size = h.objs.size := PySem.W.hideAll_size _ _
theorem hidT_get {h : Heap} {H : Hp} {b : Addr} {o : Obj} (e : h.get? b = some o) (n : H b = none) : (hidT h H).get? b = some o :=
  PySem.W.hideAll_get _ e fun hm => by
    have q : (H b).isSome = true := (List.mem_filter.mp hm).2
    rw [n] at q; simp at q
theorem of_hidT {h : Heap} {H : Hp} {b : Addr} {o : Obj} (e : (hidT h H).get? b = some o) : h.get? b = some o ∧ H b = none := by
  have e' : h.get? b = some o := PySem.W.of_hideAll (trk h H) e
  refine ⟨e', ?_⟩
  cases q : H b with
  | none => rfl
  | some x =>
    have hm : b ∈ trk h H := List.mem_filter.mpr ⟨List.mem_range.mpr (Heap.lt_size e'), by simp [q]⟩
    have z : (hidT h H).get? b = none := PySem.W.hideAll_none (trk h H) hm
    rw [z] at e; cases e
def allNews (g h : Heap) (L : Addr) : List (Addr × Obj) := (List.range h.objs.size).filterMap fun a => if a = L ∨ (g.get? a).isSome = true then none else (h.get? a).map fun o => (a, o)
def rest (g h : Heap) (L d : Addr) : List (Addr × Obj) := (allNews g h L).filter fun p => decide (p.1 ≠ d)
end L2
namespace L2
open PySem PySem.Spec PyProof.Rows
structure Mod (K : PySem.W.Frag) (mg : Str → Option Value) (base : Heap) : Prop where
  kin : K.In base
  glob : base.Ns mainGlobals mg
  blt : ∃ mb, base.Ns builtinsNs mb ∧ ∀ x : Str, x ≠ "__name__" → mb x = bootBuiltins x
  nolimit : base.NoLimit
structure Cx where
  prog : Program
  w : World
  K : PySem.W.Frag
  mg : Str → Option Value
  base : Heap
  A : Around
  N : List Str
  s_0 : Shared
  H_0 : Hp
  env : Env
  outer : List Env
  stack : List Env
  ex : List Addr
  fn : Str → Bool
  calm : Bool
  pn : List (Addr × Obj)
  xe : Value → Shared → Prop
def frs (l : List Env) : List Addr := l.filterMap (·.frame)
abbrev Cx.fs (X : Cx) : List Addr := frs X.outer
def Vis (sc : Scope) (x : Str) : Prop := sc.names.lookup x = some .local ∨ sc.names.lookup x = some .cell ∨ sc.names.lookup x = some .free
def Loc (sc : Scope) (x : Str) : Prop := sc.names.lookup x = some .local ∨ sc.names.lookup x = some .cell
def Look (env : Env) (h : Heap) (m : Str → Option Value) (x : Str) (u : Value) : Prop :=
  (env.kindOf x = some .local ∧ m x = some u) ∨ ((env.kindOf x = some .cell ∨ env.kindOf x = some .free) ∧ ∃ c, env.cells.lookup x = some c ∧ h.IsCell c (some u))
structure Cx.Ok (X : Cx) : Prop where
  mod : Mod X.K X.mg X.base
  kind : X.env.scope.kind = .function
  glob : X.env.globals = mainGlobals
  blt : X.env.builtins = builtinsNs
  above : X.s_0.heap.objs.size ≤ X.env.locals
  inj : ∀ x y c, X.env.cells.lookup x = some c → X.env.cells.lookup y = some c → x = y
  has : ∀ x, (X.env.kindOf x = some .cell ∨ X.env.kindOf x = some .free) → ∃ c, X.env.cells.lookup x = some c
  cab : ∀ x c, X.fn x = true → X.env.cells.lookup x = some c → X.s_0.heap.objs.size ≤ c
  hd : X.calm = true → X.A.handled = none
  frames : X.A.frames = some X.stack
  stk : X.stack = X.outer ∨ (X.stack = X.env :: X.outer ∧ X.env.frame = some X.env.locals)
  exf : ∀ b ∈ X.ex, b ≠ X.env.locals ∧ ∀ x c, X.env.cells.lookup x = some c → c ≠ b
  bs : ∀ b o, X.base.get? b = some o → X.s_0.heap.get? b = some o ∧ X.H_0 b = none
  bsz : X.base.objs.size ≤ X.s_0.heap.objs.size
  noex : ∀ b o, X.base.get? b = some o → b ∉ X.ex
  exfs : ∀ b ∈ X.ex, b ∉ X.fs
  funs : X.s_0.heap.FunFrames X.base X.outer
  frf : ∀ b ∈ X.fs, X.H_0 b = none
structure Inv (X : Cx) (pins : List (Addr × Obj)) (σ : List (Option V)) (H : Hp) (s : Shared) : Prop where
  ok : X.Ok
  os : s.os = X.s_0.os
  bare : AllBare s.gens
  base : Un X.fs X.ex X.H_0 H X.s_0.heap s.heap
  loc : ∃ m, s.heap.Ns X.env.locals m ∧ ∀ (i : Nat) (x : Str) (v : V), X.N[i]? = some x → σ[i]? = some (some v) → Vis X.env.scope x → ∃ u, RelV v u ∧ Look X.env s.heap m x u
  cell : ∀ x c, X.env.cells.lookup x = some c → ∃ v, s.heap.IsCell c v
  free : H X.env.locals = none
  freeC : ∀ x c, X.env.cells.lookup x = some c → H c = none
  pin : ∀ p ∈ X.pn ++ pins, s.heap.get? p.1 = some p.2 ∧ H p.1 = none ∧ p.1 ≠ X.env.locals ∧ p.1 ∉ X.fs ∧ ∀ v, p.2.data ≠ .cell v
  hok : HOk X.prog X.w H s.heap
  len : σ.length = X.N.length
section
variable {X : Cx} {pins : List (Addr × Obj)} {σ : List (Option V)} {H H' : Hp} {s : Shared} {h' : Heap}
theorem Cx.Ok.nofr (ok : X.Ok) {b : Addr} {o : Obj} (e : X.base.get? b = some o) : b ∉ X.fs := fun hb => by
  have := (ok.funs.mem hb).1
  rw [e] at this; cases this
theorem Inv.bs (I : Inv X pins σ H s) : ∀ b o, X.base.get? b = some o → s.heap.get? b = some o ∧ H b = none := fun b o e =>
  ⟨I.base.keep b o (I.ok.bs b o e).1 (I.ok.bs b o e).2 (I.ok.nofr e) (I.ok.noex b o e), I.base.free b o (I.ok.bs b o e).1 (I.ok.bs b o e).2 (I.ok.noex b o e)⟩
theorem Inv.bk (I : Inv X pins σ H s) : ∀ b o, X.base.get? b = some o → s.heap.get? b = some o := fun b o e => (I.bs b o e).1
theorem Inv.mod (I : Inv X pins σ H s) : Mod X.K X.mg X.base := I.ok.mod
theorem Inv.kIn (I : Inv X pins σ H s) : X.K.In s.heap := I.ok.mod.kin.keeps I.bk
theorem Inv.lt (I : Inv X pins σ H s) : X.env.locals < s.heap.objs.size := let ⟨_, hn, _⟩ := I.loc; hn.lt
theorem Inv.sz (I : Inv X pins σ H s) : X.s_0.heap.objs.size ≤ s.heap.objs.size := Nat.le_trans I.ok.above (Nat.le_of_lt I.lt)
theorem Inv.nofs (I : Inv X pins σ H s) {a : Addr} (h : s.heap.objs.size ≤ a) : a ∉ X.fs := fun hb => by
  obtain ⟨_, o, ho, _⟩ := I.ok.funs.mem hb
  exact absurd (Nat.lt_of_lt_of_le (Heap.lt_size ho) (Nat.le_trans I.sz h)) (Nat.lt_irrefl _)
theorem Inv.cne (I : Inv X pins σ H s) : ∀ x c, X.env.cells.lookup x = some c → c ≠ X.env.locals := fun x c e z => by
  obtain ⟨v, o, ho, hd⟩ := I.cell x c e
  obtain ⟨m, ⟨o', es, ep, ho', hd', _⟩, _⟩ := I.loc
  rw [z, ho'] at ho; cases ho; rw [hd'] at hd; cases hd
theorem Inv.funs (I : Inv X pins σ H s) : s.heap.FunFrames X.base X.outer := by
  have all : ∀ (l : List Env), (∀ b ∈ frs l, b ∈ X.fs) → X.s_0.heap.FunFrames X.base l → s.heap.FunFrames X.base l := by
    intro l
    induction l with
    | nil => intro _ _; trivial
    | cons env r ih =>
      intro hs hl
      obtain ⟨hk, ⟨L, o, hf, hn, ho, hd⟩, hr⟩ := hl
      have hL : L ∈ X.fs := hs L (by unfold frs; rw [List.filterMap_cons, hf]; exact List.mem_cons_self)
      obtain ⟨sl, e⟩ := I.base.slot L o ho (I.ok.frf L hL) hL fun z => I.ok.exfs L z hL
      exact ⟨hk, ⟨L, _, hf, hn, e, hd⟩, ih (fun b hb => hs b (by unfold frs; rw [List.filterMap_cons, hf]; exact List.mem_cons_of_mem _ hb)) hr⟩
  exact all X.outer (fun _ hb => hb) I.ok.funs
theorem Inv.stack (I : Inv X pins σ H s) : s.heap.FunFrames X.base X.stack := by
  rcases I.ok.stk with e | ⟨e, hf⟩
  · rw [e]; exact I.funs
  · rw [e]
    obtain ⟨m, hn, _⟩ := I.loc
    refine .cons (by rw [I.ok.kind]; decide) hf hn ?_ I.funs
    exact Heap.get?_none_of_le (Nat.le_trans I.ok.bsz I.ok.above)
theorem Inv.stkSub (I : Inv X pins σ H s) : ∀ b ∈ frs X.stack, b ∈ X.env.locals :: X.fs := fun b hb => by
  rcases I.ok.stk with e | ⟨e, hf⟩
  · rw [e] at hb; exact List.mem_cons_of_mem _ hb
  · rw [e] at hb
    unfold frs at hb
    rw [List.filterMap_cons, hf] at hb
    exact hb
theorem Inv.stkFree (I : Inv X pins σ H s) : ∀ b ∈ frs X.stack, H b = none := fun b hb => by
  rcases List.mem_cons.mp (I.stkSub b hb) with e | hb
  · rw [e]; exact I.free
  · obtain ⟨_, o, ho, _⟩ := I.ok.funs.mem hb
    exact I.base.free b o ho (I.ok.frf b hb) fun z => I.ok.exfs b z hb
theorem Inv.step {g' : Array GenState} {t' : Nat} {d' : Drawn} {ch : List Addr} (I : Inv X pins σ H s)
    (hch : ∀ b ∈ ch, (b ∈ X.ex ∨ X.s_0.heap.objs.size ≤ b) ∧ b ≠ X.env.locals ∧ (∀ x c, X.env.cells.lookup x = some c → c ≠ b) ∧ ∀ p ∈ X.pn ++ pins, p.1 ≠ b)
    (keep : ∀ b o, b ≠ X.env.locals → b ∉ X.fs → b ∉ ch → s.heap.get? b = some o → H b = none → h'.get? b = some o)
    (slot : ∀ b o, b ≠ X.env.locals → b ∈ X.fs → b ∉ ch → s.heap.get? b = some o → H b = none → ∃ sl, h'.get? b = some { o with slots := sl }) (free : ∀ b o, b ∉ ch → s.heap.get? b = some o → H b = none → H' b = none)
    (there : ∀ b o, b ∉ ch → s.heap.get? b = some o → ∃ o', h'.get? b = some o')
    (tups : ∀ b xs, H b = some (.tup xs) → H' b = some (.tup xs)) (frzs : ∀ b o u, H b = some (.frz o u) → H' b = some (.frz o u)) (tbls : ∀ b ps, H b = some (.tbl ps) → ∃ more, H' b = some (.tbl (ps ++ more)))
    (ns : ∀ m, s.heap.Ns X.env.locals m → h'.Ns X.env.locals m) (hok : HOk X.prog X.w H' h') (hg : AllBare g') :
    Inv X pins σ H' { s with heap := h', gens := g', drawn := d', toks := t' } := by
  have neL : ∀ b o, X.s_0.heap.get? b = some o → b ≠ X.env.locals := fun b o e => Nat.ne_of_lt (Nat.lt_of_lt_of_le (Heap.lt_size e) I.ok.above)
  have neC : ∀ b o, X.s_0.heap.get? b = some o → b ∉ X.ex → b ∉ ch := fun b o e hx hb => by
    rcases (hch b hb).1 with z | z
    · exact hx z
    · exact absurd (Nat.lt_of_lt_of_le (Heap.lt_size e) z) (Nat.lt_irrefl _)
  have cellK : ∀ x c, X.env.cells.lookup x = some c → ∀ v, s.heap.IsCell c v → h'.IsCell c v := fun x c e v ⟨o, ho, hd⟩ => by
    have nch : c ∉ ch := fun z => (hch c z).2.2.1 x c e rfl
    by_cases hc : c ∈ X.fs
    · obtain ⟨sl, q⟩ := slot c o (I.cne x c e) hc nch ho (I.freeC x c e)
      exact ⟨_, q, hd⟩
    · exact ⟨o, keep c o (I.cne x c e) hc nch ho (I.freeC x c e), hd⟩
  refine ⟨I.ok, I.os, hg, ⟨fun b o e n hb hx => ?_, fun b o e n hb hx => ?_, fun b o e n hx => ?_, fun b o e hx => ?_, fun b xs e => tups b xs (I.base.tups b xs e), fun b o xs e => frzs b o xs (I.base.frzs b o xs e), fun b ps e => ?_⟩, ?_, fun x c e => ?_, ?_, fun x c e => ?_, fun p hp => ?_, hok, I.len⟩
  · exact keep b o (neL b o e) hb (neC b o e hx) (I.base.keep b o e n hb hx) (I.base.free b o e n hx)
  · obtain ⟨sl, e1⟩ := I.base.slot b o e n hb hx
    obtain ⟨sl', e2⟩ := slot b _ (neL b o e) hb (neC b o e hx) e1 (I.base.free b o e n hx)
    exact ⟨sl', e2⟩
  · obtain ⟨o', e1⟩ := I.base.there b o e hx
    exact free b o' (neC b o e hx) e1 (I.base.free b o e n hx)
  · obtain ⟨o', e1⟩ := I.base.there b o e hx
    exact there b o' (neC b o e hx) e1
  · obtain ⟨m1, e1⟩ := I.base.tbls b ps e
    obtain ⟨m2, e2⟩ := tbls b _ e1
    exact ⟨m1 ++ m2, by rw [e2, Array.append_assoc]⟩
  · obtain ⟨m, hn, hl⟩ := I.loc
    refine ⟨m, ns m hn, fun i x v e1 e2 e3 => ?_⟩
    obtain ⟨u, r, l⟩ := hl i x v e1 e2 e3
    refine ⟨u, r, ?_⟩
    rcases l with l | ⟨k, c, e, z⟩
    · exact .inl l
    · exact .inr ⟨k, c, e, cellK x c e _ z⟩
  · obtain ⟨v, z⟩ := I.cell x c e
    exact ⟨v, cellK x c e v z⟩
  · obtain ⟨m, ⟨o, _, _, ho, _⟩, _⟩ := I.loc
    exact free _ o (fun z => (hch _ z).2.1 rfl) ho I.free
  · obtain ⟨v, o, ho, hd⟩ := I.cell x c e
    exact free c o (fun z => (hch c z).2.2.1 x c e rfl) ho (I.freeC x c e)
  · obtain ⟨e, n, ne, nf, d⟩ := I.pin p hp
    have nch : p.1 ∉ ch := fun z => (hch p.1 z).2.2.2 p hp rfl
    exact ⟨keep p.1 p.2 ne nf nch e n, free p.1 p.2 nch e n, ne, nf, d⟩
theorem Inv.un {t' : Nat} (I : Inv X pins σ H s) (u : Un X.fs [] H H' s.heap h') (hok : HOk X.prog X.w H' h') : Inv X pins σ H' { s with heap := h', toks := t' } := by
  obtain ⟨m, ⟨o, es, ep, ho, r⟩, _⟩ := id I.loc
  obtain ⟨sl, hL⟩ := u.any ho I.free (by simp)
  exact I.step (g' := s.gens) (d' := s.drawn) (ch := []) (fun _ z => nomatch z) (fun b o _ hb _ e n => u.keep b o e n hb (by simp)) (fun b o _ hb _ e n => u.slot b o e n hb (by simp)) (fun b o _ e n => u.free b o e n (by simp)) (fun b o _ e => u.there b o e (by simp)) u.tups u.frzs u.tbls (fun m' hm => by
    obtain ⟨o', es', ep', ho', r'⟩ := hm
    rw [ho] at ho'; cases ho'
    exact ⟨_, es', ep', hL, r'⟩) hok I.bare
theorem Inv.call {g' : Array GenState} {t' : Nat} {d' : Drawn} {ch : List Addr} (I : Inv X pins σ H s) (u : Un (frs X.stack) ch H H' s.heap h') (hok : HOk X.prog X.w H' h') (hg : AllBare g')
    (hch : ∀ b ∈ ch, (b ∈ X.ex ∨ X.s_0.heap.objs.size ≤ b) ∧ b ≠ X.env.locals ∧ (∀ x c, X.env.cells.lookup x = some c → c ≠ b) ∧ ∀ p ∈ X.pn ++ pins, p.1 ≠ b) :
    Inv X pins σ H' { s with heap := h', gens := g', drawn := d', toks := t' } := by
  obtain ⟨m, ⟨o, es, ep, ho, r⟩, _⟩ := id I.loc
  obtain ⟨sl, hL⟩ := u.any ho I.free fun z => (hch _ z).2.1 rfl
  exact I.step (ch := ch) hch (fun b o hL hb hc e n => u.keep b o e n (fun z => (List.mem_cons.mp (I.stkSub b z)).elim hL hb) hc) (fun b o _ _ hc e n => u.any e n hc) (fun b o hc e n => u.free b o e n hc) (fun b o hc e => u.there b o e hc) u.tups u.frzs u.tbls (fun m' hm => by
    obtain ⟨o', es', ep', ho', r'⟩ := hm
    rw [ho] at ho'; cases ho'
    exact ⟨_, es', ep', hL, r'⟩) hok hg
theorem Inv.turned {t' : Nat} {it : Addr} (I : Inv X pins σ H s) (k : ∀ b o, b ≠ it → s.heap.get? b = some o → h'.get? b = some o) (hn : H it = none) (hL : it ≠ X.env.locals)
    (h1 : it ∈ X.ex ∨ X.s_0.heap.objs.size ≤ it) (h2 : ∀ x c, X.env.cells.lookup x = some c → c ≠ it) (h3 : ∀ p ∈ X.pn ++ pins, p.1 ≠ it) : Inv X pins σ H { s with heap := h', toks := t' } := by
  have nit : ∀ b u, H b = some u → b ≠ it := fun b u e z => by rw [z, hn] at e; cases e
  refine I.step (g' := s.gens) (d' := s.drawn) (ch := [it]) (fun b hb => ?_) (fun b o _ _ hc e _ => k b o (fun z => hc (by simp [z])) e) (fun b o _ _ hc e _ => ⟨o.slots, k b o (fun z => hc (by simp [z])) e⟩) (fun _ _ _ _ n => n)
    (fun b o hc e => ⟨o, k b o (fun z => hc (by simp [z])) e⟩) (fun _ _ e => e) (fun _ _ _ e => e) (fun b ps e => ⟨#[], by rw [e]; simp⟩) (fun m hm => ?_) (fun b u e => ?_) I.bare
  · have e : b = it := by simpa using hb
    subst e
    exact ⟨h1, hL, h2, h3⟩
  · obtain ⟨o, es, ep, ho, r⟩ := hm
    exact ⟨o, es, ep, k _ o (Ne.symm hL) ho, r⟩
  · refine (I.hok b u e).stay (fun c v hc q => k c v ?_ q) (fun _ q => q) fun _ _ q => q
    rcases hc with z | z
    · rw [z]; exact nit b u e
    · exact nit c _ z
theorem Inv.tok (I : Inv X pins σ H s) (t : Nat) : Inv X pins σ H { s with toks := t } := I.un (h' := s.heap) (t' := t) Un.refl I.hok
theorem Inv.kept {t' : Nat} (I : Inv X pins σ H s) (k : ∀ b u, s.heap.get? b = some u → h'.get? b = some u) : Inv X pins σ H { s with heap := h', toks := t' } := I.un (Un.kept k) (I.hok.kept k)
theorem Inv.laid {a : Addr} {o : HO} {t' : Nat} (I : Inv X pins σ H s) (k : ∀ b u, s.heap.get? b = some u → h'.get? b = some u) (hp : s.heap.objs.size ≤ a) (new : ObjOk X.prog X.w (upd H a o) h' a o) :
    Inv X pins σ (upd H a o) { s with heap := h', toks := t' } := I.un (Un.laid k hp (I.hok.fresh hp)) (I.hok.laid k hp new)
theorem Inv.write {x e : Addr} {o : HO} {t' : Nat} (I : Inv X pins σ H s) (mu : Mut (H x)) (he : e = x ∨ H e = some (.own x)) (k : ∀ b u, b ≠ e → s.heap.get? b = some u → h'.get? b = some u) (heo : ∃ u, h'.get? e = some u)
    (new : ObjOk X.prog X.w (upd H x o) h' x o) : Inv X pins σ (upd H x o) { s with heap := h', toks := t' } := I.un (Un.write mu he k heo) (I.hok.write mu he k heo new)
theorem Inv.weak {σ' : List (Option V)} (I : Inv X pins σ H s) (hl : σ'.length = σ.length) (w : ∀ (i : Nat) v, σ'[i]? = some (some v) → σ[i]? = some (some v)) : Inv X pins σ' H s :=
  ⟨I.ok, I.os, I.bare, I.base, let ⟨m, hn, hl'⟩ := I.loc; ⟨m, hn, fun i x v e1 e2 e3 => hl' i x v e1 (w i v e2) e3⟩, I.cell, I.free, I.freeC, I.pin, I.hok, hl.trans I.len⟩
theorem Inv.pins_of {pins' : List (Addr × Obj)} (I : Inv X pins σ H s) (h : ∀ p ∈ pins', s.heap.get? p.1 = some p.2 ∧ H p.1 = none ∧ p.1 ≠ X.env.locals ∧ p.1 ∉ X.fs ∧ ∀ v, p.2.data ≠ .cell v) : Inv X pins' σ H s :=
  ⟨I.ok, I.os, I.bare, I.base, I.loc, I.cell, I.free, I.freeC, fun p hp => (List.mem_append.mp hp).elim (fun z => I.pin p (List.mem_append_left _ z)) (h p), I.hok, I.len⟩
theorem nodup_ix {N : List Str} (hN : N.Nodup) {i j : Nat} {x : Str} (a : N[i]? = some x) (b : N[j]? = some x) : i = j := by
  obtain ⟨h1, e1⟩ := List.getElem?_eq_some_iff.mp a
  obtain ⟨h2, e2⟩ := List.getElem?_eq_some_iff.mp b
  exact (List.getElem_inj hN).mp (e1.trans e2.symm)
theorem store_ok2 {M : Model} {A : Around} {E : Value → Shared → Prop} {i : Nat} {x : Str} {v : V} {u : Value} {Q : Unit → Shared → Prop} (I : Inv X pins σ H s) (hN : X.N.Nodup) (hi : X.N[i]? = some x) (hx : Loc X.env.scope x) (r : RelV v u)
    (h : ∀ s', Inv X pins (σ.set i (some v)) H s' → (∃ a, Heap.SameBut a s.heap s'.heap ∧ (a = X.env.locals ∨ X.env.cells.lookup x = some a)) → Q () s') (hf : X.fn x = true ∨ X.env.scope.names.lookup x = some .local := by first | exact .inl rfl | exact .inr rfl | assumption) : wpAny M A (storeName X.env x u) Q E s := by
  obtain ⟨m, hn, hl⟩ := id I.loc
  have hcls : (X.env.scope.kind == .class || (X.env.scope.kind == .module && X.env.locals != X.env.globals)) = false := by rw [I.ok.kind]; rfl
  have hiσ : i < σ.length := by rw [I.len]; exact (List.getElem?_eq_some_iff.mp hi).1
  have cne := I.cne
  have tracked : ∀ {a : Addr} {h' : Heap}, (∃ o, s.heap.get? a = some o ∧ H a = none) → Heap.SameBut a s.heap h' → HOk X.prog X.w H h' := fun {a h'} ha hs b ob e => by
    obtain ⟨_, _, hfree⟩ := ha
    refine (I.hok b ob e).stay (fun c w' hc q => (hs.2 c ?_).trans q) (fun _ q => q) fun _ _ q => q
    rintro rfl
    rcases hc with rfl | hc
    · rw [hfree] at e; cases e
    · rw [hfree] at hc; cases hc
  rcases hx with hk | hk
  · refine wpAny_storeName_local hk hn (fun h' hn' hs => ?_) hcls
    obtain ⟨oL, _, _, hoL, _⟩ := id hn
    refine h _ ⟨I.ok, I.os, I.bare, ⟨fun b o e n hb hx => ?_, fun b o e n hb hx => ?_, I.base.free, fun b o e hx => ?_, I.base.tups, I.base.frzs, I.base.tbls⟩, ⟨_, hn', fun j y v' e1 e2 e3 => ?_⟩, fun y c e => ?_, I.free, I.freeC, fun p hp => ?_, tracked ⟨oL, hoL, I.free⟩ hs, by simpa using I.len⟩ ⟨_, hs, .inl rfl⟩
    · exact (hs.2 b (Nat.ne_of_lt (Nat.lt_of_lt_of_le (Heap.lt_size e) I.ok.above))).trans (I.base.keep b o e n hb hx)
    · obtain ⟨sl, e1⟩ := I.base.slot b o e n hb hx
      exact ⟨sl, (hs.2 b (Nat.ne_of_lt (Nat.lt_of_lt_of_le (Heap.lt_size e) I.ok.above))).trans e1⟩
    · obtain ⟨o', e1⟩ := I.base.there b o e hx
      exact ⟨o', (hs.2 b (Nat.ne_of_lt (Nat.lt_of_lt_of_le (Heap.lt_size e) I.ok.above))).trans e1⟩
    · by_cases hj : j = i
      · subst hj
        rw [hi] at e1; cases e1
        rw [List.getElem?_set_self hiσ] at e2
        cases e2
        exact ⟨u, r, .inl ⟨hk, by simp⟩⟩
      · rw [List.getElem?_set_ne (Ne.symm hj)] at e2
        obtain ⟨u', r', q⟩ := hl j y v' e1 e2 e3
        refine ⟨u', r', ?_⟩
        rcases q with ⟨k, e⟩ | ⟨k, c, e, z⟩
        · refine .inl ⟨k, ?_⟩
          have : y ≠ x := fun e => hj (nodup_ix hN e1 (e ▸ hi))
          simp [this, e]
        · exact .inr ⟨k, c, e, z.sameBut hs (cne y c e)⟩
    · obtain ⟨w', z⟩ := I.cell y c e
      exact ⟨w', z.sameBut hs (cne y c e)⟩
    · obtain ⟨e, n, ne, nf, d⟩ := I.pin p hp
      exact ⟨(hs.2 p.1 ne).trans e, n, ne, nf, d⟩
  · have hfn : X.fn x = true := by
      rcases hf with z | z
      · exact z
      · rw [z] at hk; cases hk
    obtain ⟨c, hc⟩ := I.ok.has x (.inl hk)
    obtain ⟨w', z⟩ := I.cell x c hc
    refine wpAny_storeName_cell I.ok.kind hk hc z (fun h' hc' hs => ?_)
    obtain ⟨oc, hoc, hocd⟩ := id z
    refine h { s with heap := h' } ⟨I.ok, I.os, I.bare, ⟨fun b o e n hb hx => ?_, fun b o e n hb hx => ?_, I.base.free, fun b o e hx => ?_, I.base.tups, I.base.frzs, I.base.tbls⟩, ⟨m, hn.sameBut hs (Ne.symm (cne x c hc)), fun j y v' e1 e2 e3 => ?_⟩, fun y c' e => ?_, I.free, I.freeC, fun p hp => ?_, tracked ⟨oc, hoc, I.freeC x c hc⟩ hs, by simpa using I.len⟩ ⟨c, hs, .inr hc⟩
    · exact (hs.2 b (Nat.ne_of_lt (Nat.lt_of_lt_of_le (Heap.lt_size e) (I.ok.cab x c hfn hc)))).trans (I.base.keep b o e n hb hx)
    · obtain ⟨sl, e1⟩ := I.base.slot b o e n hb hx
      exact ⟨sl, (hs.2 b (Nat.ne_of_lt (Nat.lt_of_lt_of_le (Heap.lt_size e) (I.ok.cab x c hfn hc)))).trans e1⟩
    · obtain ⟨o', e1⟩ := I.base.there b o e hx
      exact ⟨o', (hs.2 b (Nat.ne_of_lt (Nat.lt_of_lt_of_le (Heap.lt_size e) (I.ok.cab x c hfn hc)))).trans e1⟩
    · by_cases hj : j = i
      · subst hj
        rw [hi] at e1; cases e1
        rw [List.getElem?_set_self hiσ] at e2
        cases e2
        exact ⟨u, r, .inr ⟨.inl hk, c, hc, hc'⟩⟩
      · rw [List.getElem?_set_ne (Ne.symm hj)] at e2
        obtain ⟨u', r', q⟩ := hl j y v' e1 e2 e3
        refine ⟨u', r', ?_⟩
        rcases q with q | ⟨k, c', e, z'⟩
        · exact .inl q
        · refine .inr ⟨k, c', e, z'.sameBut hs ?_⟩
          rintro rfl
          exact hj (nodup_ix hN e1 (I.ok.inj _ _ _ e hc ▸ hi))
    · by_cases hcc : c' = c
      · subst hcc; exact ⟨_, hc'⟩
      · obtain ⟨w2, z2⟩ := I.cell y c' e
        exact ⟨w2, z2.sameBut hs hcc⟩
    · obtain ⟨e, n, ne, nf, d⟩ := I.pin p hp
      refine ⟨(hs.2 p.1 ?_).trans e, n, ne, nf, d⟩
      intro q
      rw [q, hoc] at e
      have q' : oc = p.2 := Option.some.inj e
      exact d w' (by rw [← q']; exact hocd)
theorem store_ok {M : Model} {A : Around} {E : Value → Shared → Prop} {i : Nat} {x : Str} {v : V} {u : Value} {Q : Unit → Shared → Prop} (I : Inv X pins σ H s) (hN : X.N.Nodup) (hi : X.N[i]? = some x) (hx : Loc X.env.scope x) (r : RelV v u)
    (h : ∀ s', Inv X pins (σ.set i (some v)) H s' → Q () s') (hf : X.fn x = true ∨ X.env.scope.names.lookup x = some .local := by first | exact .inl rfl | exact .inr rfl | assumption) : wpAny M A (storeName X.env x u) Q E s :=
  store_ok2 I hN hi hx r (fun s' I' _ => h s' I') hf
theorem Inv.call' {s' : Shared} {ch : List Addr} (I : Inv X pins σ H s) (ho : s'.os = s.os) (u : Un (frs X.stack) ch H H' s.heap s'.heap) (hok : HOk X.prog X.w H' s'.heap) (hg : AllBare s'.gens)
    (hch : ∀ b ∈ ch, (b ∈ X.ex ∨ X.s_0.heap.objs.size ≤ b) ∧ b ≠ X.env.locals ∧ (∀ x c, X.env.cells.lookup x = some c → c ≠ b) ∧ ∀ p ∈ X.pn ++ pins, p.1 ≠ b) : Inv X pins σ H' s' := by
  obtain ⟨h', g', d', t', o'⟩ := s'
  have e : o' = s.os := ho
  subst e
  exact I.call (g' := g') (t' := t') (d' := d') u hok hg hch
end
abbrev XK := Value → Option Addr → Hp → Prop
abbrev St := List (Option V)
abbrev VK := V → Hp → Prop
abbrev TE := St → Hp → VK → Prop
abbrev TT := St → Hp → (Bool → Hp → Prop) → Prop
abbrev TA := St → Hp → (List V → Hp → Prop) → Prop
structure Ends where
  nx : St → Hp → Prop
  rt : VK
  bk : St → Hp → Prop := fun _ _ => False
  ct : St → Hp → Prop := fun _ _ => False
abbrev TS := Ends → St → Hp → Prop
def EP (X : Cx) (pins : List (Addr × Obj)) (σ : St) (Q : VK) (u : Value) (s' : Shared) : Prop := ∃ v H', Inv X pins σ H' s' ∧ RelV v u ∧ Q v H'
def TP (X : Cx) (pins : List (Addr × Obj)) (σ : St) (Q : Bool → Hp → Prop) (b : Bool) (s' : Shared) : Prop := ∃ H', Inv X pins σ H' s' ∧ Q b H'
def AP (X : Cx) (pins : List (Addr × Obj)) (σ : St) (Q : List V → Hp → Prop) (us : List Value) (s' : Shared) : Prop := ∃ vs H', Inv X pins σ H' s' ∧ Vals vs us ∧ Q vs H'
def SP (X : Cx) (pins : List (Addr × Obj)) (D : Ends) (f : Flow) (s' : Shared) : Prop :=
  match f with
  | .next => ∃ σ' H', Inv X pins σ' H' s' ∧ D.nx σ' H'
  | .brk => ∃ σ' H', Inv X pins σ' H' s' ∧ D.bk σ' H'
  | .cont => ∃ σ' H', Inv X pins σ' H' s' ∧ D.ct σ' H'
  | .ret u => ∃ v σ' H', Inv X pins σ' H' s' ∧ RelV v u ∧ D.rt v H'
def PE (X : Cx) (e : Expr) (t : TE) : Prop :=
  ∀ (pins : List (Addr × Obj)) (s : Shared) (σ : St) (H : Hp) (Q : VK), Inv X pins σ H s → t σ H Q → wpAny (model X.prog X.w) X.A (eval e X.env) (EP X pins σ Q) X.xe s
def PT (X : Cx) (e : Expr) (t : TT) : Prop :=
  ∀ (pins : List (Addr × Obj)) (s : Shared) (σ : St) (H : Hp) (Q : Bool → Hp → Prop), Inv X pins σ H s → t σ H Q → wpAny (model X.prog X.w) X.A (isTrue e X.env (eval e X.env)) (TP X pins σ Q) X.xe s
def PW (X : Cx) (e : Expr) (t : TT) : Prop :=
  ∀ (whole : Sem Value) (pins : List (Addr × Obj)) (s : Shared) (σ : St) (H : Hp) (Q : Bool → Hp → Prop), Inv X pins σ H s → t σ H Q → wpAny (model X.prog X.w) X.A (isTrue e X.env whole) (TP X pins σ Q) X.xe s
theorem PW.pt {X : Cx} {e : Expr} {t : TT} (h : PW X e t) : PT X e t := h _
def PA (X : Cx) (es : List Expr) (t : TA) : Prop :=
  ∀ (pos : Pos) (pins : List (Addr × Obj)) (s : Shared) (σ : St) (H : Hp) (Q : List V → Hp → Prop), Inv X pins σ H s → t σ H Q → wpAny (model X.prog X.w) X.A (spliced (backTo pos (starEach es X.env))) (AP X pins σ Q) X.xe s
def PS (X : Cx) (st : Stmt) (t : TS) : Prop :=
  ∀ (pins : List (Addr × Obj)) (s : Shared) (σ : St) (H : Hp) (D : Ends), Inv X pins σ H s → t D σ H → wpAny (model X.prog X.w) X.A (exec st X.env) (SP X pins D) X.xe s
def PSs (X : Cx) (st : List Stmt) (t : TS) : Prop :=
  ∀ (pins : List (Addr × Obj)) (s : Shared) (σ : St) (H : Hp) (D : Ends), Inv X pins σ H s → t D σ H → wpAny (model X.prog X.w) X.A (execs st X.env) (SP X pins D) X.xe s
theorem thn {α : Type} {t : Sem α} {Q Q' : α → Shared → Prop} {M : Model} {A : Around} {E : Value → Shared → Prop} {s : Shared} (h : wpAny M A t Q E s) (hQ : ∀ a s, Q a s → Q' a s) : wpAny M A t Q' E s := wpAny_mono h hQ fun _ _ x => x
end L2
namespace L2
open PySem PySem.Spec PyProof.Rows
section
variable {X : Cx}
def tVar (i : Nat) : TE := fun σ H Q => ∃ v, σ[i]? = some (some v) ∧ Q v H
def tC (v : V) : TE := fun _ H Q => Q v H
theorem pe_var {i : Nat} {x : Str} {pos : Pos} (hN : X.N[i]? = some x) (hv : Vis X.env.scope x) (hd : (x == ("__debug__" : Str)) = false := by decide) (hcd : (x == ("__classdict__" : Str)) = false := by decide) : PE X (.Name x pos) (tVar i) := by
  intro pins s σ H Q I h
  obtain ⟨v, e, h⟩ := h
  obtain ⟨m, hn, hl⟩ := I.loc
  obtain ⟨u, r, l⟩ := hl i x v hN e hv
  have fin : EP X pins σ Q u s := ⟨v, H, I, r, h⟩
  rcases l with ⟨hk, hm⟩ | ⟨hk, c, hc, hcell⟩
  · exact wpAny_Name (wpAny_loadName_local I.ok.kind hk hn hm fin) hd
  · rcases hk with hk | hk
    · exact wpAny_Name (wpAny_loadName_cell I.ok.kind hk hc hcell fin) hd
    · exact wpAny_Name (wpAny_loadName_free I.ok.kind hk hc hcell fin hcd) hd
theorem pe_int {i j pos} : PE X (.Constant (.int i) j pos) (tC (.int i)) := fun _ _ _ H _ I h => wpAny_Constant_int ⟨.int i, H, I.tok _, ⟨_, rfl⟩, h⟩
theorem pe_bl {b j pos} : PE X (.Constant (.bool b) j pos) (tC (.bl b)) := fun _ _ _ H _ I h => Constant_bool ⟨.bl b, H, I, rfl, h⟩
theorem pe_non {j pos} : PE X (.Constant .none j pos) (tC .non) := fun _ _ _ H _ I h => Constant_none ⟨.non, H, I, rfl, h⟩
def Gl (X : Cx) (x : Str) : Prop := X.env.kindOf x = some .globalImplicit
theorem ld_glob {E : Value → Shared → Prop} {pins : List (Addr × Obj)} {s : Shared} {σ : St} {H : Hp} {x : Str} {u : Value} {pos : Pos} {Q : Value → Shared → Prop} (I : Inv X pins σ H s) (hg : Gl X x) (hm : X.mg x = some u) (h : Q u s)
    (hd : (x == ("__debug__" : Str)) = false := by decide) : wpAny (model X.prog X.w) X.A (eval (.Name x pos) X.env) Q E s :=
  Calls.Name_function_global I.ok.kind hg (Calls.loadGlobal_global (by rw [I.ok.glob]; exact I.mod.glob.keeps I.bk) hm h) hd
theorem ld_blt {E : Value → Shared → Prop} {pins : List (Addr × Obj)} {s : Shared} {σ : St} {H : Hp} {x : Str} {u : Value} {pos : Pos} {Q : Value → Shared → Prop} (I : Inv X pins σ H s) (hg : Gl X x) (hm : X.mg x = none) (hv : bootBuiltins x = some u) (h : Q u s)
    (hn : x ≠ "__name__" := by decide) (hd : (x == ("__debug__" : Str)) = false := by decide) : wpAny (model X.prog X.w) X.A (eval (.Name x pos) X.env) Q E s := by
  obtain ⟨mb, h1, h2⟩ := I.mod.blt
  exact Calls.Name_function_global I.ok.kind hg (Calls.loadGlobal_builtin (by rw [I.ok.glob]; exact I.mod.glob.keeps I.bk) hm (by rw [I.ok.blt]; exact h1.keeps I.bk) ((h2 x hn).trans hv) h) hd
theorem pe_glob {x : Str} {v : V} {u : Value} {pos : Pos} (hg : Gl X x) (hm : X.mg x = some u) (r : RelV v u) (hd : (x == ("__debug__" : Str)) = false := by decide) : PE X (.Name x pos) (tC v) :=
  fun _ _ _ H _ I h => ld_glob I hg hm ⟨v, H, I, r, h⟩ hd
def t2I (ta tb : TE) (k : Int → Int → Hp → Prop) : St → Hp → Prop := fun σ H => ta σ H fun x H1 => tb σ H1 fun y H2 => ∃ i j, x = .int i ∧ y = .int j ∧ k i j H2
def tAdd (ta tb : TE) : TE := fun σ H Q => t2I ta tb (fun i j H2 => Q (.int (i + j)) H2) σ H
def tSub (ta tb : TE) : TE := fun σ H Q => t2I ta tb (fun i j H2 => Q (.int (i - j)) H2) σ H
def tMul (ta tb : TE) : TE := fun σ H Q => t2I ta tb (fun i j H2 => (-(2 ^ 64) < i ∧ i < 2 ^ 64) ∧ Q (.int (i * j)) H2) σ H
variable {a b : Expr} {ta tb : TE} {pos : Pos}
def PC (X : Cx) (op : CmpOp) (a b : Expr) (t : TE) : Prop :=
  ∀ (pins : List (Addr × Obj)) (s : Shared) (σ : St) (H : Hp) (Q : VK), Inv X pins σ H s → t σ H Q →
    wpAny (model X.prog X.w) X.A (eval a X.env) (fun v s₁ => wpAny (model X.prog X.w) X.A (eval b X.env) (fun u s₂ => wpAny (model X.prog X.w) X.A (compareOp op v u) (EP X pins σ Q) X.xe s₂) X.xe s₁) X.xe s
theorem nobehind (b : Expr) {op : CmpOp} (h : op ≠ .In) (h2 : op ≠ .NotIn) : behindInMarks op b = false := by
  have e1 : (op == CmpOp.In) = false := by cases op <;> first | rfl | exact absurd rfl h
  have e2 : (op == CmpOp.NotIn) = false := by cases op <;> first | rfl | exact absurd rfl h2
  cases b <;> simp [behindInMarks, e1, e2]
def tCmp (p : Int → Int → Bool) (ta tb : TE) : TE := fun σ H Q => t2I ta tb (fun i j H2 => Q (.bl (p i j)) H2) σ H
abbrev tLt : TE → TE → TE := tCmp fun i j => decide (i < j)
abbrev tLe : TE → TE → TE := tCmp fun i j => decide (i ≤ j)
abbrev tGt : TE → TE → TE := tCmp fun i j => decide (j < i)
abbrev tGe : TE → TE → TE := tCmp fun i j => decide (j ≤ i)
abbrev tEqI : TE → TE → TE := tCmp fun i j => decide (i = j)
abbrev tNeI : TE → TE → TE := tCmp fun i j => !decide (i = j)
def tIsN (ta : TE) : TE := fun σ H Q => ta σ H fun x H1 => Q (.bl (decide (x = .non))) H1
def tNotN (ta : TE) : TE := fun σ H Q => ta σ H fun x H1 => Q (.bl (!decide (x = .non))) H1
theorem RelV.none_iff {x : V} {v : Value} (r : RelV x v) : (v == Value.none) = decide (x = .non) := by
  cases x with
  | non => cases r; rfl
  | bl _ => cases r; rfl
  | int _ => obtain ⟨t, rfl⟩ := r; rfl
  | str _ => obtain ⟨t, rfl⟩ := r; rfl
  | byt _ => obtain ⟨t, rfl⟩ := r; rfl
  | flt _ => obtain ⟨t, rfl⟩ := r; rfl
  | ref _ => cases r; rfl
  | ty _ => cases r; rfl
theorem pc_isN {j pos'} (ha : PE X a ta) : PC X .Is a (.Constant .none j pos') (tIsN ta) := by
  intro pins s σ H Q I h
  refine thn (ha pins s σ H _ I h) fun v s1 ⟨x, H1, I1, r1, q1⟩ => ?_
  exact Constant_none (is_none_gen ⟨.bl _, H1, I1, by rw [r1.none_iff]; rfl, q1⟩)
def tB (t : TE) : TT := fun σ H Q => t σ H fun x H1 => ∃ c, x = .bl c ∧ Q c H1
theorem pe_cmp {op : CmpOp} {t : TE} (h : PC X op a b t) (h1 : behindInMarks op b = false := by first | exact nobehind _ (by decide) (by decide) | rfl) : PE X (.Compare a [op] [b] pos) t := fun pins s σ H Q I hw => wpAny_Compare1 (h pins s σ H Q I hw) h1
theorem pt_cmp {op : CmpOp} {t : TE} (h : PC X op a b t) (h1 : behindInMarks op b = false := by first | exact nobehind _ (by decide) (by decide) | rfl) : PT X (.Compare a [op] [b] pos) (tB t) := by
  intro pins s σ H Q I hw
  refine wpAny_isTrue_Compare1 (thn (h pins s σ H _ I hw) fun v s1 h1 => thn h1 fun u s2 h2 => thn h2 fun c s3 ⟨x, H1, I1, r1, q1⟩ => ?_) h1
  obtain ⟨d, rfl, q⟩ := q1
  cases r1
  exact wpAny_truthy_bool ⟨H1, I1, q⟩
theorem pt_val {e : Expr} {t : TE} (h : PE X e t) (he : ∀ whole, isTrue e X.env whole = (do let v ← whole; standAt e.pos; holding [v] (truthy v)) := by intro _; rfl) : PT X e (tB t) := by
  intro pins s σ H Q I hw
  refine isTrue_plain (thn (h pins s σ H _ I hw) fun v s1 ⟨x, H1, I1, r1, q1⟩ => ?_) (he _)
  obtain ⟨d, rfl, q⟩ := q1
  cases r1
  exact wpAny_truthy_bool ⟨H1, I1, q⟩
variable {tA tB' : TT} {rest : List Expr}
def tAnd (t u : TT) : TT := fun σ H Q => t σ H fun c H1 => if c = true then u σ H1 Q else Q false H1
def tOr (t u : TT) : TT := fun σ H Q => t σ H fun c H1 => if c = true then Q true H1 else u σ H1 Q
def tNot (t : TT) : TT := fun σ H Q => t σ H fun c H1 => Q (!c) H1
theorem pw_and1 (ha : PT X a tA) : PW X (.BoolOp .And [a] pos) tA := by
  intro wh pins s σ H Q I h
  refine isTrue_and (thn (ha pins s σ H Q I h) fun c s1 e => ?_)
  cases c with
  | true => exact isTrue_and_nil e
  | false => exact e
theorem pw_or1 (ha : PT X a tA) : PW X (.BoolOp .Or [a] pos) tA := by
  intro wh pins s σ H Q I h
  refine isTrue_or (thn (ha pins s σ H Q I h) fun c s1 e => ?_)
  cases c with
  | false => exact isTrue_or_nil e
  | true => exact e
theorem pw_and (ha : PT X a tA) (hb : PW X (.BoolOp .And (b :: rest) pos) tB') : PW X (.BoolOp .And (a :: b :: rest) pos) (tAnd tA tB') := by
  intro wh pins s σ H Q I h
  refine isTrue_and (thn (ha pins s σ H _ I h) fun c s1 ⟨H1, I1, q1⟩ => ?_)
  cases c with
  | true => exact hb wh pins s1 σ H1 Q I1 q1
  | false => exact ⟨H1, I1, q1⟩
theorem pw_or (ha : PT X a tA) (hb : PW X (.BoolOp .Or (b :: rest) pos) tB') : PW X (.BoolOp .Or (a :: b :: rest) pos) (tOr tA tB') := by
  intro wh pins s σ H Q I h
  refine isTrue_or (thn (ha pins s σ H _ I h) fun c s1 ⟨H1, I1, q1⟩ => ?_)
  cases c with
  | true => exact ⟨H1, I1, q1⟩
  | false => exact hb wh pins s1 σ H1 Q I1 q1
theorem pt_not (ha : PT X a tA) : PT X (.UnaryOp .Not a pos) (tNot tA) := by
  intro pins s σ H Q I h
  exact isTrue_not (ha pins s σ H (fun c H1 => Q (!c) H1) I h)
def tAndV (ta tb : TE) : TE := fun σ H Q => ta σ H fun x H1 => ∃ c, x = .bl c ∧ if c = true then tb σ H1 Q else Q (.bl false) H1
def tOrV (ta tb : TE) : TE := fun σ H Q => ta σ H fun x H1 => ∃ c, x = .bl c ∧ if c = true then Q (.bl true) H1 else tb σ H1 Q
def tNotV (ta : TE) : TE := fun σ H Q => ta σ H fun x H1 => ∃ c, x = .bl c ∧ Q (.bl (!c)) H1
theorem pe_one {op} {t : TE} (h : PE X a t) : PE X (.BoolOp op [a] pos) t := fun pins s σ H Q I hw => BoolOp_one (h pins s σ H Q I hw)
theorem pe_and (ha : PE X a ta) (hb : PE X (.BoolOp .And (b :: rest) pos) tb) : PE X (.BoolOp .And (a :: b :: rest) pos) (tAndV ta tb) := by
  intro pins s σ H Q I h
  refine BoolOp_and (thn (ha pins s σ H _ I h) fun v s1 ⟨x, H1, I1, r1, q1⟩ => ?_)
  obtain ⟨c, rfl, q1⟩ := q1
  cases r1
  refine wpAny_truthy_bool ?_
  cases c with
  | true => exact hb pins s1 σ H1 Q I1 q1
  | false => exact ⟨.bl false, H1, I1, rfl, q1⟩
def tIf (t : TT) (ta tb : TE) : TE := fun σ H Q => t σ H fun c H1 => if c = true then ta σ H1 Q else tb σ H1 Q
theorem pe_ifExp {c : Expr} (hc : PT X c tA) (ha : PE X a ta) (hb : PE X b tb) : PE X (.IfExp c a b pos) (tIf tA ta tb) := by
  intro pins s σ H Q I h
  refine wpAny_IfExp (thn (hc pins s σ H _ I h) fun d s1 ⟨H1, I1, q1⟩ => ?_)
  cases d with
  | true => exact ha pins s1 σ H1 Q I1 q1
  | false => exact hb pins s1 σ H1 Q I1 q1
end
end L2
namespace L2
open PySem PySem.Spec PyProof.Rows
def SqL (K : PySem.W.Frag) (H : Hp) (a : Addr) (xs : List V) : Prop :=
  Rd H a (.lst xs) ∨
    ∃ (o : Obj) (its : Array Value) (n : Nat), K.lookup a = some o ∧ o.cls = .type "list" ∧ o.dict = none ∧ o.data = .seq its n ∧ its.size ≤ sizeLine ∧ Vals xs its.toList
def SqT (K : PySem.W.Frag) (H : Hp) (a : Addr) (xs : List V) : Prop :=
  Rd H a (.tup xs) ∨
    ∃ (o : Obj) (its : Array Value) (n : Nat), K.lookup a = some o ∧ o.cls = .type "tuple" ∧ o.data = .seq its n ∧ its.size ≤ sizeLine ∧ Vals xs its.toList
def absV : Value → Option V
  | .none => some .non
  | .bool b => some (.bl b)
  | .int i _ => some (.int i)
  | .str x _ => some (.str x)
  | .bytes b _ => some (.byt b)
  | .float b _ => some (.flt b)
  | .ref a => some (.ref a)
  | .type n => some (.ty n)
  | _ => none
theorem RelV.abs {x : V} {u : Value} (r : RelV x u) : absV u = some x := by
  cases x with
  | non => cases r; rfl
  | bl _ => cases r; rfl
  | int _ => obtain ⟨t, rfl⟩ := r; rfl
  | str _ => obtain ⟨t, rfl⟩ := r; rfl
  | byt _ => obtain ⟨t, rfl⟩ := r; rfl
  | flt _ => obtain ⟨t, rfl⟩ := r; rfl
  | ref _ => cases r; rfl
  | ty _ => cases r; rfl
theorem RelV.inj {x y : V} {u : Value} (r : RelV x u) (q : RelV y u) : x = y := Option.some.inj (r.abs.symm.trans q.abs)
theorem Vals.inj : ∀ {xs ys : List V} {us : List Value}, Vals xs us → Vals ys us → xs = ys
  | _, _, _, .nil, .nil => rfl
  | _, _, _, .cons r t, .cons r' t' => by rw [r.inj r', Vals.inj t t']
section
variable {X : Cx} {pins : List (Addr × Obj)} {σ : St} {H : Hp} {s : Shared} {a : Addr} {xs ys : List V}
theorem SqL.of {K : PySem.W.Frag} (h : H a = some (.lst xs)) : SqL K H a xs := .inl (.inl h)
theorem SqT.of {K : PySem.W.Frag} (h : H a = some (.tup xs)) : SqT K H a xs := .inl (.inl h)
theorem Inv.list (I : Inv X pins σ H s) (h : SqL X.K H a xs) : ∃ its : List Value, Vals xs its ∧ PlainL s.heap a its.toArray ∧ xs.length ≤ sizeLine := by
  rcases h with h | ⟨o, its, n, hk, hc, hd, hs, hz, r⟩
  · obtain ⟨z, its, n, r, e⟩ := h.ok I.hok
    exact ⟨its, r, ⟨_, n, e, rfl, rfl, rfl⟩, z⟩
  · refine ⟨its.toList, r, ⟨o, n, I.kIn a o hk, hc, hd, by simpa using hs⟩, ?_⟩
    have e := r.length
    simp only [Array.length_toList] at e
    omega
theorem Inv.tuple (I : Inv X pins σ H s) (h : SqT X.K H a xs) : ∃ its : List Value, Vals xs its ∧ IsTup s.heap a its.toArray ∧ xs.length ≤ sizeLine := by
  rcases h with h | ⟨o, its, n, hk, hc, hs, hz, r⟩
  · obtain ⟨z, its, r, p⟩ := h.ok I.hok
    exact ⟨its, r, p, z⟩
  · refine ⟨its.toList, r, ⟨o, I.kIn a o hk, hc, n, by simpa using hs⟩, ?_⟩
    have e := r.length
    simp only [Array.length_toList] at e
    omega
theorem Inv.list_inj (I : Inv X pins σ H s) (h : SqL X.K H a xs) (h' : SqL X.K H a ys) : xs = ys := by
  obtain ⟨its, r, ⟨o, n, e, _, _, d⟩, _⟩ := I.list h
  obtain ⟨its', r', ⟨o', n', e', _, _, d'⟩, _⟩ := I.list h'
  rw [e] at e'; cases e'
  rw [d] at d'
  injection d' with d1 _
  have : its = its' := by simpa using congrArg Array.toList d1
  subst this
  exact r.inj r'
end
abbrev Cx.wish (X : Cx) (E : Value → Shared → Prop) : Cx := { X with xe := E }
abbrev Cx.nox (X : Cx) : Cx := X.wish fun _ _ => False
theorem Cx.Ok.wish {X : Cx} (ok : X.Ok) (E : Value → Shared → Prop) : (X.wish E).Ok :=
  ⟨ok.mod, ok.kind, ok.glob, ok.blt, ok.above, ok.inj, ok.has, ok.cab, ok.hd, ok.frames, ok.stk, ok.exf, ok.bs, ok.bsz, ok.noex, ok.exfs, ok.funs, ok.frf⟩
theorem Cx.Ok.unwish {X : Cx} {E : Value → Shared → Prop} (ok : (X.wish E).Ok) : X.Ok :=
  ⟨ok.mod, ok.kind, ok.glob, ok.blt, ok.above, ok.inj, ok.has, ok.cab, ok.hd, ok.frames, ok.stk, ok.exf, ok.bs, ok.bsz, ok.noex, ok.exfs, ok.funs, ok.frf⟩
section
variable {X : Cx} {pins : List (Addr × Obj)} {σ : St} {H : Hp} {s : Shared} {E : Value → Shared → Prop}
theorem Inv.wish (I : Inv X pins σ H s) (E : Value → Shared → Prop) : Inv (X.wish E) pins σ H s := ⟨I.ok.wish E, I.os, I.bare, I.base, I.loc, I.cell, I.free, I.freeC, I.pin, I.hok, I.len⟩
theorem Inv.unwish (I : Inv (X.wish E) pins σ H s) : Inv X pins σ H s := ⟨I.ok.unwish, I.os, I.bare, I.base, I.loc, I.cell, I.free, I.freeC, I.pin, I.hok, I.len⟩
theorem SP.unwish {D : Ends} {f : Flow} {s' : Shared} (h : SP (X.wish E) pins D f s') : SP X pins D f s' := by
  cases f with
  | next => obtain ⟨σ', H', I, q⟩ := h; exact ⟨σ', H', I.unwish, q⟩
  | brk => obtain ⟨σ', H', I, q⟩ := h; exact ⟨σ', H', I.unwish, q⟩
  | cont => obtain ⟨σ', H', I, q⟩ := h; exact ⟨σ', H', I.unwish, q⟩
  | ret u => obtain ⟨v, σ', H', I, r, q⟩ := h; exact ⟨v, σ', H', I.unwish, r, q⟩
theorem PSs.nox {st : List Stmt} {t : TS} (h : PSs X.nox st t) : PSs X st t := fun pins s σ H D I hw =>
  wpAny_mono (h pins s σ H D (I.wish _) hw) (fun _ _ q => q.unwish) fun _ _ z => False.elim z
end
section
variable {X : Cx} {st : Stmt} {rest : List Stmt} {t u : TS} {e : Expr} {te : TE} {pos : Pos}
def tNext : TS := fun D σ H => D.nx σ H
def tSeq (t u : TS) : TS := fun D σ H => t { D with nx := u D } σ H
theorem pss_nil : PSs X [] tNext := fun _ _ σ H _ I h => wpAny_execs_nil ⟨σ, H, I, h⟩
theorem pss_cons (h1 : PS X st t) (h2 : PSs X rest u) : PSs X (st :: rest) (tSeq t u) := by
  intro pins s σ H D I h
  refine wpAny_execs_cons (thn (h1 pins s σ H { D with nx := u D } I h) fun f s1 q => ?_)
  cases f with
  | next =>
    obtain ⟨σ', H', I', q⟩ := q
    exact h2 pins s1 σ' H' D I' q
  | ret v => exact q
  | brk => exact q
  | cont => exact q
theorem pss_one (h1 : PS X st t) : PSs X [st] t := by
  intro pins s σ H D I h
  refine wpAny_execs_cons (thn (h1 pins s σ H D I h) fun f s1 q => ?_)
  cases f with
  | next => exact wpAny_execs_nil q
  | ret v => exact q
  | brk => exact q
  | cont => exact q
def tBreak : TS := fun D σ H => D.bk σ H
def tCont : TS := fun D σ H => D.ct σ H
theorem Inv.quiet {pins : List (Addr × Obj)} {σ : St} {H : Hp} {s : Shared} (I : Inv X pins σ H s) : interactive X.env = false := by simp [interactive, I.ok.kind]
def tDrop (te : TE) : TS := fun D σ H => te σ H fun _ H1 => D.nx σ H1
theorem ps_expr (he : PE X e te) (hs : swapsWith e none pos.line X.env = pure false := by rfl) : PS X (.Expr e pos) (tDrop te) := by
  intro pins s σ H D I h
  exact wpAny_Expr_any (thn (he pins s σ H _ I h) fun v s1 ⟨x, H1, I1, r1, q1⟩ => ⟨σ, H1, I1, q1⟩) I.quiet hs
def tRet (te : TE) : TS := fun D σ H => te σ H D.rt
theorem ps_ret (he : PE X e te) : PS X (.Return (some e) pos) (tRet te) := by
  intro pins s σ H D I h
  exact wpAny_Return_some (thn (he pins s σ H _ I h) fun v s1 ⟨x, H1, I1, r1, q1⟩ => ⟨x, σ, H1, I1, r1, q1⟩)
def tRetN : TS := fun D _ H => D.rt .non H
def tIfS (c : TT) (t u : TS) : TS := fun D σ H => c σ H fun b H1 => if b = true then t D σ H1 else u D σ H1
theorem ps_if {c : Expr} {a b : List Stmt} {tc : TT} (hc : PT X c tc) (ha : PSs X a t) (hb : PSs X b u) : PS X (.If c a b pos) (tIfS tc t u) := by
  intro pins s σ H D I h
  refine wpAny_If (thn (hc pins s σ H _ I h) fun d s1 ⟨H1, I1, q1⟩ => ?_)
  cases d with
  | true => exact ha pins s1 σ H1 D I1 q1
  | false => exact hb pins s1 σ H1 D I1 q1
def tNever : TS := fun _ _ _ => False
end
abbrev TG := V → St → Hp → (St → Hp → Prop) → Prop
abbrev TGs := List V → St → Hp → (St → Hp → Prop) → Prop
def PG (X : Cx) (target : Expr) (t : TG) : Prop :=
  ∀ (pins : List (Addr × Obj)) (s : Shared) (σ : St) (H : Hp) (v : V) (u : Value) (Q : St → Hp → Prop), Inv X pins σ H s → RelV v u → t v σ H Q →
    wpAny (model X.prog X.w) X.A (assign target X.env u) (fun _ s' => ∃ σ' H', Inv X pins σ' H' s' ∧ Q σ' H') X.xe s
def PGs (X : Cx) (ts : List Expr) (t : TGs) : Prop :=
  ∀ (pins : List (Addr × Obj)) (s : Shared) (σ : St) (H : Hp) (vs : List V) (us : List Value) (Q : St → Hp → Prop), Inv X pins σ H s → Vals vs us → t vs σ H Q →
    wpAny (model X.prog X.w) X.A (assignInOrder ((assignEach ts X.env).map (·.2)) us) (fun _ s' => ∃ σ' H', Inv X pins σ' H' s' ∧ Q σ' H') X.xe s
abbrev TSet := V → V → V → Hp → (Hp → Prop) → Prop
def PSet (X : Cx) (t : TSet) : Prop :=
  ∀ (pins : List (Addr × Obj)) (s : Shared) (σ : St) (H : Hp) (o i v : V) (ov iv u : Value) (Q : Hp → Prop), Inv X pins σ H s → RelV o ov → RelV i iv → RelV v u → t o i v H Q →
    wpAny (model X.prog X.w) X.A (setItem ov iv u) (fun _ s' => ∃ H', Inv X pins σ H' s' ∧ Q H') X.xe s
abbrev TIp := V → V → Hp → VK → Prop
def PIp (X : Cx) (op : Operator) (t : TIp) : Prop :=
  ∀ (pins : List (Addr × Obj)) (s : Shared) (σ : St) (H : Hp) (x y : V) (v u : Value) (Q : VK), Inv X pins σ H s → RelV x v → RelV y u → t x y H Q →
    wpAny (model X.prog X.w) X.A (inplaceOp op v u) (EP X pins σ Q) X.xe s
section
variable {X : Cx} {pos : Pos}
def gName (i : Nat) : TG := fun v σ H Q => Q (σ.set i (some v)) H
theorem pg_name {i : Nat} {x : Str} (hN : X.N.Nodup) (hi : X.N[i]? = some x) (hx : Loc X.env.scope x) (hf : X.fn x = true ∨ X.env.scope.names.lookup x = some .local := by first | exact .inl rfl | exact .inr rfl | assumption) : PG X (.Name x pos) (gName i) := by
  intro pins s σ H v u Q I r h
  exact wpAny_assign_Name (store_ok I hN hi hx r (fun s' I' => ⟨_, H, I', h⟩) hf)
def gNil : TGs := fun vs σ H Q => vs = [] ∧ Q σ H
def gCons (t : TG) (u : TGs) : TGs := fun vs σ H Q => ∃ v r, vs = v :: r ∧ t v σ H fun σ' H' => u r σ' H' Q
theorem pgs_nil : PGs X [] gNil := by
  intro pins s σ H vs us Q I r h
  obtain ⟨e, h⟩ := h
  subst e
  cases r
  exact assignInOrder_nil ⟨σ, H, I, h⟩
theorem pgs_cons {e : Expr} {es : List Expr} {t : TG} {u : TGs} (h1 : PG X e t) (h2 : PGs X es u)
    (hs : (assignEach (e :: es) X.env).map (·.2) = assign e X.env :: (assignEach es X.env).map (·.2) := by rfl) : PGs X (e :: es) (gCons t u) := by
  intro pins s σ H vs us Q I r h
  obtain ⟨v, vr, e1, h⟩ := h
  subst e1
  cases r with
  | cons r rr =>
    rw [hs]
    refine assignInOrder_cons (thn (h1 pins s σ H _ _ _ I r h) fun _ s1 ⟨σ1, H1, I1, q1⟩ => ?_)
    exact h2 pins s1 σ1 H1 _ _ Q I1 rr q1
def gTup (K : PySem.W.Frag) (n : Nat) (t : TGs) : TG := fun v σ H Q => ∃ a xs, v = .ref a ∧ SqT K H a xs ∧ xs.length = n ∧ t xs σ H Q
theorem pg_tup {es : List Expr} {k : Nat} {t : TGs} {n : Nat} (hc : X.calm = true) (h : PGs X es t)
    (hn : (assignEach es X.env).length = n := by rfl) (hst : (assignEach es X.env).findIdx? (·.1) = none := by rfl) : PG X (.Tuple es k pos) (gTup X.K n t) := by
  intro pins s σ H v u Q I r hw
  obtain ⟨a, xs, e1, hq, hl, hw⟩ := hw
  subst e1
  cases r
  obtain ⟨its, rv, ht, hz⟩ := I.tuple hq
  refine assign_Tuple_tuple (I.ok.hd hc) ht (by simp [hn, ← hl, rv.length]) hst fun h' hx => ?_
  have I1 : Inv X pins σ H { s with heap := h' } := I.kept (t' := s.toks) fun b o e => hx b o (Nat.ne_of_lt (Heap.lt_size e)) e
  exact h pins _ σ H xs _ Q I1 (by simpa using rv) hw
def gSub (to ti : TE) (t : TSet) : TG := fun v σ H Q => to σ H fun o H1 => ti σ H1 fun i H2 => t o i v H2 fun H3 => Q σ H3
theorem pg_sub {o i : Expr} {to ti : TE} {t : TSet} (ho : PE X o to) (hi : PE X i ti) (hs : PSet X t)
    (ha : ∀ v, assign (.Subscript o i pos) X.env v = (do
      let ov ← holding [v] (eval o X.env)
      let iv ← holding [v, ov] (eval i X.env)
      standAt pos
      holding [v, ov, iv] (setItem ov iv v)
      release [v, ov, iv] []) := by intro _; rfl) : PG X (.Subscript o i pos) (gSub to ti t) := by
  intro pins s σ H v u Q I r h
  rw [ha]
  refine wpAny_bind (wpAny_holding (thn (ho pins s σ H _ I h) fun ov s1 ⟨x, H1, I1, r1, q1⟩ => ?_))
  refine wpAny_bind (wpAny_holding (thn (hi pins s1 σ H1 _ I1 q1) fun iv s2 ⟨y, H2, I2, r2, q2⟩ => ?_))
  refine wpAny_bind (wpAny_standAt (wpAny_bind (wpAny_holding (thn (hs pins s2 σ H2 x y v ov iv u _ I2 r1 r2 r q2) fun _ s3 ⟨H3, I3, q3⟩ => ?_))))
  exact wpAny_release ⟨σ, H3, I3, q3⟩
def tAsg (te : TE) (g : TG) : TS := fun D σ H => te σ H fun x H1 => g x σ H1 D.nx
theorem ps_asg {tg e : Expr} {te : TE} {g : TG} (he : PE X e te) (hg : PG X tg g) (hs : swapsWithSole [tg] e pos.line X.env = pure false := by rfl) (hw : swappedStores [tg] e X.env = pure none := by rfl)
    (h1 : (assignEach [tg] X.env).map (·.2) = [assign tg X.env] := by rfl) : PS X (.Assign [tg] e pos) (tAsg te g) := by
  intro pins s σ H D I h
  refine wpAny_Assign_stores (thn (he pins s σ H _ I h) fun v s1 ⟨x, H1, I1, r1, q1⟩ => ?_) hs hw
  rw [h1]
  exact thn (hg pins s1 σ H1 x v _ I1 r1 q1) fun _ s2 q => q
theorem ps_set {i : Nat} {x : Str} {e : Expr} {te : TE} {pos' : Pos} (hN : X.N.Nodup) (hi : X.N[i]? = some x) (hx : Loc X.env.scope x) (he : PE X e te) (hs : swapsWith e (some (.Name x pos')) pos.line X.env = pure false := by rfl) (hf : X.fn x = true ∨ X.env.scope.names.lookup x = some .local := by first | exact .inl rfl | exact .inr rfl | assumption) :
    PS X (.Assign [.Name x pos'] e pos) (tAsg te (gName i)) := by
  intro pins s σ H D I h
  refine wpAny_Assign_Name (thn (he pins s σ H _ I h) fun v s1 ⟨y, H1, I1, r1, q1⟩ => ?_) hs
  exact store_ok I1 hN hi hx r1 (fun s2 I2 => ⟨_, H1, I2, q1⟩) hf
def tPar (i j : Nat) (ta : TA) : TS := fun D σ H => ta σ H fun vs H1 => ∃ v w, vs = [v, w] ∧ D.nx ((σ.set i (some v)).set j (some w)) H1
def tAug (i : Nat) (te : TE) (ti : TIp) : TS := fun D σ H => ∃ x, σ[i]? = some (some x) ∧ te σ H fun y H1 => ti x y H1 fun z H2 => D.nx (σ.set i (some z)) H2
def tAugS (to ti te : TE) (tget : V → V → Hp → VK → Prop) (tip : TIp) (tset : TSet) : TS := fun D σ H => to σ H fun o H1 => ti σ H1 fun i H2 => tget o i H2 fun x H3 => te σ H3 fun y H4 => tip x y H4 fun z H5 => tset o i z H5 fun H6 => D.nx σ H6
def PGet (X : Cx) (t : V → V → Hp → VK → Prop) : Prop :=
  ∀ (pins : List (Addr × Obj)) (s : Shared) (σ : St) (H : Hp) (o i : V) (ov iv : Value) (Q : VK), Inv X pins σ H s → RelV o ov → RelV i iv → t o i H Q →
    wpAny (model X.prog X.w) X.A (getItem ov iv) (EP X pins σ Q) X.xe s
def ipI (f : Int → Int → Int) : TIp := fun x y H Q => ∃ i j, x = .int i ∧ y = .int j ∧ Q (.int (f i j)) H
end
section
variable {X : Cx} {pos : Pos}
def tWhile (c : TT) (tb : TS) : TS := fun D σ H => ∃ W : Nat → St → Hp → Prop, (∃ m, W m σ H) ∧ ∀ m σ H, W m σ H →
  c σ H fun b H1 => if b = true then ∃ N : St → Hp → Prop, (∀ σ' H', N σ' H' → ∃ m', m' < m ∧ W m' σ' H') ∧ tb { D with nx := N, ct := N, bk := D.nx } σ H1 else D.nx σ H1
theorem ps_while {c : Expr} {body : List Stmt} {tc : TT} {tb : TS} (hp : PassesOwn (model X.prog X.w) X.A X.env X.xe) (hc : PT X c tc) (hb : PSs X body tb) : PS X (.While c body [] pos) (tWhile tc tb) := by
  intro pins s σ H D I h
  obtain ⟨W, ⟨m0, w0⟩, turn⟩ := h
  refine wpAny_While (codeAny_whileLoop (fun n s' => ∃ σ' H', Inv X pins σ' H' s' ∧ W n σ' H') ?_ m0 ⟨σ, H, I, w0⟩)
  rintro n s1 ⟨σ1, H1, I1, w1⟩
  refine wpAny_passesOwn hp (thn (hc pins s1 σ1 H1 _ I1 (turn n σ1 H1 w1)) fun b s2 ⟨H2, I2, q2⟩ => ?_)
  cases b with
  | true =>
    obtain ⟨N, hN, q2⟩ := q2
    rw [if_pos rfl]
    refine wpAny_passesOwn hp (thn (hb pins s2 σ1 H2 _ I2 q2) fun f s3 q3 => ?_)
    cases f with
    | next =>
      obtain ⟨σ3, H3, I3, n3⟩ := q3
      obtain ⟨m', hm, w3⟩ := hN σ3 H3 n3
      exact ⟨m', hm, σ3, H3, I3, w3⟩
    | cont =>
      obtain ⟨σ3, H3, I3, n3⟩ := q3
      obtain ⟨m', hm, w3⟩ := hN σ3 H3 n3
      exact ⟨m', hm, σ3, H3, I3, w3⟩
    | brk => exact q3
    | ret v => exact q3
  | false =>
    rw [if_neg Bool.false_ne_true]
    exact wpAny_execs_nil ⟨σ1, H2, I2, q2⟩
end
structure It where
  go : Nat → Hp → Prop
  yld : Nat → Hp → V → Hp → Prop
  stop : Nat → Hp → Prop
def FpOk (X : Cx) (pins : List (Addr × Obj)) (H : Hp) (b : Addr) : Prop :=
  H b = none ∧ b ≠ X.env.locals ∧ b ∉ X.fs ∧ (b ∈ X.ex ∨ X.s_0.heap.objs.size ≤ b) ∧ (∀ x c, X.env.cells.lookup x = some c → c ≠ b) ∧ ∀ p ∈ X.pn ++ pins, p.1 ≠ b
theorem Inv.fpOk {X : Cx} {pins : List (Addr × Obj)} {σ : St} {H H' : Hp} {s : Shared} {b : Addr} (I : Inv X pins σ H s) (hb : s.heap.objs.size ≤ b) (hn : H' b = none) : FpOk X pins H' b := by
  refine ⟨hn, Nat.ne_of_gt (Nat.lt_of_lt_of_le I.lt hb), I.nofs hb, .inr (Nat.le_trans I.sz hb), fun x c e z => ?_, fun p hp z => ?_⟩
  · obtain ⟨v, q⟩ := I.cell x c e
    exact absurd (Nat.lt_of_lt_of_le q.lt (by rw [z]; exact hb)) (Nat.lt_irrefl _)
  · exact absurd (Nat.lt_of_lt_of_le (Heap.lt_size (I.pin p hp).1) (by rw [z]; exact hb)) (Nat.lt_irrefl _)
structure Turn (P : Program) (w : World) (K : PySem.W.Frag) (tg : Expr) (J : It) (fp : List Addr) (it : Addr) (tn : Nat → Heap → Prop) : Prop where
  mem : it ∈ fp
  obj : ∀ i h, tn i h → ∀ b ∈ fp, ∃ o, h.get? b = some o ∧ ∀ v, o.data ≠ .cell v
  keep : ∀ i h h', tn i h → (∀ b ∈ fp, ∀ o, h.get? b = some o → h'.get? b = some o) → tn i h'
  item : ∀ (X : Cx), X.prog = P → X.w = w → X.K = K → X.calm = true → ∀ (i : Nat) (pins : List (Addr × Obj)) (s : Shared) (σ : St) (H : Hp) (E : Value → Shared → Prop), Inv X pins σ H s → (∀ b ∈ fp, FpOk X pins H b) → tn i s.heap → J.go i H →
    wpAny (model P w) X.A (pyNext (.ref it)) (fun r s1 => ∃ u, r = some u ∧
      wpAny (model P w) X.A (letOwnedTupleGo tg (.ref it) u) (fun _ s2 => ∃ x H', Inv X pins σ H' s2 ∧ RelV x u ∧ J.yld i H x H' ∧ tn (i + 1) s2.heap ∧ ∀ b ∈ fp, H' b = none) E s1) E s
  done : ∀ (X : Cx), X.prog = P → X.w = w → X.K = K → X.calm = true → ∀ (i : Nat) (pins : List (Addr × Obj)) (s : Shared) (σ : St) (H : Hp) (E : Value → Shared → Prop), Inv X pins σ H s → (∀ b ∈ fp, FpOk X pins H b) → tn i s.heap → J.stop i H →
    wpAny (model P w) X.A (pyNext (.ref it)) (fun r s1 => r = none ∧ Inv X pins σ H s1) E s
  self : ∀ (A : Around) (i : Nat) (s : Shared) (Q : Value → Shared → Prop) (E : Value → Shared → Prop), tn i s.heap → Q (.ref it) s → wpAny (model P w) A (pyIter (.ref it)) Q E s
abbrev TI := St → Hp → (It → Hp → Prop) → Prop
def PIE (X : Cx) (pins : List (Addr × Obj)) (σ : St) (tg : Expr) (R : It → Hp → Prop) (itv : Value) (s2 : Shared) : Prop :=
  ∃ (it : Addr) (fp : List Addr) (tn : Nat → Heap → Prop) (J : It) (H' : Hp), itv = .ref it ∧ Inv X pins σ H' s2 ∧ Turn X.prog X.w X.K tg J fp it tn ∧ tn 0 s2.heap ∧ (∀ b ∈ fp, FpOk X pins H' b) ∧ R J H'
def PI (X : Cx) (tg iter : Expr) (wi : TI) : Prop :=
  ∀ (pins : List (Addr × Obj)) (s : Shared) (σ : St) (H : Hp) (R : It → Hp → Prop), Inv X pins σ H s → wi σ H R →
    wpAny (model X.prog X.w) X.A (eval iter X.env) (fun v s1 => wpAny (model X.prog X.w) X.A (pyIter v) (PIE X pins σ tg R) X.xe s1) X.xe s
theorem go_of {M : Model} {A : Around} {E : Value → Shared → Prop} {s : Shared} {tg : Expr} {it : Addr} {u : Value} {o : Obj} {n : String} {vs : Array Value} {Q : Unit → Shared → Prop} (ho : s.heap.get? it = some o) (hc : o.cls = .type n) (hd : o.data = .fields vs)
    (hn : ["enumerate", "zip", "dict_itemiterator", "dict_reverseitemiterator", "odict_iterator", "itertools.zip_longest", "itertools.pairwise"].contains n = false) (hQ : Q () s) : wpAny M A (letOwnedTupleGo tg (.ref it) u) Q E s := by
  unfold letOwnedTupleGo
  cases tg <;> first
    | exact wpAny_pure hQ
    | (cases u <;> first
        | exact wpAny_pure hQ
        | (refine wpAny_bind (wpAny_load ho ?_)
           rw [hc, hd]
           show wpAny M A (if (["enumerate", "zip", "dict_itemiterator", "dict_reverseitemiterator", "odict_iterator", "itertools.zip_longest", "itertools.pairwise"].contains n && vs[0]? == some (rawInt _)) = true then _ else _) Q E s
           rw [if_neg (by intro h; rw [hn, Bool.false_and] at h; cases h)]
           exact wpAny_pure hQ))
def Itl (K : PySem.W.Frag) (a : Addr) : It :=
  ⟨fun i H => ∃ xs x, SqL K H a xs ∧ xs[i]? = some x, fun i H x H' => H' = H ∧ ∀ xs, SqL K H a xs → xs[i]? = some x, fun i H => ∃ xs, SqL K H a xs ∧ xs.length ≤ i⟩
def Itt (K : PySem.W.Frag) (a : Addr) : It :=
  ⟨fun i H => ∃ xs x, SqT K H a xs ∧ xs[i]? = some x, fun i H x H' => H' = H ∧ ∀ xs, SqT K H a xs → xs[i]? = some x, fun i H => ∃ xs, SqT K H a xs ∧ xs.length ≤ i⟩
def Itr (lo : Int) (n : Nat) : It := ⟨fun i _ => i < n, fun i H x H' => H' = H ∧ x = .int (lo + i), fun i _ => n ≤ i⟩
theorem turn_list {P : Program} {w : World} {K : PySem.W.Frag} {tg : Expr} (a it : Addr) : Turn P w K tg (Itl K a) [it] it (fun i h => h.IsListIter it a i) where
  mem := by simp
  obj := fun i h st b hb => by
    have e : b = it := by simpa using hb
    subst e
    obtain ⟨o, e, c, d⟩ := st
    exact ⟨o, e, fun v z => by rw [d] at z; cases z⟩
  keep := fun i h h' st k => st.at fun o e => k it (by simp) o e
  item := by
    intro X hP hw hK hc i pins s σ H E I hf st hg
    subst hP hw hK
    obtain ⟨xs, x, hq, hx⟩ := hg
    obtain ⟨its, rv, p, hz⟩ := I.list hq
    obtain ⟨u, hu, ru⟩ := rv.get hx
    obtain ⟨f0, f1, f2, f3, f4, f5⟩ := hf it (by simp)
    refine wpAny_pyNext_list_item st p.isList (x := u) (by simpa using hu) fun h' st' sb => ?_
    have I1 : Inv X pins σ H { s with heap := h' } := I.turned (t' := s.toks) (fun b o hb e => (sb.2 b hb).trans e) f0 f1 f3 f4 f5
    obtain ⟨o, e, c, d⟩ := id st'
    exact ⟨u, rfl, go_of (s := { s with heap := h' }) e c d (by decide) ⟨x, H, I1, ru, ⟨rfl, fun ys hy => by rw [I.list_inj hy hq]; exact hx⟩, st', fun b hb => (hf b hb).1⟩⟩
  done := by
    intro X hP hw hK hc i pins s σ H E I hf st hg
    subst hP hw hK
    obtain ⟨xs, hq, hx⟩ := hg
    obtain ⟨its, rv, p, hz⟩ := I.list hq
    obtain ⟨f0, f1, f2, f3, f4, f5⟩ := hf it (by simp)
    have hl := rv.length
    exact wpAny_pyNext_list_end (I.ok.hd hc) st p.isList (by simp; omega) fun h' eb => ⟨rfl, I.turned (t' := s.toks) (fun b o hb e => eb b o hb e) f0 f1 f3 f4 f5⟩
  self := fun _ _ _ _ _ st h => wpAny_pyIter_listiter st h
theorem turn_range {P : Program} {w : World} {K : PySem.W.Frag} {tg : Expr} (it : Addr) (lo : Int) (n : Nat) : Turn P w K tg (Itr lo n) [it] it (fun i h => IsRangeIter h it (lo + (i : Nat) * 1) ((n : Int) - (i : Nat)) 1) where
  mem := by simp
  obj := fun i h st b hb => by
    have e : b = it := by simpa using hb
    subst e
    exact ⟨_, st, fun v z => by
      have z' : Data.fields _ = Data.cell v := z
      cases z'⟩
  keep := fun i h h' st k => k it (by simp) _ st
  item := by
    intro X hP hw hK hc i pins s σ H E I hf st hg
    subst hP hw hK
    obtain ⟨f0, f1, f2, f3, f4, f5⟩ := hf it (by simp)
    have W := Walks.range (prog := X.prog) (w := X.w) (I.ok.hd hc) it lo 1 n
    refine W.item i s _ _ hg st fun v h' tk hv st' kk => ?_
    obtain ⟨t, rfl⟩ := hv
    have I1 : Inv X pins σ H { s with heap := h', toks := tk } := I.turned (fun b o hb e => kk b o (by simpa using hb) e) f0 f1 f3 f4 f5
    refine ⟨_, rfl, go_of (s := { s with heap := h', toks := tk }) (n := "range_iterator") st' rfl rfl (by decide) ⟨.int (lo + i), H, I1, ⟨t, ?_⟩, ⟨rfl, rfl⟩, st', fun b hb => (hf b hb).1⟩⟩
    rw [Int.mul_one]
  done := by
    intro X hP hw hK hc i pins s σ H E I hf st hg
    subst hP hw hK
    obtain ⟨f0, f1, f2, f3, f4, f5⟩ := hf it (by simp)
    exact wpAny_pyNext_range_end (I.ok.hd hc) st (by have : n ≤ i := hg; omega) fun h' eb => ⟨rfl, I.turned (t' := s.toks) (fun b o hb e => eb b o hb e) f0 f1 f3 f4 f5⟩
  self := fun _ _ _ _ _ st h => wpAny_pyIter_rangeiter st h
end L2
namespace L2
open PySem PySem.Spec PyProof.Rows
section
variable {X : Cx} {tg : Expr}
def iList (K : PySem.W.Frag) (tl : TE) : TI := fun σ H R => tl σ H fun x H1 => ∃ a, x = .ref a ∧ (∃ xs, SqL K H1 a xs) ∧ R (Itl K a) H1
def iTup (K : PySem.W.Frag) (tl : TE) : TI := fun σ H R => tl σ H fun x H1 => ∃ a, x = .ref a ∧ (∃ xs, SqT K H1 a xs) ∧ R (Itt K a) H1
theorem pi_list {l : Expr} {tl : TE} (hl : PE X l tl) : PI X tg l (iList X.K tl) := by
  intro pins s σ H R I h
  refine thn (hl pins s σ H _ I h) fun v s1 ⟨x, H1, I1, r1, q1⟩ => ?_
  obtain ⟨a, e, ⟨xs, hq⟩, q⟩ := q1
  subst e
  cases r1
  obtain ⟨its, rv, p, hz⟩ := I1.list hq
  refine wpAny_pyIter_list p.isList ?_
  refine ⟨s1.heap.objs.size, [s1.heap.objs.size], _, _, H1, rfl, I1.kept (t' := s1.toks) fun b o e => Heap.get?_push_of_some _ e, turn_list a _, ⟨_, Heap.get?_push_size _ rfl, rfl, rfl⟩, fun b hb => ?_, q⟩
  have e : b = s1.heap.objs.size := by simpa using hb
  subst e
  exact I1.fpOk (Nat.le_refl _) (I1.hok.fresh (Nat.le_refl _))
theorem range_it {pins : List (Addr × Obj)} {σ : St} {H : Hp} {s : Shared} {R : It → Hp → Prop} {E : Value → Shared → Prop} {lo hi : Int} {t u v : Tok} {tk : Nat} (I : Inv X pins σ H s) (h1 : -(2 ^ 62) ≤ lo) (h2 : lo < 2 ^ 62) (h3 : -(2 ^ 62) ≤ hi) (h4 : hi < 2 ^ 62)
    (q : R (Itr lo (hi - lo).toNat) H) : wpAny (model X.prog X.w) X.A (pyIter (.ref s.heap.objs.size)) (PIE X pins σ tg R) E { s with heap := s.heap.push { cls := .type "range", data := .fields #[.int lo t, .int hi u, .int 1 v] }, toks := tk } := by
  refine wpAny_pyIter_range (IsRange.new ..) (small_one h1 h2 h3 h4) ?_
  have I1 : Inv X pins σ H { s with heap := s.heap.push { cls := .type "range", data := .fields #[.int lo t, .int hi u, .int 1 v] }, toks := tk } := I.kept fun b o e => Heap.get?_push_of_some _ e
  refine ⟨(s.heap.push { cls := .type "range", data := .fields #[.int lo t, .int hi u, .int 1 v] }).objs.size, [(s.heap.push { cls := .type "range", data := .fields #[.int lo t, .int hi u, .int 1 v] }).objs.size], _, _, H, rfl,
    I1.kept (t' := tk) fun b o e => Heap.get?_push_of_some _ e, turn_range _ lo (hi - lo).toNat, ?_, fun b hb => ?_, q⟩
  · have e1 : lo + ((0 : Nat) : Int) * 1 = lo := by simp
    have e2 : (((hi - lo).toNat : Nat) : Int) - ((0 : Nat) : Int) = Builtin.Range.rangeSize lo hi 1 := by rw [rangeSize_one]; split <;> omega
    show IsRangeIter _ _ (lo + ((0 : Nat) : Int) * 1) ((((hi - lo).toNat : Nat) : Int) - ((0 : Nat) : Int)) 1
    rw [e1, e2]
    exact Heap.get?_push_size _ rfl
  · have e : b = (s.heap.push { cls := .type "range", data := .fields #[.int lo t, .int hi u, .int 1 v] }).objs.size := by simpa using hb
    subst e
    exact I1.fpOk (Nat.le_refl _) (I1.hok.fresh (Nat.le_refl _))
def iRng1 (ta : TA) : TI := fun σ H R => ta σ H fun vs H1 => ∃ j : Int, vs = [.int j] ∧ -(2 ^ 62) ≤ j ∧ j < 2 ^ 62 ∧ R (Itr 0 j.toNat) H1
def iRng2 (ta : TA) : TI := fun σ H R => ta σ H fun vs H1 => ∃ i j : Int, vs = [.int i, .int j] ∧ (-(2 ^ 62) ≤ i ∧ i < 2 ^ 62 ∧ -(2 ^ 62) ≤ j ∧ j < 2 ^ 62) ∧ R (Itr i (j - i).toNat) H1
theorem pi_range2 {a b : Expr} {ta : TA} {p pos : Pos} (hg : Gl X "range") (hm : X.mg "range" = none) (ha : PA X [a, b] ta) (hs : starEach [a, b] X.env = [(false, eval a X.env), (false, eval b X.env)] := by rfl) (hs2 : starEach [b] X.env = [(false, eval b X.env)] := by rfl) :
    PI X tg (.Call (.Name "range" p) [a, b] [] pos) (iRng2 ta) := by
  intro pins s σ H R I h
  refine Call_ (ld_blt I hg hm boot_range (PyProof.Rows.callWith_type1 (thn (ha pos pins s σ H _ I h) fun us s1 ⟨vs, H1, I1, r1, q1⟩ => ?_) (by rw [hs, hs2]) (by rw [hs2]; rfl)))
  obtain ⟨i, j, e, ⟨q1, q2, q3, q4⟩, q⟩ := q1
  subst e
  cases r1 with
  | cons r rr =>
    cases rr with
    | cons r' rr =>
      cases rr
      obtain ⟨t, rfl⟩ := r
      obtain ⟨t', rfl⟩ := r'
      exact call_range_2 (range_it I1 q1 q2 q3 q4 q)
def tFor (wi : TI) (g : TG) (tb : TS) : TS := fun D σ H => wi σ H fun J H1 => ∃ W : Nat → Nat → St → Hp → Prop, (∃ m, W 0 m σ H1) ∧ ∀ i m σ H, W i m σ H →
  (J.stop i H ∧ D.nx σ H) ∨ (J.go i H ∧ ∃ N : St → Hp → Prop, (∀ σ' H', N σ' H' → ∃ m', m' < m ∧ W (i + 1) m' σ' H') ∧ ∀ x H', J.yld i H x H' → g x σ H' fun σ2 H2 => tb { D with nx := N, ct := N, bk := D.nx } σ2 H2)
def pinsAt (fp : List Addr) (h : Heap) : List (Addr × Obj) := fp.filterMap fun b => (h.get? b).map fun o => (b, o)
theorem mem_pinsAt {fp : List Addr} {h : Heap} {b : Addr} {o : Obj} (hb : b ∈ fp) (e : h.get? b = some o) : (b, o) ∈ pinsAt fp h := List.mem_filterMap.mpr ⟨b, hb, by rw [e]; rfl⟩
theorem of_pinsAt {fp : List Addr} {h : Heap} {p : Addr × Obj} (hp : p ∈ pinsAt fp h) : p.1 ∈ fp ∧ h.get? p.1 = some p.2 := by
  obtain ⟨b, hb, e⟩ := List.mem_filterMap.mp hp
  cases q : h.get? b with
  | none => rw [q] at e; cases e
  | some o =>
    rw [q] at e
    have e' : (b, o) = p := Option.some.inj e
    subst e'
    exact ⟨hb, q⟩
theorem Inv.pinned {pins : List (Addr × Obj)} {σ : St} {H : Hp} {s : Shared} {fp : List Addr} (I : Inv X pins σ H s) (hf : ∀ b ∈ fp, FpOk X pins H b) (ho : ∀ b ∈ fp, ∃ o, s.heap.get? b = some o ∧ ∀ v, o.data ≠ .cell v) : Inv X (pins ++ pinsAt fp s.heap) σ H s :=
  I.pins_of fun p hp => (List.mem_append.mp hp).elim (fun z => I.pin p (List.mem_append_right _ z)) fun z => by
    obtain ⟨hb, e⟩ := of_pinsAt z
    obtain ⟨f0, f1, f2, _⟩ := hf p.1 hb
    obtain ⟨o, e', d⟩ := ho p.1 hb
    rw [e] at e'; cases e'
    exact ⟨e, f0, f1, f2, d⟩
theorem Inv.unpinned {pins pl : List (Addr × Obj)} {σ : St} {H : Hp} {s : Shared} (I : Inv X (pins ++ pl) σ H s) : Inv X pins σ H s := I.pins_of fun p hp => I.pin p (List.mem_append_right _ (List.mem_append_left _ hp))
theorem ps_for {iter : Expr} {body : List Stmt} {wi : TI} {g : TG} {tb : TS} {pos : Pos} (hp : PassesOwn (model X.prog X.w) X.A X.env X.xe) (hc : X.calm = true) (hi : PI X tg iter wi) (hg : PG X tg g) (hb : PSs X body tb)
    (hs : ∀ x, foldedSetIterable iter X.env x = pure x := by intro _; rfl) : PS X (.For tg iter body [] pos) (tFor wi g tb) := by
  intro pins s σ H D I h
  refine wpAny_For (thn (hi pins s σ H _ I h) fun v s1 h1 => thn h1 fun itv s2 h2 => ?_) hs
  obtain ⟨it, fp, tn, J, H2, e, I2, T, st2, f2, W, ⟨m0, w0⟩, turn⟩ := h2
  subst e
  -- what stays true of the iterator's objects through the loop
  have stat : ∀ {H' : Hp}, (∀ b ∈ fp, H' b = none) → ∀ b ∈ fp, FpOk X pins H' b := fun hn b hb => ⟨hn b hb, (f2 b hb).2⟩
  refine codeAny_forLoop_any (fun n s' => ∃ i σ' H', Inv X pins σ' H' s' ∧ tn i s'.heap ∧ (∀ b ∈ fp, H' b = none) ∧ W i n σ' H') ?_ m0 ⟨0, σ, H2, I2, st2, fun b hb => (f2 b hb).1, w0⟩
  rintro n s3 ⟨i, σ3, H3, I3, st3, fr3, w3⟩
  rcases turn i n σ3 H3 w3 with ⟨stop, qn⟩ | ⟨go, N, hN, step⟩
  · refine wpAny_passesOwn hp (thn (T.done X rfl rfl rfl hc i pins s3 σ3 H3 X.xe I3 (stat fr3) st3 stop) fun r s4 ⟨hr, I4⟩ => ?_)
    subst hr
    exact wpAny_execs_nil ⟨σ3, H3, I4, qn⟩
  · refine wpAny_passesOwn hp (thn (T.item X rfl rfl rfl hc i pins s3 σ3 H3 X.xe I3 (stat fr3) st3 go) fun r s4 ⟨u, hr, h4⟩ => ?_)
    subst hr
    refine wpAny_passesOwn hp (thn h4 fun _ s5 ⟨x, H5, I5, r5, y5, st5, fr5⟩ => ?_)
    have I5' := I5.pinned (stat fr5) (T.obj _ _ st5)
    refine wpAny_passesOwn hp (thn (hg _ s5 σ3 H5 x u _ I5' r5 (step x H5 y5)) fun _ s6 ⟨σ6, H6, I6, q6⟩ => ?_)
    refine wpAny_passesOwn hp (thn (hb _ s6 σ6 H6 _ I6 q6) fun f s7 q7 => ?_)
    have again : ∀ {σ7 : St} {H7 : Hp}, Inv X (pins ++ pinsAt fp s5.heap) σ7 H7 s7 → N σ7 H7 → ∃ m, m < n ∧ ∃ i σ' H', Inv X pins σ' H' s7 ∧ tn i s7.heap ∧ (∀ b ∈ fp, H' b = none) ∧ W i m σ' H' := fun {σ7 H7} I7 n7 => by
      obtain ⟨m', hm, w7⟩ := hN σ7 H7 n7
      refine ⟨m', hm, i + 1, σ7, H7, I7.unpinned, T.keep _ _ _ st5 fun b hb o e => (I7.pin (b, o) (List.mem_append_right _ (List.mem_append_right _ (mem_pinsAt hb e)))).1, fun b hb => ?_, w7⟩
      obtain ⟨o, e, d⟩ := T.obj _ _ st5 b hb
      exact (I7.pin (b, o) (List.mem_append_right _ (List.mem_append_right _ (mem_pinsAt hb e)))).2.1
    cases f with
    | next => obtain ⟨σ7, H7, I7, n7⟩ := q7; exact again I7 n7
    | cont => obtain ⟨σ7, H7, I7, n7⟩ := q7; exact again I7 n7
    | brk => obtain ⟨σ7, H7, I7, q7⟩ := q7; exact ⟨σ7, H7, I7.unpinned, q7⟩
    | ret v => obtain ⟨x7, σ7, H7, I7, r7, q7⟩ := q7; exact ⟨x7, σ7, H7, I7.unpinned, r7, q7⟩
end
theorem for_list {K : PySem.W.Frag} {a : Addr} {xs : List V} {g : TG} {tb : TS} {D : Ends} {σ : St} {H : Hp} (Pv : Nat → St → Hp → Prop) (h0 : Pv 0 σ H) (hl : ∀ i σ H, i ≤ xs.length → Pv i σ H → SqL K H a xs)
    (hs : ∀ i x σ H, xs[i]? = some x → Pv i σ H → g x σ H fun σ2 H2 => tb { D with nx := Pv (i + 1), ct := Pv (i + 1), bk := D.nx } σ2 H2) (hd : ∀ σ H, Pv xs.length σ H → D.nx σ H) :
    ∃ W : Nat → Nat → St → Hp → Prop, (∃ m, W 0 m σ H) ∧ ∀ i m σ H, W i m σ H →
      ((Itl K a).stop i H ∧ D.nx σ H) ∨ ((Itl K a).go i H ∧ ∃ N : St → Hp → Prop, (∀ σ' H', N σ' H' → ∃ m', m' < m ∧ W (i + 1) m' σ' H') ∧ ∀ x H', (Itl K a).yld i H x H' → g x σ H' fun σ2 H2 => tb { D with nx := N, ct := N, bk := D.nx } σ2 H2) := by
  refine ⟨fun i m σ H => m = xs.length - i ∧ i ≤ xs.length ∧ Pv i σ H, ⟨xs.length, by simp, Nat.zero_le _, h0⟩, ?_⟩
  rintro i m σ H ⟨rfl, hi, p⟩
  have q := hl i σ H hi p
  by_cases hlt : i < xs.length
  · refine .inr ⟨⟨xs, xs[i], q, by simp [hlt]⟩, Pv (i + 1), fun σ' H' p' => ⟨xs.length - (i + 1), by omega, rfl, hlt, p'⟩, fun x H' y => ?_⟩
    obtain ⟨e, y⟩ := y
    subst e
    exact hs i x σ _ (y xs q) p
  · have e : i = xs.length := by omega
    subst e
    exact .inl ⟨⟨xs, q, Nat.le_refl _⟩, hd σ H p⟩
theorem for_range {lo : Int} {n : Nat} {g : TG} {tb : TS} {D : Ends} {σ : St} {H : Hp} (Pv : Nat → St → Hp → Prop) (h0 : Pv 0 σ H)
    (hs : ∀ i σ H, i < n → Pv i σ H → g (.int (lo + i)) σ H fun σ2 H2 => tb { D with nx := Pv (i + 1), ct := Pv (i + 1), bk := D.nx } σ2 H2) (hd : ∀ σ H, Pv n σ H → D.nx σ H) :
    ∃ W : Nat → Nat → St → Hp → Prop, (∃ m, W 0 m σ H) ∧ ∀ i m σ H, W i m σ H →
      ((Itr lo n).stop i H ∧ D.nx σ H) ∨ ((Itr lo n).go i H ∧ ∃ N : St → Hp → Prop, (∀ σ' H', N σ' H' → ∃ m', m' < m ∧ W (i + 1) m' σ' H') ∧ ∀ x H', (Itr lo n).yld i H x H' → g x σ H' fun σ2 H2 => tb { D with nx := N, ct := N, bk := D.nx } σ2 H2) := by
  refine ⟨fun i m σ H => m = n - i ∧ i ≤ n ∧ Pv i σ H, ⟨n, by simp, Nat.zero_le _, h0⟩, ?_⟩
  rintro i m σ H ⟨rfl, hi, p⟩
  by_cases hlt : i < n
  · refine .inr ⟨hlt, Pv (i + 1), fun σ' H' p' => ⟨n - (i + 1), by omega, rfl, hlt, p'⟩, fun x H' y => ?_⟩
    obtain ⟨e, y⟩ := y
    subst e y
    exact hs i σ _ hlt p
  · have e : i = n := by omega
    subst e
    exact .inl ⟨Nat.le_refl _, hd σ H p⟩
end L2
namespace L2
open PySem PySem.Spec PyProof.Rows
abbrev R2 := V → V → Hp → VK → Prop
def OpR (X : Cx) (f : Value → Value → Sem Value) (r : R2) : Prop :=
  ∀ (pins : List (Addr × Obj)) (s : Shared) (σ : St) (H : Hp) (x y : V) (v u : Value) (Q : VK), Inv X pins σ H s → RelV x v → RelV y u → r x y H Q →
    wpAny (model X.prog X.w) X.A (f v u) (EP X pins σ Q) X.xe s
def UnR (X : Cx) (f : Value → Sem Value) (r : V → Hp → VK → Prop) : Prop :=
  ∀ (pins : List (Addr × Obj)) (s : Shared) (σ : St) (H : Hp) (x : V) (v : Value) (Q : VK), Inv X pins σ H s → RelV x v → r x H Q →
    wpAny (model X.prog X.w) X.A (f v) (EP X pins σ Q) X.xe s
def CallR (X : Cx) (f : Value) (r : List V → Hp → VK → Prop) : Prop :=
  ∀ (pins : List (Addr × Obj)) (s : Shared) (σ : St) (H : Hp) (xs : List V) (us : List Value) (Q : VK), Inv X pins σ H s → Vals xs us → r xs H Q →
    wpAny (model X.prog X.w) X.A (call f us) (EP X pins σ Q) X.xe s
def TruR (X : Cx) (r : V → Hp → (Bool → Hp → Prop) → Prop) : Prop :=
  ∀ (pins : List (Addr × Obj)) (s : Shared) (σ : St) (H : Hp) (x : V) (v : Value) (Q : Bool → Hp → Prop), Inv X pins σ H s → RelV x v → r x H Q →
    wpAny (model X.prog X.w) X.A (truthy v) (TP X pins σ Q) X.xe s
def tOp (r : R2) (ta tb : TE) : TE := fun σ H Q => ta σ H fun x H1 => tb σ H1 fun y H2 => r x y H2 Q
def tUn (r : V → Hp → VK → Prop) (ta : TE) : TE := fun σ H Q => ta σ H fun x H1 => r x H1 Q
def rI (C : Int → Int → Prop) (g : Int → Int → V) : R2 := fun x y H Q => ∃ i j, x = .int i ∧ y = .int j ∧ C i j ∧ Q (g i j) H
def rI0 (g : Int → Int → V) : R2 := fun x y H Q => ∃ i j, x = .int i ∧ y = .int j ∧ Q (g i j) H
def rU (g : Int → V) : V → Hp → VK → Prop := fun x H Q => ∃ i, x = .int i ∧ Q (g i) H
section
variable {X : Cx} {a b c : Expr} {ta tb tc : TE} {pos : Pos}
theorem binT (ha : PE X a ta) (hb : PE X b tb) {pins : List (Addr × Obj)} {s : Shared} {σ : St} {H : Hp} {R : V → V → Hp → Prop} (I : Inv X pins σ H s)
    (h : ta σ H fun x H1 => tb σ H1 fun y H2 => R x y H2) {Q : Value → Shared → Prop} {f : Value → Value → Sem Value}
    (hf : ∀ v u s2 x y H2, Inv X pins σ H2 s2 → RelV x v → RelV y u → R x y H2 → wpAny (model X.prog X.w) X.A (f v u) Q X.xe s2) :
    wpAny (model X.prog X.w) X.A (eval a X.env) (fun v s₁ => wpAny (model X.prog X.w) X.A (eval b X.env) (fun u s₂ => wpAny (model X.prog X.w) X.A (f v u) Q X.xe s₂) X.xe s₁) X.xe s := by
  refine thn (ha pins s σ H _ I h) fun v s1 ⟨x, H1, I1, r1, q1⟩ => ?_
  refine thn (hb pins s1 σ H1 _ I1 q1) fun u s2 ⟨y, H2, I2, r2, q2⟩ => ?_
  exact hf v u s2 x y H2 I2 r1 r2 q2
theorem pe_op {op : Operator} {r : R2} (ho : OpR X (binaryOp op) r) (ha : PE X a ta) (hb : PE X b tb) : PE X (.BinOp a op b pos) (tOp r ta tb) := by
  intro pins s σ H Q I h
  exact wpAny_BinOp (binT ha hb I h fun v u s2 x y H2 I2 rx ry q => ho pins s2 σ H2 x y v u Q I2 rx ry q)
theorem opI0 {f : Value → Value → Sem Value} {g : Int → Int → Int}
    (rule : ∀ (i j : Int) (t u : Tok) (s : Shared) (Q : Value → Shared → Prop) (E : Value → Shared → Prop), Q (.int (g i j) s.toks) { s with toks := s.toks + 1 } → wpAny (model X.prog X.w) X.A (f (.int i t) (.int j u)) Q E s) :
    OpR X f (rI0 fun i j => .int (g i j)) := by
  intro pins s σ H x y v u Q I rx ry h
  obtain ⟨i, j, rfl, rfl, q⟩ := h
  obtain ⟨t, rfl⟩ := rx
  obtain ⟨t', rfl⟩ := ry
  exact rule i j t t' s _ _ ⟨.int (g i j), H, I.tok _, ⟨_, rfl⟩, q⟩
theorem opB0 {f : Value → Value → Sem Value} {g : Int → Int → Bool}
    (rule : ∀ (i j : Int) (t u : Tok) (s : Shared) (Q : Value → Shared → Prop) (E : Value → Shared → Prop), Q (.bool (g i j)) s → wpAny (model X.prog X.w) X.A (f (.int i t) (.int j u)) Q E s) :
    OpR X f (rI0 fun i j => .bl (g i j)) := by
  intro pins s σ H x y v u Q I rx ry h
  obtain ⟨i, j, rfl, rfl, q⟩ := h
  obtain ⟨t, rfl⟩ := rx
  obtain ⟨t', rfl⟩ := ry
  exact rule i j t t' s _ _ ⟨.bl (g i j), H, I, rfl, q⟩
def CDiv (i j : Int) : Prop := 0 < j ∧ j < 1073741824
def CDivN (i j : Int) : Prop := j ≠ 0 ∧ j.natAbs < 1073741824
def CPow (i j : Int) : Prop := 0 ≤ j ∧ j ≤ 1000000 ∧ i.natAbs < 2 ^ 64
def CMul (i j : Int) : Prop := (-(2 ^ 64) < i ∧ i < 2 ^ 64) ∨ (-(2 ^ 64) < j ∧ j < 2 ^ 64)
theorem op_add : OpR X (binaryOp .Add) (rI0 fun i j => .int (i + j)) := opI0 fun _ _ _ _ _ _ _ q => add_int q
theorem op_sub : OpR X (binaryOp .Sub) (rI0 fun i j => .int (i - j)) := opI0 fun _ _ _ _ _ _ _ q => sub_int q
end
def scal : V → V → Bool
  | .non, .non => true | .non, .int _ => true | .int _, .non => true | .non, .bl _ => true | .bl _, .non => true | .non, .str _ => true | .str _, .non => true
  | .int _, .int _ => true | .bl _, .bl _ => true | .str _, .str _ => true | .byt _, .byt _ => true
  | .int _, .str _ => true | .str _, .int _ => true | .bl _, .str _ => true | .str _, .bl _ => true
  | _, _ => false
def rEq : R2 := fun x y H Q => scal x y = true ∧ Q (.bl (decide (x = y))) H
def rNe : R2 := fun x y H Q => scal x y = true ∧ Q (.bl (!decide (x = y))) H
theorem dec_int {i j : Int} : decide (V.int i = V.int j) = (i == j) := by
  rw [Bool.eq_iff_iff]
  simp
theorem dec_bl {i j : Bool} : decide (V.bl i = V.bl j) = (i == j) := by
  rw [Bool.eq_iff_iff]
  simp
theorem dec_str {i j : Str} : decide (V.str i = V.str j) = (i == j) := by
  rw [Bool.eq_iff_iff]
  simp
theorem dec_byt {i j : Array UInt8} : decide (V.byt i = V.byt j) = (i.toList == j.toList) := by
  rw [Bool.eq_iff_iff]
  cases i
  cases j
  simp
section
variable {X : Cx} {a b c : Expr} {ta tb tc : TE} {pos : Pos}
theorem fin_bl {pins : List (Addr × Obj)} {σ : St} {H : Hp} {s : Shared} {Q : VK} {k k' : Bool} (I : Inv X pins σ H s) (q : Q (.bl k) H) (e : k = k') : EP X pins σ Q (.bool k') s := by
  subst e
  exact ⟨.bl k, H, I, rfl, q⟩
theorem op_eq : OpR X (compareOp .Eq) rEq := by
  intro pins s σ H x y v u Q I rx ry h
  obtain ⟨hs, q⟩ := h
  cases x with
  | non =>
    cases rx
    cases y with
    | non => cases ry; exact PySem.EqNone.eq_none_none (fin_bl I q (by simp))
    | bl j => cases ry; exact PySem.EqNone.eq_none_bool (fin_bl I q (by simp))
    | int j => obtain ⟨t', rfl⟩ := ry; exact PySem.EqNone.eq_none_int (fin_bl I q (by simp))
    | str j => obtain ⟨t', rfl⟩ := ry; exact PySem.EqNone.eq_none_str (fin_bl I q (by simp))
    | _ => exact absurd (show false = true from hs) Bool.false_ne_true
  | bl i =>
    cases rx
    cases y with
    | non => cases ry; exact PySem.EqNone.eq_bool_none (fin_bl I q (by simp))
    | bl j => cases ry; exact eq_bool (fin_bl I q dec_bl)
    | str j => obtain ⟨t', rfl⟩ := ry; exact PySem.EqMixed.eq_bool_str (fin_bl I q (by simp))
    | _ => exact absurd (show false = true from hs) Bool.false_ne_true
  | int i =>
    obtain ⟨t, rfl⟩ := rx
    cases y with
    | non => cases ry; exact PySem.EqNone.eq_int_none (fin_bl I q (by simp))
    | int j => obtain ⟨t', rfl⟩ := ry; exact eq_int (fin_bl I q dec_int)
    | str j => obtain ⟨t', rfl⟩ := ry; exact PySem.EqMixed.eq_int_str (fin_bl I q (by simp))
    | _ => exact absurd (show false = true from hs) Bool.false_ne_true
  | str i =>
    obtain ⟨t, rfl⟩ := rx
    cases y with
    | non => cases ry; exact PySem.EqNone.eq_str_none (fin_bl I q (by simp))
    | bl j => cases ry; exact PySem.EqMixed.eq_str_bool (fin_bl I q (by simp))
    | int j => obtain ⟨t', rfl⟩ := ry; exact PySem.EqMixed.eq_str_int (fin_bl I q (by simp))
    | str j => obtain ⟨t', rfl⟩ := ry; exact eq_str (fin_bl I q dec_str)
    | _ => exact absurd (show false = true from hs) Bool.false_ne_true
  | byt i =>
    obtain ⟨t, rfl⟩ := rx
    cases y with
    | byt j => obtain ⟨t', rfl⟩ := ry; exact PySem.W.eq_bytes (fin_bl I q dec_byt)
    | _ => exact absurd (show false = true from hs) Bool.false_ne_true
  | _ => cases y <;> exact absurd (show false = true from hs) Bool.false_ne_true
theorem op_ne : OpR X (compareOp .NotEq) rNe := by
  intro pins s σ H x y v u Q I rx ry h
  obtain ⟨hs, q⟩ := h
  cases x with
  | non =>
    cases rx
    cases y with
    | non => cases ry; exact PySem.EqNone.ne_none_none (fin_bl I q (by simp))
    | bl j => cases ry; exact PySem.EqNone.ne_none_bool (fin_bl I q (by simp))
    | int j => obtain ⟨t', rfl⟩ := ry; exact PySem.EqNone.ne_none_int (fin_bl I q (by simp))
    | str j => obtain ⟨t', rfl⟩ := ry; exact PySem.EqNone.ne_none_str (fin_bl I q (by simp))
    | _ => exact absurd (show false = true from hs) Bool.false_ne_true
  | bl i =>
    cases rx
    cases y with
    | non => cases ry; exact PySem.EqNone.ne_bool_none (fin_bl I q (by simp))
    | bl j => cases ry; exact ne_bool (fin_bl I q (congrArg not dec_bl))
    | str j => obtain ⟨t', rfl⟩ := ry; exact PySem.EqMixed.ne_bool_str (fin_bl I q (by simp))
    | _ => exact absurd (show false = true from hs) Bool.false_ne_true
  | int i =>
    obtain ⟨t, rfl⟩ := rx
    cases y with
    | non => cases ry; exact PySem.EqNone.ne_int_none (fin_bl I q (by simp))
    | int j => obtain ⟨t', rfl⟩ := ry; exact ne_int (fin_bl I q (congrArg not dec_int))
    | str j => obtain ⟨t', rfl⟩ := ry; exact PySem.EqMixed.ne_int_str (fin_bl I q (by simp))
    | _ => exact absurd (show false = true from hs) Bool.false_ne_true
  | str i =>
    obtain ⟨t, rfl⟩ := rx
    cases y with
    | non => cases ry; exact PySem.EqNone.ne_str_none (fin_bl I q (by simp))
    | bl j => cases ry; exact PySem.EqMixed.ne_str_bool (fin_bl I q (by simp))
    | int j => obtain ⟨t', rfl⟩ := ry; exact PySem.EqMixed.ne_str_int (fin_bl I q (by simp))
    | str j => obtain ⟨t', rfl⟩ := ry; exact ne_str (fin_bl I q (congrArg not dec_str))
    | _ => exact absurd (show false = true from hs) Bool.false_ne_true
  | byt i =>
    obtain ⟨t, rfl⟩ := rx
    cases y with
    | byt j => obtain ⟨t', rfl⟩ := ry; exact PySem.W.ne_bytes (fin_bl I q (congrArg not dec_byt))
    | _ => exact absurd (show false = true from hs) Bool.false_ne_true
  | _ => cases y <;> exact absurd (show false = true from hs) Bool.false_ne_true
theorem op_lt : OpR X (compareOp .Lt) (rI0 fun i j => .bl (decide (i < j))) := opB0 fun _ _ _ _ _ _ _ q => lt_int q
theorem op_le : OpR X (compareOp .LtE) (rI0 fun i j => .bl (decide (i ≤ j))) := opB0 fun _ _ _ _ _ _ _ q => le_int q
theorem op_gt : OpR X (compareOp .Gt) (rI0 fun i j => .bl (decide (j < i))) := opB0 fun _ _ _ _ _ _ _ q => gt_int q
theorem op_ge : OpR X (compareOp .GtE) (rI0 fun i j => .bl (decide (j ≤ i))) := opB0 fun _ _ _ _ _ _ _ q => ge_int q
def isObj : HO → Bool
  | .lst _ => true
  | .ins _ _ _ => true
  | _ => false
theorem nomark (b : Expr) {op : CmpOp} (h : op ≠ .In := by decide) (h2 : op ≠ .NotIn := by decide) : behindInMarks op b = false := by
  have e1 : (op == CmpOp.In) = false := by cases op <;> first | rfl | exact absurd rfl h
  have e2 : (op == CmpOp.NotIn) = false := by cases op <;> first | rfl | exact absurd rfl h2
  cases b <;> simp [behindInMarks, e1, e2]
theorem pe_cmpR {op : CmpOp} {r : R2} (ho : OpR X (compareOp op) r) (ha : PE X a ta) (hb : PE X b tb) (hm : behindInMarks op b = false) : PE X (.Compare a [op] [b] pos) (tOp r ta tb) := by
  intro pins s σ H Q I h
  exact wpAny_Compare1 (binT ha hb I h fun v u s2 x y H2 I2 rx ry q => ho pins s2 σ H2 x y v u Q I2 rx ry q) hm
def tTest (t : TE) : TT := fun σ H Q => t σ H fun x H' => ∃ k, x = .bl k ∧ Q k H'
theorem pt_cmpR {op : CmpOp} {r : R2} (ho : OpR X (compareOp op) r) (ha : PE X a ta) (hb : PE X b tb) (hm : behindInMarks op b = false) : PT X (.Compare a [op] [b] pos) (tTest (tOp r ta tb)) := by
  intro pins s σ H Q I h
  refine wpAny_isTrue_Compare1 (thn (ha pins s σ H _ I h) fun v s1 ⟨x, H1, I1, r1, q1⟩ => thn (hb pins s1 σ H1 _ I1 q1) fun u s2 ⟨y, H2, I2, r2, q2⟩ =>
    thn (ho pins s2 σ H2 x y v u _ I2 r1 r2 q2) fun c s3 ⟨z, H3, I3, r3, k, e, q3⟩ => ?_) hm
  subst e
  cases r3
  exact wpAny_truthy_bool ⟨H3, I3, q3⟩
def tChain (r r' : R2) (ta tb tc : TE) : TE := fun σ H Q => ta σ H fun x H1 => tb σ H1 fun y H2 => r x y H2 fun z H3 => ∃ k, z = .bl k ∧
  (if k = true then tc σ H3 fun w' H4 => r' y w' H4 Q else Q (.bl false) H3)
theorem pe_chain {op op' : CmpOp} {r r' : R2} (ho : OpR X (compareOp op) r) (ho' : OpR X (compareOp op') r') (ha : PE X a ta) (hb : PE X b tb) (hc : PE X c tc)
    (hm : lastMarks [op, op'] [b, c] = false := by with_unfolding_all rfl) : PE X (.Compare a [op, op'] [b, c] pos) (tChain r r' ta tb tc) := by
  intro pins s σ H Q I h
  refine Compare_chain (thn (ha pins s σ H _ I h) fun v s1 ⟨x, H1, I1, r1, q1⟩ => chain_link (thn (hb pins s1 σ H1 _ I1 q1) fun u s2 ⟨y, H2, I2, r2, q2⟩ =>
    thn (ho pins s2 σ H2 x y v u _ I2 r1 r2 q2) fun d s3 ⟨z, H3, I3, r3, k, e, q3⟩ => ?_)) hm
  subst e
  cases r3
  refine wpAny_truthy_bool ?_
  cases k with
  | false => exact ite_ff ⟨.bl false, H3, I3, rfl, q3⟩
  | true => exact ite_tt (chain_last (thn (hc pins s3 σ H3 _ I3 q3) fun w' s4 ⟨z', H4, I4, r4, q4⟩ => ho' pins s4 σ H4 y z' u w' Q I4 r2 r4 q4))
def TruV (K : PySem.W.Frag) (x : V) (H : Hp) (k : Bool) : Prop :=
  match x with
  | .non => k = false
  | .bl b => k = b
  | .int i => k = (i != 0)
  | .str y => y.length ≤ sizeLine ∧ k = ((y.length : Int) != 0)
  | .byt y => y.size ≤ sizeLine ∧ k = ((y.size : Int) != 0)
  | .ref p => (∃ xs, SqL K H p xs ∧ k = !xs.isEmpty) ∨ (∃ xs, SqT K H p xs ∧ k = !xs.isEmpty) ∨ ∃ kvs, H p = some (.dK kvs) ∧ k = !kvs.isEmpty
  | _ => False
theorem line63 : (sizeLine : Nat) < 2 ^ 63 := by rw [sizeLine_eq]; decide
def PlainIxT (b : Expr) : Prop := ∀ o i, subscripted b false o i = operate [o, i] (getItem o i)
theorem vals1 {x : V} {us : List Value} (r : Vals [x] us) : ∃ u, us = [u] ∧ RelV x u := by
  cases r with
  | cons r1 r2 => cases r2; exact ⟨_, rfl, r1⟩
def LenV (K : PySem.W.Frag) (x : V) (H : Hp) (n : Nat) : Prop :=
  match x with
  | .str y => y.length ≤ sizeLine ∧ n = y.length
  | .byt y => y.size ≤ sizeLine ∧ n = y.size
  | .ref p => (∃ xs, SqL K H p xs ∧ n = xs.length) ∨ ∃ xs, SqT K H p xs ∧ n = xs.length
  | _ => False
end
end L2
namespace L2
open PySem PySem.Spec PyProof.Rows
structure ObjM (h : Heap) (x dx C : Addr) (mA : Str → Option Value) : Prop where
  obj : h.get? x = some (PySem.W.instObj C dx)
  ns : h.Ns1 dx mA
  ne : dx ≠ x
theorem lookIn_ns {h : Heap} {dx : Addr} {mA : Str → Option Value} (n : h.Ns1 dx mA) : ∃ od, h.get? dx = some od ∧ ∀ name, PySem.W.lookIn name od = some (mA name) := by
  obtain ⟨o, es, ep, ho, hd, hk, _, hm⟩ := n
  refine ⟨o, ho, fun name => ?_⟩
  have e := hm name
  unfold nsFind findBy at e
  rw [← Array.find?_toList] at e
  unfold PySem.W.lookIn
  rw [hd]
  dsimp only
  split
  · rename_i y q
    rw [q] at e
    exact congrArg some e
  · rename_i q
    rw [q] at e
    have a : es.toList.any (·.refKey) = false := by
      rw [List.any_eq_false]
      intro y hy
      obtain ⟨z, t, hkey⟩ := hk y (Array.mem_toList_iff.mp hy)
      simp [DictEntry.refKey, hkey]
    have a' : ¬ es.toList.any (·.refKey) = true := by rw [a]; exact Bool.false_ne_true
    rw [if_neg a']
    exact congrArg some e
theorem ObjM.look {h : Heap} {x dx C : Addr} {mA : Str → Option Value} (I : ObjM h x dx C mA) : ∃ od, PySem.W.InstAt h x (PySem.W.instObj C dx) C (some od) ∧ ∀ name, PySem.W.lookIn name od = some (mA name) :=
  let ⟨od, ho, hl⟩ := lookIn_ns I.ns
  ⟨od, ⟨I.obj, rfl, rfl, ho⟩, hl⟩
section
variable {prog : Program} {w : World} {A : Around} {E : Value → Shared → Prop} {s : Shared} {K : PySem.W.Frag} {x dx C f : Addr} {mA : Str → Option Value} {name : Str} {v : Value}
theorem get_map {expr : Bool} {Q : Value → Shared → Prop} (X : K.In s.heap) (I : ObjM s.heap x dx C mA) (hg : PySem.W.plainGet K C name = true) (hh : PySem.W.hasDictIn K C = true)
    (ha : PySem.W.findIn K (.ref C) name = some none) (hv : mA name = some v) (hv' : PySem.W.handedIn v = true) (h : Q v { s with toks := s.toks + 1 }) :
    wpAny (model prog w) A (getAttr (.ref x) name expr) Q E s := by
  obtain ⟨od, J, hl⟩ := I.look
  exact PySem.W.get_value X J (PySem.W.plainGet_of hg).1 (PySem.W.findObj_own hh ha rfl (by rw [hl, hv])) hv' h
theorem set_map {ns : List Str} {Q : Unit → Shared → Prop} (X : K.In s.heap) (I : ObjM s.heap x dx C mA)
    (hs : PySem.W.findIn K (.ref C) "__setattr__" = some (some (.builtin "object.__setattr__"))) (hp : PySem.W.plainOver K C = true) (ht : PySem.W.takerIn K C name = some none) (hh : PySem.W.hasDictIn K C = true)
    (hw : PySem.Within mA ns) (hsz : ns.length ≤ sizeLine)
    (h : ∀ h', ObjM h' x dx C (fun y => if y = name then some v else mA y) → Heap.SameBut dx s.heap h' → Q () { s with heap := h', toks := s.toks + 2 }) :
    wpAny (model prog w) A (setAttr (.ref x) name v) Q E s := by
  obtain ⟨od, J, hl⟩ := I.look
  refine PySem.W.set_plain X J hs (PySem.W.osa_open (s := { s with toks := s.toks + 1 }) (r := none) X J hp ht fun b => ?_)
  obtain ⟨cd, hc, hd'⟩ := PySem.W.any_some hh
  have hx : s.heap.get? x = some ⟨.ref C, some dx, .plain, #[]⟩ := I.obj
  refine wpAny_bind (wpAny_pure (wpAny_bind (wpAny_bind (wpAny_loadPart hx (wpAny_bind (PySem.W.Looks.here (s := { s with toks := s.toks + 1 }) (PySem.W.looks_clsIn X hc) ?_))))))
  rw [hd']
  refine wpAny_pure (a := some dx) (wpAny_bind (wpAny_pure (wpAny_bind ?_)))
  refine wpAny_nsSet1 (s := { s with toks := s.toks + 1 }) I.ns fun h' hn2 hs2 => ?_
  obtain ⟨oD, esD, epD, hoD, hdD, hcD⟩ := hn2.count (PySem.Within.cons name v hw)
  refine wpAny_bind (wpAny_lookBehind hoD (by rw [hdD]; exact pastItsLine_dict (Nat.le_trans hcD (by rw [List.length_cons]; omega))) ?_)
  exact wpAny_pure (h _ ⟨(hs2.2 _ (Ne.symm I.ne)).trans I.obj, hn2, I.ne⟩ hs2)
theorem make_map {R : Result → Shared → Prop} {vs : List Value} {kw : List (Str × Value)} (X : K.In s.heap) (hm : PySem.W.makesIn K C = true)
    (hi : PySem.W.findIn K (.ref C) "__init__" = some (some (.ref f))) (hf : PySem.W.typeIn K (.ref f) = some (.type "function"))
    (h : codeAny (model prog w) (A.under (.builtin "type.__call__" ⟨.ref C :: vs, kw⟩)) (.call (.ref f) ⟨.ref (s.heap.objs.size + 1) :: vs, kw⟩) (PySem.W.InitBack (s.heap.objs.size + 1) R)
      { s with heap := (s.heap.push PySem.W.emptyDict).push (PySem.W.instObj C s.heap.objs.size) }) :
    codeAny (model prog w) A (.call (.ref C) ⟨vs, kw⟩) R s := by
  obtain ⟨hh, g, d, t, os⟩ := s
  exact PySem.W.make_core (PySem.W.makes_of X hm) (PySem.W.looks_findIn X hi) (fun self => PySem.W.bind_fn X self hf) (.inl rfl) h
end
def putF (f : Str) (v : V) : List (Str × V) → List (Str × V)
  | [] => [(f, v)]
  | (g, x) :: r => if g = f then (g, v) :: r else (g, x) :: putF f v r
theorem lookup_putF (f g : Str) (v : V) : ∀ fs : List (Str × V), (putF f v fs).lookup g = if g = f then some v else fs.lookup g
  | [] => by
    show List.lookup g [(f, v)] = _
    by_cases h : g = f
    · have hb : (g == f) = true := beq_iff_eq.mpr h
      simp only [List.lookup, hb, if_pos h]
    · have hb : (g == f) = false := beq_eq_false_iff_ne.mpr h
      simp only [List.lookup, hb, if_neg h]
  | (k, x) :: r => by
    have ih := lookup_putF f g v r
    rw [show putF f v ((k, x) :: r) = (if k = f then (k, v) :: r else (k, x) :: putF f v r) from rfl]
    by_cases hk : k = f
    · rw [if_pos hk]
      by_cases h : g = k
      · have hb : (g == k) = true := beq_iff_eq.mpr h
        simp only [List.lookup, hb, if_pos (h.trans hk)]
      · have hb : (g == k) = false := beq_eq_false_iff_ne.mpr h
        simp only [List.lookup, hb, if_neg (fun e : g = f => h (e.trans hk.symm))]
    · rw [if_neg hk]
      by_cases h : g = k
      · have hb : (g == k) = true := beq_iff_eq.mpr h
        simp only [List.lookup, hb, if_neg (fun e : g = f => hk (h.symm.trans e))]
      · have hb : (g == k) = false := beq_eq_false_iff_ne.mpr h
        simp only [List.lookup, hb]
        exact ih
theorem keys_putF (f : Str) (v : V) : ∀ fs : List (Str × V), f ∈ (putF f v fs).map (·.1) ∧ ∀ g, g ∈ fs.map (·.1) → g ∈ (putF f v fs).map (·.1)
  | [] => ⟨by simp [putF], fun g h => by simp at h⟩
  | (k, x) :: r => by
    obtain ⟨i1, i2⟩ := keys_putF f v r
    rw [show putF f v ((k, x) :: r) = (if k = f then (k, v) :: r else (k, x) :: putF f v r) from rfl]
    by_cases hk : k = f
    · rw [if_pos hk]
      subst hk
      exact ⟨by simp, fun g h => by simpa using h⟩
    · rw [if_neg hk]
      refine ⟨?_, fun g h => ?_⟩
      · rw [List.map_cons]
        exact List.mem_cons_of_mem _ i1
      · rw [List.map_cons] at h ⊢
        rcases List.mem_cons.mp h with e | e
        · exact List.mem_cons.mpr (.inl e)
        · exact List.mem_cons_of_mem _ (i2 g e)
theorem length_putF (f : Str) (v : V) : ∀ fs : List (Str × V), (putF f v fs).length ≤ fs.length + 1
  | [] => by simp [putF]
  | (k, x) :: r => by
    have ih := length_putF f v r
    rw [show putF f v ((k, x) :: r) = (if k = f then (k, v) :: r else (k, x) :: putF f v r) from rfl]
    by_cases hk : k = f
    · rw [if_pos hk, List.length_cons, List.length_cons]; omega
    · rw [if_neg hk, List.length_cons, List.length_cons]; omega
theorem RelO.some_of {v : V} {o : Option Value} (r : RelO (some v) o) : ∃ u, o = some u ∧ RelV v u := by
  cases o with
  | none => exact (show False from r).elim
  | some u => exact ⟨u, rfl, r⟩
theorem handed_of {v : V} {u : Value} (r : RelV v u) : PySem.W.handedIn u = true := by
  cases v with
  | non => cases (show u = Value.none from r); rfl
  | bl b => cases (show u = Value.bool b from r); rfl
  | int i => obtain ⟨t, e⟩ := (show ∃ t, u = Value.int i t from r); cases e; rfl
  | str x => obtain ⟨t, e⟩ := (show ∃ t, u = Value.str x t from r); cases e; rfl
  | byt b => obtain ⟨t, e⟩ := (show ∃ t, u = Value.bytes b t from r); cases e; rfl
  | flt b => obtain ⟨t, e⟩ := (show ∃ t, u = Value.float b t from r); cases e; rfl
  | ref a => cases (show u = Value.ref a from r); rfl
  | ty n => cases (show u = Value.type n from r); rfl
section
variable {P : Program} {w : World} {H H' : Hp} {h h' : Heap} {a C dx : Addr} {fs fs' : List (Str × V)}
theorem ins_get (hok : HOk P w H h) (e : H a = some (.ins C dx fs)) : ∃ mA, ObjM h a dx C mA ∧ (∀ f, RelO (fs.lookup f) (mA f)) ∧ PySem.Within mA (fs.map (·.1)) ∧ fs.length ≤ 1000 ∧ H dx = some (.own a) := by
  obtain ⟨d, z, ne, ob, mA, n, r, q⟩ := (show ObjOk P w H h a (.ins C dx fs) from hok a _ e)
  exact ⟨mA, ⟨ob, n, ne⟩, r, q, z, d⟩
end
structure Cls (K : PySem.W.Frag) (C : Addr) : Prop where
  pg : PySem.W.plainGet K C Str.empty = true
  hd : PySem.W.hasDictIn K C = true
  po : PySem.W.plainOver K C = true
  sa : PySem.W.findIn K (.ref C) "__setattr__" = some (some (.builtin "object.__setattr__"))
theorem Cls.get {K : PySem.W.Frag} {C : Addr} (c : Cls K C) (f : Str) : PySem.W.plainGet K C f = true := c.pg
def NoAttr (K : PySem.W.Frag) (C : Addr) (f : Str) : Prop := PySem.W.findIn K (.ref C) f = some none
theorem NoAttr.taker {K : PySem.W.Frag} {C : Addr} {f : Str} (n : NoAttr K C f) : PySem.W.takerIn K C f = some none := by
  unfold PySem.W.takerIn
  rw [show PySem.W.findIn K (.ref C) f = some none from n]
  rfl
structure Con (K : PySem.W.Frag) (C : Addr) (f : Str) (v : V) (u : Value) : Prop where
  at_ : PySem.W.findIn K (.ref C) f = some (some u)
  rel : RelV v u
  get : PySem.W.specialIn K u "__get__" = some none
  cp : PySem.W.copiedNames.contains f = false
structure Meth (K : PySem.W.Frag) (C : Addr) (m : Str) (f : Addr) : Prop where
  at_ : PySem.W.findIn K (.ref C) m = some (some (.ref f))
  fn : PySem.W.isFn K (.ref f) = true
  kp : PySem.W.keepIn K (.ref f) = true
section
variable {X : Cx} {pins : List (Addr × Obj)} {σ : St} {H : Hp} {s : Shared} {a C dx : Addr} {fs : List (Str × V)} {f : Str} {v : V} {A : Around} {E : Value → Shared → Prop}
theorem getattr_ok {b : Bool} {Q : Value → Shared → Prop} (I : Inv X pins σ H s) (e : H a = some (.ins C dx fs)) (c : Cls X.K C) (n : NoAttr X.K C f) (l : fs.lookup f = some v)
    (h : ∀ u s', Inv X pins σ H s' → RelV v u → Q u s') : wpAny (model X.prog X.w) A (getAttr (.ref a) f b) Q E s := by
  obtain ⟨mA, O, r, _, _, _⟩ := ins_get I.hok e
  obtain ⟨u, hu, ru⟩ := RelO.some_of (v := v) (o := mA f) (by rw [← l]; exact r f)
  exact get_map I.kIn O (c.get f) c.hd n hu (handed_of ru) (h u _ (I.tok _) ru)
theorem setattr_ok {y : V} {u : Value} {Q : Unit → Shared → Prop} (I : Inv X pins σ H s) (e : H a = some (.ins C dx fs)) (c : Cls X.K C) (n : NoAttr X.K C f) (hl : fs.length < 1000) (ry : RelV y u)
    (h : ∀ s', Inv X pins σ (upd H a (.ins C dx (putF f y fs))) s' → Q () s') : wpAny (model X.prog X.w) A (setAttr (.ref a) f u) Q E s := by
  obtain ⟨mA, O, r, wi, _, ho⟩ := ins_get I.hok e
  have hz : (fs.map (·.1)).length ≤ sizeLine := by rw [List.length_map, sizeLine_eq]; omega
  refine set_map I.kIn O c.sa c.po n.taker c.hd wi hz fun h' O' sb => h _ ?_
  have hd : ∃ o, h'.get? dx = some o := let ⟨o, _, _, e', _⟩ := O'.ns; ⟨o, e'⟩
  refine I.write (x := a) (e := dx) (by rw [e]; exact True.intro) (.inr ho) (fun b q hb z => (sb.2 b hb).trans z) hd ?_
  refine ⟨by rw [upd_ne O.ne]; exact ho, ?_, O.ne, O'.obj, _, O'.ns, fun g => ?_, fun g hg => ?_⟩
  · have := length_putF f y fs; omega
  · show RelO ((putF f y fs).lookup g) (if g = f then some u else mA g)
    rw [lookup_putF]
    by_cases q : g = f
    · rw [if_pos q, if_pos q]; exact ry
    · rw [if_neg q, if_neg q]; exact r g
  · by_cases q : g = f
    · rw [q]; exact (keys_putF f y fs).1
    · refine (keys_putF f y fs).2 g (wi g fun z => hg ?_)
      show (if g = f then some u else mA g) = none
      rw [if_neg q]; exact z
theorem Inv.made (I : Inv X pins σ H s) : Inv X pins σ (upd (upd H s.heap.objs.size (.own (s.heap.objs.size + 1))) (s.heap.objs.size + 1) (.ins C s.heap.objs.size []))
    { s with heap := (s.heap.push PySem.W.emptyDict).push (PySem.W.instObj C s.heap.objs.size) } := by
  have e1 : (s.heap.push PySem.W.emptyDict).get? s.heap.objs.size = some PySem.W.emptyDict := Heap.get?_push_size s.heap rfl
  have e2 : ((s.heap.push PySem.W.emptyDict).push (PySem.W.instObj C s.heap.objs.size)).get? (s.heap.objs.size + 1) = some (PySem.W.instObj C s.heap.objs.size) := by
    have := Heap.get?_push_size (s.heap.push PySem.W.emptyDict) (o := PySem.W.instObj C s.heap.objs.size) rfl
    rwa [Heap.size_push] at this
  have e3 : (s.heap.push PySem.W.emptyDict).Ns s.heap.objs.size (fun _ => none) := ⟨PySem.W.emptyDict, #[], _, e1, rfl, (fun e he => absurd he (by simp)), fun _ => rfl⟩
  have I1 := I.laid (a := s.heap.objs.size) (o := .own (s.heap.objs.size + 1)) (h' := s.heap.push PySem.W.emptyDict) (t' := s.toks) (fun b u q => Heap.get?_push_of_some _ q) (Nat.le_refl _) ⟨_, e1⟩
  refine I1.laid (a := s.heap.objs.size + 1) (o := .ins C s.heap.objs.size []) (t' := s.toks) (fun b u q => Heap.get?_push_of_some _ q) (Nat.le_of_eq (Heap.size_push _ _)) ?_
  have ne : s.heap.objs.size ≠ s.heap.objs.size + 1 := Nat.ne_of_lt (Nat.lt_succ_self _)
  refine ⟨by rw [upd_ne ne, upd_same], Nat.zero_le _, ne, e2, fun _ => none, (Heap.Ns1.of_empty e3).at fun o q => Heap.get?_push_of_some _ q, fun _ => True.intro, fun y hy => absurd rfl hy⟩
theorem attr_of {prog : Program} {w : World} {env : Env} {e : Expr} {f : Str} {pos : Pos} {s : Shared} {Q : Value → Shared → Prop} (hb : attributeBase e f env (eval e env) = eval e env)
    (h : wpAny (model prog w) A (eval e env) (fun o s₁ => wpAny (model prog w) A (getAttr o f true) Q E s₁) E s) : wpAny (model prog w) A (eval (.Attribute e f pos) env) Q E s :=
  Attribute_any_ h (by rw [arm_eval_Attribute, hb])
end
def tFld (K : PySem.W.Frag) (ta : TE) (f : Str) : TE := fun σ H Q => ta σ H fun x H1 => ∃ a C dx fs v, x = .ref a ∧ H1 a = some (.ins C dx fs) ∧ Cls K C ∧ NoAttr K C f ∧ fs.lookup f = some v ∧ Q v H1
def tCon (K : PySem.W.Frag) (ta : TE) (f : Str) : TE := fun σ H Q => ta σ H fun x H1 => ∃ a C dx fs v u, x = .ref a ∧ H1 a = some (.ins C dx fs) ∧ Cls K C ∧ Con K C f v u ∧ fs.lookup f = none ∧ Q v H1
def sFld (K : PySem.W.Frag) (ta tv : TE) (f : Str) : TS := fun D σ H => tv σ H fun y H1 => ta σ H1 fun x H2 => ∃ a C dx fs, x = .ref a ∧ H2 a = some (.ins C dx fs) ∧ Cls K C ∧ NoAttr K C f ∧ fs.length < 1000 ∧
  D.nx σ (upd H2 a (.ins C dx (putF f y fs)))
def InOp (X : Cx) (op : Operator) (rd : V → V → Hp → VK → Prop) : Prop :=
  ∀ (pins : List (Addr × Obj)) (s : Shared) (σ : St) (H : Hp) (x y : V) (u v : Value) (Q : VK), Inv X pins σ H s → RelV x u → RelV y v → rd x y H Q → wpAny (model X.prog X.w) X.A (inplaceOp op u v) (EP X pins σ Q) X.xe s
def sFldAug (K : PySem.W.Frag) (ta tv : TE) (rd : V → V → Hp → VK → Prop) (f : Str) : TS := fun D σ H => ta σ H fun x H1 => ∃ a C dx fs v, x = .ref a ∧ H1 a = some (.ins C dx fs) ∧ Cls K C ∧ NoAttr K C f ∧ fs.lookup f = some v ∧
  tv σ H1 fun y H2 => rd v y H2 fun z H3 => ∃ dx' fs', H3 a = some (.ins C dx' fs') ∧ fs'.length < 1000 ∧ D.nx σ (upd H3 a (.ins C dx' (putF f z fs')))
section
variable {X : Cx} {o e value : Expr} {f : Str} {pos pos' tpos : Pos} {ta tv : TE}
theorem pe_fld (he : PE X e ta) (hb : attributeBase e f X.env (eval e X.env) = eval e X.env) : PE X (.Attribute e f pos) (tFld X.K ta f) := by
  intro pins s σ H Q I h
  refine attr_of hb (thn (he pins s σ H _ I h) fun u s1 ⟨x, H1, I1, rx, a, C, dx, fs, v, ex, ea, c, n, l, q⟩ => ?_)
  subst ex
  obtain rfl : u = Value.ref a := rx
  exact getattr_ok I1 ea c n l fun u' s2 I2 ru => ⟨v, H1, I2, ru, q⟩
theorem ps_fld (ha : PE X o ta) (hv : PE X value tv) (hs : swapsWith value (some (.Attribute o f pos')) pos.line X.env = pure false) : PS X (.Assign [.Attribute o f pos'] value pos) (sFld X.K ta tv f) := by
  intro pins s σ H D I h
  refine plainObj_wpAny_Assign_Attribute (thn (hv pins s σ H _ I h) fun u s1 ⟨y, H1, I1, ry, q⟩ => thn (ha pins s1 σ H1 _ I1 q) fun ov s2 ⟨x, H2, I2, rx, a, C, dx, fs, ex, ea, c, n, l, q2⟩ => ?_) hs
  subst ex
  obtain rfl : ov = Value.ref a := rx
  exact setattr_ok I2 ea c n l ry fun s3 I3 => ⟨σ, _, I3, q2⟩
def rAdd : V → V → Hp → VK → Prop := fun x y H Q => ∃ i j, x = .int i ∧ y = .int j ∧ Q (.int (i + j)) H
def rSub : V → V → Hp → VK → Prop := fun x y H Q => ∃ i j, x = .int i ∧ y = .int j ∧ Q (.int (i - j)) H
end
section
variable {X : Cx} {pins : List (Addr × Obj)} {σ : St} {H : Hp} {s : Shared} {A : Around} {E : Value → Shared → Prop} {Q : Value → Shared → Prop} {c : Value} {b : Bool}
inductive TyOf (K : PySem.W.Frag) (H : Hp) : V → Value → Prop where
  | non : TyOf K H .non (.type "NoneType")
  | bl (x : Bool) : TyOf K H (.bl x) (.type "bool")
  | int (i : Int) : TyOf K H (.int i) (.type "int")
  | str (x : Str) : TyOf K H (.str x) (.type "str")
  | flt (x : UInt64) : TyOf K H (.flt x) (.type "float")
  | lst {a : Addr} {xs : List V} (e : H a = some (.lst xs)) : TyOf K H (.ref a) (.type "list")
  | frz {a : Addr} {o : Obj} {xs : List V} (e : H a = some (.frz o (.lst xs))) : TyOf K H (.ref a) (.type "list")
  | tup {a : Addr} {xs : List V} (e : H a = some (.tup xs)) : TyOf K H (.ref a) (.type "tuple")
  | dK {a : Addr} {kvs : List (Key × V)} (e : H a = some (.dK kvs)) : TyOf K H (.ref a) (.type "dict")
  | dT {a : Addr} {kvs : List (List Key × V)} (e : H a = some (.dT kvs)) : TyOf K H (.ref a) (.type "dict")
  | ins {a C dx : Addr} {fs : List (Str × V)} (e : H a = some (.ins C dx fs)) (cl : Cls K C) (ha : PySem.W.findIn K (.ref C) "__class__" = some (some (.builtin "object.__class__")))
      (hn : PySem.W.specialIn K (.builtin "object.__class__") "__get__" = some (some (.builtin "getset_descriptor.__get__"))) (htk : PySem.W.takesIn K (.builtin "object.__class__") = some true)
      (hm : PySem.W.mroIn K C (.type "object") = some true) : TyOf K H (.ref a) (.ref C)
end
end L2
namespace L2
open PySem PySem.Spec PyProof.Rows
structure Room (k : Nat) (A : Around) : Prop where
  hd : A.handled = none
  dp : A.depth + 3 * k + 5 < recursionLimit
  un : A.units + 16 * k + 200 < cLine
theorem Room.mono {j k : Nat} {A : Around} (r : Room k A) (h : j ≤ k) : Room j A := ⟨r.hd, by have := r.dp; omega, by have := r.un; omega⟩
theorem Room.deeper {k : Nat} {A : Around} (r : Room (k + 1) A) (env : Env) : Room k (A.deeper env) :=
  ⟨r.hd, by have := r.dp; show A.depth + 1 + 3 * k + 5 < _; omega, by have := r.un; show A.units + 3 + 16 * k + 200 < _; omega⟩
theorem make_depth {A : Around} {C : Addr} {us : List Value} {kw : List (Str × Value)} : (A.under (.builtin "type.__call__" ⟨.ref C :: us, kw⟩)).depth = A.depth + 1 := by
  first | rfl | simp [Around.under, Code.weight, Code.isCreation, Code.isGuard, Code.isCaller, Code.frames, Code.isFrame, guardIds]
theorem make_units {A : Around} {C : Addr} {us : List Value} {kw : List (Str × Value)} : (A.under (.builtin "type.__call__" ⟨.ref C :: us, kw⟩)).units = A.units + 1 := by
  first | rfl | simp [Around.under, Code.cUnits, Code.frames, Code.isFrame]
theorem Room.make {k : Nat} {A : Around} (r : Room (k + 1) A) (C : Addr) (us : List Value) (kw : List (Str × Value)) : Room k (A.under (.builtin "type.__call__" ⟨.ref C :: us, kw⟩)) :=
  ⟨r.hd, by have := r.dp; rw [make_depth]; omega, by have := r.un; rw [make_units]; omega⟩
theorem Room.depth {k : Nat} {A : Around} (r : Room k A) : A.depth < recursionLimit := by have := r.dp; omega
theorem Room.units {k : Nat} {A : Around} (r : Room k A) : A.units + 64 < cLine := by have := r.un; omega
def tNil : TA := fun _ H Q => Q [] H
def tCons (ta : TE) (tr : TA) : TA := fun σ H Q => ta σ H fun x H1 => tr σ H1 fun xs H2 => Q (x :: xs) H2
section
variable {X : Cx} {e : Expr} {es : List Expr} {te : TE} {t : TA} {pos : Pos}
theorem pa_nil : PA X [] tNil := fun _ _ _ _ H Q I h => Calls.spliced_nil ⟨[], H, I, .nil, h⟩
theorem pa_cons (ha : PE X e te) (hr : PA X es t) (hs : starEach (e :: es) X.env = (false, eval e X.env) :: starEach es X.env := by rfl) : PA X (e :: es) (tCons te t) := by
  intro pos pins s σ H Q I h
  rw [hs]
  show wpAny _ _ (spliced ((false, eval e X.env) :: backTo pos (starEach es X.env))) _ _ s
  refine Calls.spliced_cons (thn (ha pins s σ H _ I h) fun u s1 ⟨x, H1, I1, r1, q1⟩ => ?_)
  exact thn (hr pos pins s1 σ H1 _ I1 q1) fun us s2 ⟨xs, H2, I2, r2, q2⟩ => ⟨x :: xs, H2, I2, .cons r1 r2, q2⟩
def tTup (t : TA) : TE := fun σ H Q => t σ H fun xs H1 => xs.length ≤ sizeLine ∧ ∀ p, H1 p = none → Q (.ref p) (upd H1 p (.tup xs))
def tLst (t : TA) : TE := fun σ H Q => t σ H fun xs H1 => xs.length ≤ sizeLine ∧ ∀ p, H1 p = none → Q (.ref p) (upd H1 p (.lst xs))
theorem pe_lst (h : PA X es t) : PE X (.List es pos) (tLst t) := by
  intro pins s σ H Q I hq
  refine wpAny_List_spliced (thn (h pos pins s σ H _ I hq) fun us s1 ⟨xs, H1, I1, r, z, q⟩ => ⟨by rw [← r.length]; exact z, ?_⟩)
  have hf : H1 s1.heap.objs.size = none := I1.hok.fresh (Nat.le_refl _)
  refine ⟨.ref s1.heap.objs.size, upd H1 s1.heap.objs.size (.lst xs), I1.laid (t' := s1.toks) (fun b u e => Heap.get?_push_of_some _ e) (Nat.le_refl _) ?_, rfl, q _ hf⟩
  exact ⟨z, us, 0, r, Heap.get?_push_size _ rfl⟩
end
abbrev Sp := List V → Hp → VK → XK → Prop
abbrev CXT := List Env → Hp → Shared → XK → Value → Shared → Prop
structure Env0 (P : Program) (w : World) (K : PySem.W.Frag) (mg : Str → Option Value) (base : Heap) (A : Around) (outer : List Env) (s : Shared) (H : Hp) : Prop where
  frames : A.frames = some outer
  mod : Mod K mg base
  bs : ∀ b o, base.get? b = some o → s.heap.get? b = some o ∧ H b = none
  bsz : base.objs.size ≤ s.heap.objs.size
  funs : s.heap.FunFrames base outer
  frf : ∀ b ∈ frs outer, H b = none
  hok : HOk P w H s.heap
  bare : AllBare s.gens
def CE (outer : List Env) (P : Program) (w : World) (H : Hp) (s : Shared) (Q : VK) (u : Value) (s' : Shared) : Prop :=
  ∃ v H', s'.os = s.os ∧ AllBare s'.gens ∧ Un (frs outer) [] H H' s.heap s'.heap ∧ HOk P w H' s'.heap ∧ RelV v u ∧ Q v H'
def CR (CX : CXT) (outer : List Env) (P : Program) (w : World) (H : Hp) (s : Shared) (Q : VK) (E : XK) (r : Result) (s' : Shared) : Prop :=
  match r with
  | .ok (.ret u) => CE outer P w H s Q u s'
  | .ok _ => False
  | .error e => CX outer H s E e s'
structure FnOk (P : Program) (w : World) (K : PySem.W.Frag) (mg : Str → Option Value) (base : Heap) (CX : CXT) (k : Nat) (f : Addr) (fd : FuncData) (ps : List Str) (sp : Sp) : Prop where
  len : ∀ vs H Q E, sp vs H Q E → vs.length = ps.length
  run : ∀ (A : Around) (outer : List Env) (s : Shared) (H : Hp) (args : Args) (us : List Value) (vs : List V) (Q : VK) (E : XK), Room k A → Env0 P w K mg base A outer s H → BindsTo s fd args (ps.zip us) → Vals vs us → sp vs H Q E →
    codeAny (model P w) A (.call (.ref f) args) (CR CX outer P w H s Q E) s
theorem FnOk.mono {P : Program} {w : World} {K : PySem.W.Frag} {mg : Str → Option Value} {base : Heap} {CX : CXT} {j k : Nat} {f : Addr} {fd : FuncData} {ps : List Str} {sp : Sp} (F : FnOk P w K mg base CX j f fd ps sp) (h : j ≤ k) :
    FnOk P w K mg base CX k f fd ps sp := ⟨F.len, fun A outer s H args us vs Q E hr => F.run A outer s H args us vs Q E (hr.mono h)⟩
theorem Env0.make {P : Program} {w : World} {K : PySem.W.Frag} {mg : Str → Option Value} {base : Heap} {A : Around} {outer : List Env} {s : Shared} {H : Hp} (e : Env0 P w K mg base A outer s H) (C : Addr) (us : List Value) (kw : List (Str × Value)) :
    Env0 P w K mg base (A.under (.builtin "type.__call__" ⟨.ref C :: us, kw⟩)) outer s H := ⟨by first | exact e.frames | (simpa [Around.under, Code.envs, Code.isFrame, pushEnvs] using e.frames), e.mod, e.bs, e.bsz, e.funs, e.frf, e.hok, e.bare⟩
section
variable {X : Cx} {pins : List (Addr × Obj)} {σ : St} {H : Hp} {s s' : Shared}
theorem Inv.env0 (I : Inv X pins σ H s) : Env0 X.prog X.w X.K X.mg X.base X.A X.stack s H :=
  ⟨I.ok.frames, I.ok.mod, I.bs, Nat.le_trans I.ok.bsz I.sz, I.stack, I.stkFree, I.hok, I.bare⟩
theorem Inv.after {Q : VK} {u : Value} (I : Inv X pins σ H s) (h : CE X.stack X.prog X.w H s Q u s') : EP X pins σ Q u s' := by
  obtain ⟨v, H', os, bare, un, hok, r, q⟩ := h
  obtain ⟨hh, g, d, t, os'⟩ := s'
  obtain rfl : os' = s.os := os
  exact ⟨v, H', I.call (h' := hh) (g' := g) (d' := d) (t' := t) (ch := []) un hok bare (fun b z => absurd z (by simp)), r, q⟩
end
def tCall (sp : Sp) (dvs : List V) (E : XK) (t : TA) : TE := fun σ H Q => t σ H fun vs H1 => sp (vs ++ dvs) H1 Q E
def tMeth (C : Addr) (m : Str) (sp : Sp) (dvs : List V) (E : XK) (ta : TE) (t : TA) : TE := fun σ H Q => ta σ H fun x H1 => ∃ a dx fs, x = .ref a ∧ H1 a = some (.ins C dx fs) ∧ fs.lookup m = none ∧
  t σ H1 fun vs H2 => sp (x :: (vs ++ dvs)) H2 Q E
def tMake (C : Addr) (sp : Sp) (dvs : List V) (E : XK) (t : TA) : TE := fun σ H Q => t σ H fun vs H1 => ∀ x dx, H1 x = none → H1 dx = none → dx ≠ x →
  sp (.ref x :: (vs ++ dvs)) (upd (upd H1 dx (.own x)) x (.ins C dx [])) (fun v H2 => v = .non ∧ Q (.ref x) H2) E
def Binds (K : PySem.W.Frag) (fd : FuncData) (ps : List Str) (ds : List Value) : Prop :=
  ∀ (s : Shared) (us : List Value), K.In s.heap → (us ++ ds).length = ps.length → BindsTo s fd ⟨us, []⟩ (ps.zip (us ++ ds))
theorem Binds.all {K : PySem.W.Frag} {fd : FuncData} {ps : List Str} (h : ∀ us : List Value, us.length = ps.length → bindArgs fd ⟨us, []⟩ = pure (ps.zip us)) : Binds K fd ps [] := fun s us _ hl => by
  rw [List.append_nil] at hl ⊢
  exact .of_eq (h us hl)
def Passes (CX : CXT) (X : Cx) (E : XK) : Prop := ∀ (pins : List (Addr × Obj)) (σ : St) (H : Hp) (s : Shared) (e : Value) (s' : Shared), Inv X pins σ H s → CX X.stack H s E e s' → X.xe e s'
section
variable {X : Cx} {CX : CXT} {k : Nat} {f C : Addr} {fd : FuncData} {ps : List Str} {sp : Sp} {dvs : List V} {ds : List Value} {E : XK} {x m : Str} {p pos apos : Pos} {e o : Expr} {es : List Expr} {ta : TE} {t : TA}
theorem run_fn {pins : List (Addr × Obj)} {σ : St} {H : Hp} {s : Shared} {Q : VK} {us : List Value} {vs : List V} (F : FnOk X.prog X.w X.K X.mg X.base CX k f fd ps sp) (hr : Room k X.A) (hb : Binds X.K fd ps ds) (hd : Vals dvs ds) (hx : Passes CX X E)
    (I : Inv X pins σ H s) (r : Vals vs us) (h : sp (vs ++ dvs) H Q E) : wpAny (model X.prog X.w) X.A (call (.ref f) us) (EP X pins σ Q) X.xe s := by
  have r2 : Vals (vs ++ dvs) (us ++ ds) := r.append hd
  have hl : (us ++ ds).length = ps.length := by rw [← r2.length]; exact F.len _ _ _ _ h
  refine wpAny_call (codeAny_mono (F.run X.A X.stack s H ⟨us, []⟩ (us ++ ds) (vs ++ dvs) Q E hr I.env0 (hb s us I.kIn hl) r2 h) fun r s' hq => ?_)
  cases r with
  | error e => exact hx pins σ H s e s' I hq
  | ok fl =>
    cases fl with
    | ret u => exact I.after hq
    | next => exact False.elim hq
    | brk => exact False.elim hq
    | cont => exact False.elim hq
theorem pe_call (F : FnOk X.prog X.w X.K X.mg X.base CX k f fd ps sp) (hr : Room k X.A) (hg : Gl X x) (hm : X.mg x = some (.ref f)) (hk : PySem.W.keepIn X.K (.ref f) = true) (hb : Binds X.K fd ps ds) (hd : Vals dvs ds) (hx : Passes CX X E)
    (ha : PA X (e :: es) t) (hdb : (x == ("__debug__" : Str)) = false := by decide) (he : starEach (e :: es) X.env = (false, eval e X.env) :: starEach es X.env := by rfl) (hpl : (backTo pos (starEach es X.env)).any (·.1) = false := by rfl) :
    PE X (.Call (.Name x p) (e :: es) [] pos) (tCall sp dvs E t) := by
  intro pins s σ H Q I h
  refine wpAny_Call_Name_kw (ld_glob I hg hm ?_ hdb)
  refine PySem.W.callWith_K (h₀ := X.base) I.ok.mod.kin hk (thn (ha pos pins s σ H _ I h) fun us s1 ⟨vs, H1, I1, r, q⟩ => ⟨I1.kIn, ?_⟩) he hpl
  exact run_fn F hr hb hd hx I1 r q
structure Mk (K : PySem.W.Frag) (C f : Addr) : Prop where
  makes : PySem.W.makesIn K C = true
  init : PySem.W.findIn K (.ref C) "__init__" = some (some (.ref f))
  fn : PySem.W.isFn K (.ref f) = true
  kp : PySem.W.keepIn K (.ref C) = true
theorem run_make {pins : List (Addr × Obj)} {σ : St} {H : Hp} {s : Shared} {Q : VK} {us : List Value} {vs : List V} (M : Mk X.K C f) (F : FnOk X.prog X.w X.K X.mg X.base CX k f fd ps sp) (hr : Room (k + 1) X.A) (hb : Binds X.K fd ps ds) (hd : Vals dvs ds)
    (hx : Passes CX X E) (I : Inv X pins σ H s) (r : Vals vs us)
    (h : ∀ x dx, H x = none → H dx = none → dx ≠ x → sp (.ref x :: (vs ++ dvs)) (upd (upd H dx (.own x)) x (.ins C dx [])) (fun v H2 => v = .non ∧ Q (.ref x) H2) E) :
    wpAny (model X.prog X.w) X.A (call (.ref C) us) (EP X pins σ Q) X.xe s := by
  have hq := h (s.heap.objs.size + 1) s.heap.objs.size (I.hok.fresh (Nat.le_succ _)) (I.hok.fresh (Nat.le_refl _)) (Nat.ne_of_lt (Nat.lt_succ_self _))
  have I2 := Inv.made (C := C) I
  have r2 : Vals (V.ref (s.heap.objs.size + 1) :: (vs ++ dvs)) (Value.ref (s.heap.objs.size + 1) :: (us ++ ds)) := .cons rfl (r.append hd)
  have hl : (Value.ref (s.heap.objs.size + 1) :: us ++ ds).length = ps.length := by
    have e := r2.length
    rw [F.len _ _ _ _ hq] at e
    exact e.symm
  refine wpAny_call (make_map (f := f) I.kIn M.makes M.init (beq_iff_eq.mp M.fn) (codeAny_mono (F.run _ X.stack _ _ ⟨Value.ref (s.heap.objs.size + 1) :: us, []⟩ (Value.ref (s.heap.objs.size + 1) :: (us ++ ds)) _ _ E (hr.make C us [])
    (I2.env0.make C us []) (hb _ (Value.ref (s.heap.objs.size + 1) :: us) I2.kIn hl) r2 hq) fun r s' hq' => ?_))
  cases r with
  | error e => exact hx pins σ _ _ e s' I2 hq'
  | ok fl =>
    cases fl with
    | ret u =>
      obtain ⟨v, H', I3, rv, ev, q3⟩ := I2.after hq'
      subst ev
      exact ⟨rv, ⟨V.ref (s.heap.objs.size + 1), H', I3, rfl, q3⟩⟩
    | next => exact False.elim hq'
    | brk => exact False.elim hq'
    | cont => exact False.elim hq'
theorem pe_make0 (M : Mk X.K C f) (F : FnOk X.prog X.w X.K X.mg X.base CX k f fd ps sp) (hr : Room (k + 1) X.A) (hg : Gl X x) (hm : X.mg x = some (.ref C)) (hb : Binds X.K fd ps ds) (hd : Vals dvs ds) (hx : Passes CX X E)
    (hdb : (x == ("__debug__" : Str)) = false := by decide) : PE X (.Call (.Name x p) [] [] pos) (tMake C sp dvs E tNil) := by
  intro pins s σ H Q I h
  refine wpAny_Call_Name_kw (ld_glob I hg hm ?_ hdb)
  exact PySem.W.callWith_K0 I.kIn M.kp (run_make (us := []) M F hr hb hd hx I .nil h)
end
def PK (X : Cx) (kws : List Keyword) (t : TA) : Prop :=
  ∀ (pos : Pos) (pins : List (Addr × Obj)) (s : Shared) (σ : St) (H : Hp) (Q : List V → Hp → Prop), Inv X pins σ H s → t σ H Q → wpAny (model X.prog X.w) X.A (evalAll ((backToKw pos (keywordEach kws X.env)).map (·.2))) (AP X pins σ Q) X.xe s
section
variable {X : Cx} {CX : CXT} {k : Nat} {f C : Addr} {fd : FuncData} {ps ks : List Str} {sp : Sp} {E : XK} {x m : Str} {p pos apos kpos : Pos} {e o : Expr} {es : List Expr} {kws : List Keyword} {te ta : TE} {t tk : TA} {nm : Option Str}
structure KBinds (K : PySem.W.Frag) (fd : FuncData) (ps ks : List Str) (g : List Value → List Value → List Value) (gV : List V → List V → List V) : Prop where
  to : ∀ (s : Shared) (us ws : List Value), K.In s.heap → (g us ws).length = ps.length → BindsTo s fd ⟨us, ks.zip ws⟩ (ps.zip (g us ws))
  rel : ∀ {vs : List V} {us : List Value} {zs : List V} {ws : List Value}, Vals vs us → Vals zs ws → Vals (gV vs zs) (g us ws)
def tCallK (sp : Sp) (gV : List V → List V → List V) (E : XK) (t tk : TA) : TE := fun σ H Q => t σ H fun vs H1 => tk σ H1 fun zs H2 => sp (gV vs zs) H2 Q E
variable {g : List Value → List Value → List Value} {gV : List V → List V → List V}
end
structure FnScope (N P : List Str) (sc : Scope) : Prop where
  kind : sc.kind = .function
  co : sc.isCoroutine = false
  gen : sc.isGenerator = false
  nd : N.Nodup
  pre : N.take P.length = P
  par : ∀ x ∈ P, sc.names.lookup x = some .local ∨ sc.names.lookup x = some .cell
  nofree : ∀ y ∈ sc.names, y.2 ≠ .free
theorem bindL_out {kindOf : Str → Option NameKind} {x : Str} : ∀ {binds : List (Str × Value)} {m : Str → Option Value}, (∀ v, (x, v) ∉ binds) → bindL kindOf binds m x = m x
  | [], _, _ => rfl
  | (n, v) :: r, m, h => by
    unfold bindL
    rw [bindL_out fun w hw => h w (List.mem_cons_of_mem _ hw)]
    split
    · have : x ≠ n := by rintro rfl; exact h v List.mem_cons_self
      simp [this]
    · rfl
theorem bindC_out {kindOf : Str → Option NameKind} {x : Str} : ∀ {binds : List (Str × Value)} {m : Str → Option Value}, (∀ v, (x, v) ∉ binds) → bindC kindOf binds m x = m x
  | [], _, _ => rfl
  | (n, v) :: r, m, h => by
    unfold bindC
    rw [bindC_out fun w hw => h w (List.mem_cons_of_mem _ hw)]
    split
    · rfl
    · have : x ≠ n := by rintro rfl; exact h v List.mem_cons_self
      simp [this]
theorem bindL_get {kindOf : Str → Option NameKind} {x : Str} {v : Value} : ∀ {P : List Str} {vs : List Value} {i : Nat} {m : Str → Option Value}, P.Nodup → P[i]? = some x → vs[i]? = some v → kindOf x = some .local →
    bindL kindOf (P.zip vs) m x = some v
  | [], _, _, _, _, h, _, _ => by simp at h
  | _ :: _, [], _, _, _, _, h, _ => by simp at h
  | p :: P, w :: vs, 0, m, nd, h1, h2, hk => by
    simp at h1 h2; subst h1; subst h2
    show bindL kindOf ((p, w) :: P.zip vs) m p = _
    unfold bindL
    rw [bindL_out fun v hv => (List.nodup_cons.mp nd).1 (List.of_mem_zip hv).1, if_pos hk]
    simp
  | p :: P, w :: vs, i + 1, m, nd, h1, h2, hk => by
    show bindL kindOf ((p, w) :: P.zip vs) m x = _
    unfold bindL
    exact bindL_get (i := i) (List.nodup_cons.mp nd).2 (by simpa using h1) (by simpa using h2) hk
theorem bindC_get {kindOf : Str → Option NameKind} {x : Str} {v : Value} : ∀ {P : List Str} {vs : List Value} {i : Nat} {m : Str → Option Value}, P.Nodup → P[i]? = some x → vs[i]? = some v → kindOf x ≠ some .local →
    bindC kindOf (P.zip vs) m x = some v
  | [], _, _, _, _, h, _, _ => by simp at h
  | _ :: _, [], _, _, _, _, h, _ => by simp at h
  | p :: P, w :: vs, 0, m, nd, h1, h2, hk => by
    simp at h1 h2; subst h1; subst h2
    show bindC kindOf ((p, w) :: P.zip vs) m p = _
    unfold bindC
    rw [bindC_out fun v hv => (List.nodup_cons.mp nd).1 (List.of_mem_zip hv).1, if_neg hk]
    simp
  | p :: P, w :: vs, i + 1, m, nd, h1, h2, hk => by
    show bindC kindOf ((p, w) :: P.zip vs) m x = _
    unfold bindC
    exact bindC_get (i := i) (List.nodup_cons.mp nd).2 (by simpa using h1) (by simpa using h2) hk
def start (N : List Str) (vs : List V) : St := vs.map some ++ List.replicate (N.length - vs.length) none
def cxOf (CX : CXT) (P : Program) (w : World) (K : PySem.W.Frag) (mg : Str → Option Value) (base : Heap) (N : List Str) (qual : Str) (scope : Scope) (f : Addr) (cd : Value) (A : Around) (outer : List Env) (s : Shared) (H : Hp) (E : XK) : Cx where
  prog := P
  w := w
  K := K
  mg := mg
  base := base
  A := A.deeper (envOfC qual scope s.heap.objs.size f cd)
  N := N
  s_0 := s
  H_0 := H
  env := envOfC qual scope s.heap.objs.size f cd
  outer := outer
  stack := envOfC qual scope s.heap.objs.size f cd :: outer
  ex := []
  calm := true
  fn := fun _ => true
  pn := []
  xe := fun e s' => wpAny (model P w) (A.deeper (envOfC qual scope s.heap.objs.size f cd)) (leaving (envOfC qual scope s.heap.objs.size f cd) e) (fun _ s'' => CX outer H s E e s'') (fun e' s'' => CX outer H s E e' s'') s'
theorem cell_has {sc : Scope} {n : Nat} {x : Str} (h : sc.names.lookup x = some .cell) : ∃ c, (cellsFrom n sc.names []).lookup x = some c := by
  have q := PySem.W.cellsFrom_some sc.names n [] (.inl h)
  exact Option.isSome_iff_exists.mp q
theorem inv_start {CX : CXT} {P : Program} {w : World} {K : PySem.W.Frag} {mg : Str → Option Value} {base : Heap} {N ps : List Str} {qual : Str} {scope : Scope} {f : Addr} {cd : Value} {A : Around} {outer : List Env} {s s1 : Shared} {H : Hp} {E : XK} {us : List Value} {vs : List V}
    (S : FnScope N ps scope) (hd : A.handled = none) (e0 : Env0 P w K mg base A outer s H) (hl : vs.length = ps.length) (r : Vals vs us)
    (x : InCallC s s.heap.objs.size (bindL (envOfC qual scope s.heap.objs.size f cd).kindOf (ps.zip us) fun _ => none) (cellsFrom (s.heap.objs.size + 1) scope.names []) (bindC (envOfC qual scope s.heap.objs.size f cd).kindOf (ps.zip us) fun _ => none) s1) :
    Inv (cxOf CX P w K mg base N qual scope f cd A outer s H E) [] (start N vs) H s1 := by
  have hpl : ps.length ≤ N.length := by have := congrArg List.length S.pre; rw [List.length_take] at this; omega
  obtain ⟨h1, tk, rfl, hk⟩ := x.done
  have noA : ∀ b : Addr, b ∉ (cxOf CX P w K mg base N qual scope f cd A outer s H E).ex := fun b z => absurd (show b ∈ ([] : List Addr) from z) (by simp)
  refine ⟨⟨e0.mod, S.kind, rfl, rfl, Nat.le_refl _, fun y z c h1 h2 => ?_, fun y hy => ?_, fun y c _ h => ?_, fun _ => hd, Around.frames_deeper e0.frames, .inr ⟨rfl, rfl⟩, fun b z => absurd z (noA b), e0.bs, e0.bsz, fun b _ _ => noA b, fun b z => absurd z (noA b), e0.funs, e0.frf⟩,
    rfl, e0.bare, Un.kept hk, ⟨_, x.toInCall.ns, fun i y v h1 h2 h3 => ?_⟩, fun y c h => ⟨_, x.cell y c h⟩, e0.hok.fresh (Nat.le_refl _), fun y c h => ?_, fun p hp => absurd (show p ∈ ([] : List (Addr × Obj)) from hp) (by simp), e0.hok.kept hk, ?_⟩
  · exact name_of_addr x.apart (PySem.mem_of_lookup h1) (PySem.mem_of_lookup h2)
  · have hy : scope.names.lookup y = some .cell ∨ scope.names.lookup y = some .free := hy
    rcases hy with hy | hy
    · exact cell_has hy
    · exact absurd rfl (S.nofree _ (PySem.mem_of_lookup hy))
  · exact Nat.le_of_lt (x.above y c (PySem.mem_of_lookup h))
  · have hi : i < vs.length := by
      unfold start at h2
      by_cases hi : i < vs.length
      · exact hi
      · rw [List.getElem?_append_right (by simpa using hi)] at h2
        rw [List.getElem?_replicate] at h2
        split at h2 <;> cases h2
    have ha : vs[i]? = some v := by
      unfold start at h2
      rw [List.getElem?_append_left (by simpa using hi), List.getElem?_map] at h2
      cases e : vs[i]? with
      | none => rw [e] at h2; cases h2
      | some a => rw [e] at h2; cases h2; rfl
    obtain ⟨u, hu, rv⟩ := r.get ha
    have hp : ps[i]? = some y := by
      rw [← S.pre, List.getElem?_take_of_lt (by omega)]; exact h1
    have ndP : ps.Nodup := by rw [← S.pre]; exact S.nd.sublist (List.take_sublist _ _)
    refine ⟨u, rv, ?_⟩
    rcases S.par y (List.mem_of_getElem? hp) with k | k
    · exact .inl ⟨k, bindL_get ndP hp hu k⟩
    · obtain ⟨c, e⟩ := cell_has (n := s.heap.objs.size + 1) k
      refine .inr ⟨.inl k, c, e, ?_⟩
      have q := x.cell y c e
      rw [bindC_get ndP hp hu (by show scope.names.lookup y ≠ _; rw [k]; decide)] at q
      exact q
  · exact e0.hok.fresh (Nat.le_of_lt (x.above y c (PySem.mem_of_lookup h)))
  · unfold start
    show _ = N.length
    rw [List.length_append, List.length_map, List.length_replicate]
    omega
theorem fn_of {CX : CXT} {P : Program} {w : World} {K : PySem.W.Frag} {mg : Str → Option Value} {base : Heap} {k : Nat} {f : Addr} {name qual : Str} {params : Arguments} {body : List Stmt} {scope : Scope} {dV kV doc pm cdv ct oc : Value} {an od : Option Addr}
    {osl : Array (Option Value)} {N ps : List Str} {sp : Sp} (lk : K.lookup f = some ⟨oc, od, .func (PySem.W.fnOf name qual params body scope dV kV doc pm an cdv ct), osl⟩) (hcd : PySem.W.codeIn K cdv qual = true) (S : FnScope N ps scope)
    (len : ∀ vs H Q E, sp vs H Q E → vs.length = ps.length)
    (hbody : ∀ (A : Around) (outer : List Env) (s : Shared) (H : Hp) (vs : List V) (Q : VK) (E : XK), Room k (A.deeper (envOfC qual scope s.heap.objs.size f cdv)) → sp vs H Q E →
      ∃ t, PSs (cxOf CX P w K mg base N qual scope f cdv A outer s H E) body t ∧ t { nx := fun _ H' => Q .non H', rt := Q } (start N vs) H) :
    FnOk P w K mg base CX (k + 1) f (PySem.W.fnOf name qual params body scope dV kV doc pm an cdv ct) ps sp := by
  refine ⟨len, fun A outer s H args us vs Q E hr e0 hb r hsp => ?_⟩
  have hl := len _ _ _ _ hsp
  have KX : K.In s.heap := e0.mod.kin.keeps fun b o e => (e0.bs b o e).1
  have lim : s.heap.NoLimit := e0.mod.nolimit.keeps fun b o e => (e0.bs b o e).1
  have hkind : ∀ y ∈ ps.zip us, scope.names.lookup y.1 = some .local ∨ (scope.names.lookup y.1 = some .cell ∧ ((cellsFrom (s.heap.objs.size + 1) scope.names []).lookup y.1).isSome = true) := fun ⟨n, v⟩ hy => by
    rcases S.par n (List.of_mem_zip hy).1 with q | q
    · exact .inl q
    · exact .inr ⟨q, PySem.W.cellsFrom_some _ _ _ (.inl q)⟩
  refine codeAny_call_function hr.depth (KX _ _ lk) rfl S.co S.gen rfl (PySem.W.codeRec_of KX hcd) (hb _ _ _ _ ?_)
  refine wpAny_newFunctionEnv_cells S.kind hkind fun env he s1 x => ?_
  subst he
  refine ⟨lim.keeps x.toInCall.keep, codeAny_func ?_⟩
  obtain ⟨t, ht, hq⟩ := hbody A outer s H vs Q E (hr.deeper _) hsp
  have I : Inv (cxOf CX P w K mg base N qual scope f cdv A outer s H E) [] (start N vs) H s1 := inv_start S hr.hd e0 hl r x
  refine wpAny_mono (ht [] s1 (start N vs) H _ I hq) (fun fl s' hs => ?_) fun e s' hs => hs
  have fin : ∀ {σ' : St} {H' : Hp} {v : V} {u : Value}, Inv (cxOf CX P w K mg base N qual scope f cdv A outer s H E) [] σ' H' s' → RelV v u → Q v H' → CE outer P w H s Q u s' :=
    fun {σ' H' v u} J rv q => ⟨v, H', J.os, J.bare, J.base, J.hok, rv, q⟩
  cases fl with
  | ret u =>
    obtain ⟨v, σ', H', J, rv, q⟩ := hs
    exact fin J rv q
  | next =>
    obtain ⟨σ', H', J, q⟩ := hs
    exact fin (v := V.non) (u := Value.none) J rfl q
  | brk =>
    obtain ⟨_, _, _, q⟩ := hs
    exact False.elim q
  | cont =>
    obtain ⟨_, _, _, q⟩ := hs
    exact False.elim q
end L2
namespace L2
open PySem PySem.Spec PyProof.Rows
section
variable {X : Cx} {x : Str} {p pos : Pos} {e : Expr} {es : List Expr} {t : TA} {id T : String} {r : List V → Hp → VK → Prop}
def tCB (r : List V → Hp → VK → Prop) (t : TA) : TE := fun σ H Q => t σ H fun vs H1 => r vs H1 Q
theorem pe_callB (hc : CallR X (.builtin id) r) (hg : Gl X x) (hm : X.mg x = none) (hv : bootBuiltins x = some (.builtin id)) (ha : PA X (e :: es) t) (hn : x ≠ "__name__" := by decide) (hdb : (x == ("__debug__" : Str)) = false := by decide)
    (he : starEach (e :: es) X.env = (false, eval e X.env) :: starEach es X.env := by rfl) (hpl : (backTo pos (starEach es X.env)).any (·.1) = false := by rfl) : PE X (.Call (.Name x p) (e :: es) [] pos) (tCB r t) := by
  intro pins s σ H Q I h
  refine wpAny_Call_Name_kw (ld_blt I hg hm hv ?_ hn hdb)
  exact PyProof.Rows.callWith_builtin1 (thn (ha pos pins s σ H _ I h) fun us s1 ⟨vs, H1, I1, r1, q1⟩ => hc pins s1 σ H1 vs us Q I1 r1 q1) he hpl
theorem pe_callTy (hc : CallR X (.type T) r) (hg : Gl X x) (hm : X.mg x = none) (hv : bootBuiltins x = some (.type T)) (ha : PA X (e :: es) t) (hn : x ≠ "__name__" := by decide) (hdb : (x == ("__debug__" : Str)) = false := by decide)
    (he : starEach (e :: es) X.env = (false, eval e X.env) :: starEach es X.env := by rfl) (hpl : (backTo pos (starEach es X.env)).any (·.1) = false := by rfl) : PE X (.Call (.Name x p) (e :: es) [] pos) (tCB r t) := by
  intro pins s σ H Q I h
  refine wpAny_Call_Name_kw (ld_blt I hg hm hv ?_ hn hdb)
  exact PyProof.Rows.callWith_type1 (thn (ha pos pins s σ H _ I h) fun us s1 ⟨vs, H1, I1, r1, q1⟩ => hc pins s1 σ H1 vs us Q I1 r1 q1) he hpl
end
end L2
namespace HT
open PySem PyProof.Rows
def lexLt : List Int → List Int → Bool
  | [], [] => false
  | [], _ :: _ => true
  | _ :: _, [] => false
  | x :: xs, y :: ys => if x = y then lexLt xs ys else decide (x < y)
section
open PySem.SeqAt
open PySem.AutoSeq1 (wpAny_loadPart')
open PySem.MeetsSeq PySem.MeetsSeq2 PySem.MeetsSeq3
end
section
variable {prog : Program} {w : World} {A : Around} {E : Value → Shared → Prop} {s : Shared}
def sIx (n d : Nat) : Option Int → Nat
  | none => d
  | some v => if v < 0 then (v + (n : Int)).toNat else min v.toNat n
theorem sIx_none (n d : Nat) : sIx n d none = d := rfl
theorem sIx_nat (n d k : Nat) : sIx n d (some (k : Int)) = min k n := by
  show (if (k : Int) < 0 then ((k : Int) + (n : Int)).toNat else min (k : Int).toNat n) = min k n
  rw [if_neg (by omega), Int.toNat_natCast]
end
end HT
namespace L2
open PySem PySem.Spec PyProof.Rows
abbrev TO := St → Hp → (Option Int → Hp → Prop) → Prop
def PO (X : Cx) (e : Option Expr) (t : TO) : Prop :=
  ∀ (pins : List (Addr × Obj)) (s : Shared) (σ : St) (H : Hp) (Q : Option Int → Hp → Prop), Inv X pins σ H s → t σ H Q →
    wpAny (model X.prog X.w) X.A (evalPart e X.env) (fun u s' => ∃ o H', Inv X pins σ H' s' ∧ IsPart u o ∧ Q o H') X.xe s
def tNoPart : TO := fun _ H Q => Q none H
def tPart (t : TE) : TO := fun σ H Q => t σ H fun x H1 => ∃ i, x = .int i ∧ Q (some i) H1
section
variable {X : Cx} {e : Expr} {te : TE} {lo hi : Option Expr} {tl th : TO} {pos p2 : Pos}
theorem po_none : PO X none tNoPart := by
  intro pins s σ H Q I h
  rw [evalPart_none]
  exact wpAny_pure ⟨none, H, I, .none, h⟩
theorem po_some (h : PE X e te) : PO X (some e) (tPart te) := by
  intro pins s σ H Q I hw
  rw [evalPart_some]
  refine thn (h pins s σ H _ I hw) fun u s1 ⟨x, H1, I1, r1, q1⟩ => ?_
  obtain ⟨i, rfl, q⟩ := q1
  obtain ⟨t, rfl⟩ := r1
  exact ⟨some i, H1, I1, .int i t, q⟩
def SlR (X : Cx) (r : V → Option Int → Option Int → Hp → VK → Prop) : Prop :=
  ∀ (pins : List (Addr × Obj)) (s : Shared) (σ : St) (H : Hp) (x : V) (v vl vu : Value) (lo hi : Option Int) (sl : Addr) (Q : VK), Inv X pins σ H s → RelV x v → s.heap.IsSliceOf sl vl vu .none → IsPart vl lo → IsPart vu hi → r x lo hi H Q →
    ∃ T id, typeLookup (.type T) "__getitem__" = pure (some (.builtin id)) ∧ s.TypeIs v T ∧ wpAny (model X.prog X.w) X.A (getItem v (.ref sl)) (EP X pins σ Q) X.xe s
def tSl (r : V → Option Int → Option Int → Hp → VK → Prop) (te : TE) (tl th : TO) : TE := fun σ H Q => te σ H fun x H1 => tl σ H1 fun l H2 => th σ H2 fun u H3 => r x l u H3 Q
theorem pe_slice {r : V → Option Int → Option Int → Hp → VK → Prop} (hr : SlR X r) (he : PE X e te) (hl : PO X lo tl) (hu : PO X hi th) : PE X (.Subscript e (.Slice lo hi none p2) pos) (tSl r te tl th) := by
  intro pins s σ H Q I h
  refine Subscript_ (thn (he pins s σ H _ I h) fun v s1 ⟨x, H1, I1, r1, q1⟩ => ?_)
  refine wpAny_Slice (thn (hl pins s1 σ H1 _ I1 q1) fun vl s2 ⟨l, H2, I2, pl, q2⟩ => thn (hu pins s2 σ H2 _ I2 q2) fun vu s3 ⟨u, H3, I3, pu, q3⟩ => ?_)
  rw [evalPart_none]
  refine wpAny_pure ?_
  have I4 : Inv X pins σ H3 { s3 with heap := s3.heap.push { cls := .type "slice", data := .fields #[vl, vu, .none] } } := I3.kept (t' := s3.toks) fun b ob q => Heap.get?_push_of_some _ q
  obtain ⟨T, id, hT, ht, hg⟩ := hr pins { s3 with heap := s3.heap.push { cls := .type "slice", data := .fields #[vl, vu, .none] } } σ H3 x v vl vu l u s3.heap.objs.size Q I4 r1 (Heap.IsSliceOf.new ..) pl pu q3
  show wpAny (model X.prog X.w) X.A (subscriptTail e (.Slice lo hi none p2) v (.ref s3.heap.objs.size)) (EP X pins σ Q) X.xe { s3 with heap := s3.heap.push { cls := .type "slice", data := .fields #[vl, vu, .none] } }
  exact tail_any (ops := [.ref s3.heap.objs.size, v]) ht hT hg (by with_unfolding_all rfl)
def cutV (xs : List V) (lo hi : Option Int) : List V := (xs.drop (HT.sIx xs.length 0 lo)).take (HT.sIx xs.length xs.length hi - HT.sIx xs.length 0 lo)
theorem cutV_length (xs : List V) (lo hi : Option Int) : (cutV xs lo hi).length ≤ xs.length := by
  unfold cutV
  rw [List.length_take, List.length_drop]
  omega
def rSlT (K : PySem.W.Frag) : V → Option Int → Option Int → Hp → VK → Prop := fun x lo hi H Q => ∃ a xs, x = .ref a ∧ SqT K H a xs ∧
  ¬ (HT.sIx xs.length 0 lo = 0 ∧ HT.sIx xs.length xs.length hi = xs.length) ∧ ∀ p, H p = none → Q (.ref p) (upd H p (.tup (cutV xs lo hi)))
def rLtT (K : PySem.W.Frag) : R2 := fun x y H Q => ∃ a b ns ms, x = .ref a ∧ y = .ref b ∧ SqT K H a (ns.map V.int) ∧ SqT K H b (ms.map V.int) ∧ Q (.bl (HT.lexLt ns ms)) H
def rCatT (K : PySem.W.Frag) : R2 := fun x y H Q => ∃ a b xs ys, x = .ref a ∧ y = .ref b ∧ SqT K H a xs ∧ SqT K H b ys ∧ xs ≠ [] ∧ xs.length + ys.length ≤ sizeLine ∧
  (ys = [] → Q (.ref a) H) ∧ (ys ≠ [] → ∀ p, H p = none → Q (.ref p) (upd H p (.tup (xs ++ ys))))
end
end L2
namespace L2
open PySem PySem.Spec PyProof.Rows
def ixN (n : Nat) (i : Int) : Option Nat := if 0 ≤ i then (if i < n then some i.toNat else none) else if -(n : Int) ≤ i then some (i + n).toNat else none
def atI {α : Type} (xs : List α) (i : Int) : Option α := (ixN xs.length i).bind fun j => xs[j]?
theorem ixN_seq {n : Nat} {i : Int} {j : Nat} (h : ixN n i = some j) : seqIndex? i n = some j ∧ j < n ∧ -(n : Int) ≤ i ∧ i < n := by
  unfold ixN at h
  by_cases h0 : 0 ≤ i
  · rw [if_pos h0] at h
    by_cases h1 : i < n
    · rw [if_pos h1] at h
      have e : i.toNat = j := Option.some.inj h
      exact ⟨by rw [seqIndex_of h0 h1, e], by omega, by omega, h1⟩
    · rw [if_neg h1] at h; cases h
  · rw [if_neg h0] at h
    by_cases h1 : -(n : Int) ≤ i
    · rw [if_pos h1] at h
      have e : (i + n).toNat = j := Option.some.inj h
      exact ⟨by rw [seqIndex_neg (by omega) h1, e], by omega, h1, by omega⟩
    · rw [if_neg h1] at h; cases h
theorem atI_get {α : Type} {xs : List α} {i : Int} {v : α} (h : atI xs i = some v) : ∃ j, seqIndex? i xs.length = some j ∧ xs[j]? = some v ∧ j < xs.length ∧ -(xs.length : Int) ≤ i ∧ i < xs.length := by
  unfold atI at h
  cases e : ixN xs.length i with
  | none => rw [e] at h; cases h
  | some j =>
    rw [e] at h
    obtain ⟨h1, h2, h3, h4⟩ := ixN_seq e
    exact ⟨j, h1, h, h2, h3, h4⟩
theorem atI_nat {α : Type} {xs : List α} {j : Nat} {v : α} (h : xs[j]? = some v) : atI xs (j : Int) = some v := by
  have hj : j < xs.length := (List.getElem?_eq_some_iff.mp h).1
  have e : ixN xs.length (j : Int) = some j := by
    unfold ixN
    rw [if_pos (by omega), if_pos (by omega)]; simp
  unfold atI; rw [e]; exact h
def PlainIx (b : Expr) : Prop := ∀ o i, subscripted b false o i = operate [o, i] (getItem o i)
def IxR (X : Cx) (r : R2) : Prop :=
  ∀ (value slice : Expr) (pins : List (Addr × Obj)) (s : Shared) (σ : St) (H : Hp) (x y : V) (v u : Value) (Q : VK), Inv X pins σ H s → RelV x v → RelV y u → r x y H Q →
    subscripted slice false v u = operate [v, u] (getItem v u) → wpAny (model X.prog X.w) X.A (subscriptTail value slice v u) (EP X pins σ Q) X.xe s
def MtR (X : Cx) (id : String) (r : V → List V → Hp → VK → Prop) : Prop :=
  ∀ (pins : List (Addr × Obj)) (s : Shared) (σ : St) (H : Hp) (x : V) (xs : List V) (v : Value) (us : List Value) (Q : VK), Inv X pins σ H s → RelV x v → Vals xs us → r x xs H Q →
    wpAny (model X.prog X.w) X.A (call (.builtin id) (v :: us)) (EP X pins σ Q) X.xe s
section
variable {X : Cx} {a b : Expr} {ta tb : TE} {pos : Pos}
theorem pe_ix {r : R2} (hr : IxR X r) (ha : PE X a ta) (hb : PE X b tb) (hs : PlainIx b) : PE X (.Subscript a b pos) (tOp r ta tb) := by
  intro pins s σ H Q I h
  exact Subscript_ (binT ha hb I h fun v u s2 x y H2 I2 rx ry q => hr a b pins s2 σ H2 x y v u Q I2 rx ry q (hs _ _))
def rIxL (K : PySem.W.Frag) : R2 := fun x y H Q => ∃ p xs i v, x = .ref p ∧ y = .int i ∧ SqL K H p xs ∧ atI xs i = some v ∧ Q v H
def rIxT (K : PySem.W.Frag) : R2 := fun x y H Q => ∃ p xs i v, x = .ref p ∧ y = .int i ∧ SqT K H p xs ∧ atI xs i = some v ∧ Q v H
def rIxS : R2 := fun x y H Q => ∃ z i c, x = .str z ∧ y = .int i ∧ z.length ≤ sizeLine ∧ atI z.cps.toList i = some c ∧ Q (.str ⟨#[c]⟩) H
theorem ix_list : IxR X (rIxL X.K) := by
  intro value slice pins s σ H x y v u Q I rx ry h hs
  obtain ⟨p, xs, i, z, rfl, rfl, hq, he, q⟩ := h
  cases rx
  obtain ⟨t, rfl⟩ := ry
  obtain ⟨its, r, pl, hz⟩ := I.list hq
  obtain ⟨j, h1, h2, h3, h4, h5⟩ := atI_get he
  obtain ⟨w, ew, rw'⟩ := r.get h2
  have hl := r.length
  have hn := line63
  have fin : EP X pins σ Q w s := ⟨z, H, I, rw', q⟩
  by_cases h0 : 0 ≤ i
  · have hj : i.toNat = j := by
      rw [seqIndex_of h0 h5] at h1
      exact Option.some.inj h1
    exact item_listR pl.isList h0 (by omega) (by rw [hj]; simpa using ew) fin hs
  · have hj : (i + (its.toArray.size : Int)).toNat = j := by
      rw [seqIndex_neg (by omega) h4] at h1
      rw [List.size_toArray, ← hl]
      exact Option.some.inj h1
    exact subscriptTail_builtinR (x := w) pl.isList.typeIs slot_list_getitem.lookup
      (wpAny_getItem_list_neg (Q := fun r s' => r = w ∧ EP X pins σ Q r s') pl.isList (by omega) (by rw [List.size_toArray] <;> omega) (by omega) (by rw [hj]; simpa using ew) ⟨rfl, fin⟩) hs
def rIx (K : PySem.W.Frag) : R2 := fun x y H Q => rIxL K x y H Q ∨ rIxT K x y H Q ∨ rIxS x y H Q
theorem mapSeq_set (its : List Value) (n j : Nat) (u : Value) : Obj.mapSeq (·.setIfInBounds j u) { cls := .type "list", data := .seq its.toArray n } = { cls := .type "list", data := .seq (its.set j u).toArray n } := by
  simp [Obj.mapSeq]
theorem Inv.lst {pins : List (Addr × Obj)} {σ : St} {H : Hp} {s : Shared} {p : Addr} {xs : List V} (I : Inv X pins σ H s) (h : H p = some (.lst xs)) :
    ∃ (its : List Value) (n : Nat), Vals xs its ∧ s.heap.get? p = some { cls := .type "list", data := .seq its.toArray n } ∧ xs.length ≤ sizeLine := by
  obtain ⟨z, its, n, r, e⟩ := I.hok p _ h
  exact ⟨its, n, r, e, z⟩
theorem Inv.lstUpd {pins : List (Addr × Obj)} {σ : St} {H : Hp} {s : Shared} {p : Addr} {xs ys : List V} {its its' : List Value} {n n' : Nat} {f : Obj → Obj} (I : Inv X pins σ H s) (h : H p = some (.lst xs))
    (ho : s.heap.get? p = some { cls := .type "list", data := .seq its.toArray n }) (hf : f { cls := .type "list", data := .seq its.toArray n } = { cls := .type "list", data := .seq its'.toArray n' }) (r : Vals ys its') (hz : ys.length ≤ sizeLine) (t : Nat) :
    Inv X pins σ (upd H p (.lst ys)) { s with heap := s.heap.update p f, toks := t } := by
  have e : (s.heap.update p f).get? p = some { cls := .type "list", data := .seq its'.toArray n' } := by
    rw [Heap.get?_update_self f ho (by rw [hf] <;> rfl), hf]
  refine I.write (x := p) (e := p) (by rw [h]; trivial) (.inl rfl) (fun b u hb q => (Heap.get?_update_other _ _ (Ne.symm hb)).trans q) ⟨_, e⟩ ?_
  exact ⟨hz, its', n', r, e⟩
def rSetL : V → V → V → Hp → (Hp → Prop) → Prop := fun o i v H Q => ∃ p xs k j, o = .ref p ∧ i = .int k ∧ H p = some (.lst xs) ∧ ixN xs.length k = some j ∧ Q (upd H p (.lst (xs.set j v)))
theorem set_list : PSet X rSetL := by
  intro pins s σ H o i v ov iv u Q I ro ri rv h
  obtain ⟨p, xs, k, j, rfl, rfl, hp, hj, q⟩ := h
  cases ro
  obtain ⟨t, rfl⟩ := ri
  obtain ⟨its, n, r, ho, hz⟩ := I.lst hp
  obtain ⟨h1, h2, h3, h4⟩ := ixN_seq hj
  have hl := r.length
  have hn := line63
  have I' : Inv X pins σ (upd H p (.lst (xs.set j v))) { s with heap := s.heap.update p (Obj.mapSeq (·.setIfInBounds j u)) } :=
    I.lstUpd hp ho (mapSeq_set its n j u) (r.set rv j) (by rw [List.length_set]; exact hz) s.toks
  by_cases h0 : 0 ≤ k
  · have hk : k.toNat = j := by
      rw [seqIndex_of h0 h4] at h1
      exact Option.some.inj h1
    exact PySem.W.ki_setAt ho h0 (by omega) (by rw [List.size_toArray, ← hl]; exact h4) (by rw [hk]; exact ⟨_, I', q⟩)
  · have hk : (k + (its.toArray.size : Int)).toNat = j := by
      rw [seqIndex_neg (by omega) h3] at h1
      rw [List.size_toArray, ← hl]
      exact Option.some.inj h1
    exact PySem.W.ki_setBack ho (by omega) (by rw [List.size_toArray, ← hl]; exact h3) (by omega) (by rw [hk]; exact ⟨_, I', q⟩)
theorem slice_bounds (lo hi : Option Int) (n : Nat) : (sliceBounds lo hi none n).1 = ((HT.sIx n 0 lo : Nat) : Int) ∧ (sliceBounds lo hi none n).2.1 = ((HT.sIx n n hi : Nat) : Int) ∧ (sliceBounds lo hi none n).2.2 = 1 := by
  refine ⟨?_, ?_, rfl⟩
  · cases lo with
    | none => simp [sliceBounds, HT.sIx]
    | some i =>
      simp only [sliceBounds, HT.sIx, Option.getD_none, show (1 : Int) > 0 by decide, if_true]
      by_cases h : i < 0
      · simp only [h, if_true] <;> omega
      · simp only [h, if_false] <;> omega
  · cases hi with
    | none => simp [sliceBounds, HT.sIx]
    | some i =>
      simp only [sliceBounds, HT.sIx, Option.getD_none, show (1 : Int) > 0 by decide, if_true]
      by_cases h : i < 0
      · simp only [h, if_true] <;> omega
      · simp only [h, if_false] <;> omega
theorem slicePick_cut (its : List Value) (lo hi : Option Int) : slicePick its.toArray lo hi none = ((its.drop (HT.sIx its.length 0 lo)).take (HT.sIx its.length its.length hi - HT.sIx its.length 0 lo)).toArray := by
  obtain ⟨h1, h2, h3⟩ := slice_bounds lo hi its.toArray.size
  unfold slicePick
  rw [h1, h2, h3]
  simp only [sliceRange_one, pick_run, List.size_toArray] <;> rfl
def rSlL (K : PySem.W.Frag) : V → Option Int → Option Int → Hp → VK → Prop := fun x lo hi H Q => ∃ a xs, x = .ref a ∧ SqL K H a xs ∧ ∀ p, H p = none → Q (.ref p) (upd H p (.lst (cutV xs lo hi)))
theorem sl_list : SlR X (rSlL X.K) := by
  intro pins s σ H x v vl vu lo hi sl Q I rx hs pl pu h
  obtain ⟨a, xs, rfl, hx, q⟩ := h
  cases rx
  obtain ⟨its, r, ht, hz⟩ := I.list hx
  have hlen := r.length
  refine ⟨"list", _, slot_list_getitem.lookup, ht.isList.typeIs, ?_⟩
  refine wpAny_getItem_list_slice ht.isList hs pl pu .none (by simp) ?_ (by rw [List.size_toArray] <;> omega)
  rw [slicePick_cut, ← hlen]
  refine ⟨.ref s.heap.objs.size, _, I.laid (t' := s.toks) (o := .lst (cutV xs lo hi)) (fun b ob q => Heap.get?_push_of_some _ q) (Nat.le_refl _) ?_, rfl, q _ (I.hok.fresh (Nat.le_refl _))⟩
  exact ⟨Nat.le_trans (cutV_length xs lo hi) hz, _, 0, (r.drop (HT.sIx xs.length 0 lo)).take (HT.sIx xs.length xs.length hi - HT.sIx xs.length 0 lo), Heap.get?_push_size _ rfl⟩
def flatV : V → Bool
  | .non => true
  | .bl _ => true
  | .int _ => true
  | .str _ => true
  | _ => false
def eqV : V → V → Bool
  | .non, .non => true
  | .bl a, .bl b => a == b
  | .bl a, .int b => (if a then 1 else 0) == b
  | .int a, .bl b => a == (if b then 1 else 0)
  | .int a, .int b => a == b
  | .str a, .str b => a == b
  | _, _ => false
def eqU (x : V) (u : Value) : Bool := match u with
  | .none => eqV .non x
  | .bool b => eqV (.bl b) x
  | .int i _ => eqV (.int i) x
  | .str z _ => eqV (.str z) x
  | _ => false
def inV (x : V) (xs : List V) : Bool := xs.any fun y => eqV y x
def rIn (K : PySem.W.Frag) (neg : Bool) : R2 := fun x y H Q => ∃ p xs, y = .ref p ∧ (SqL K H p xs ∨ SqT K H p xs) ∧ flatV x = true ∧ xs.all flatV = true ∧ Q (.bl (if neg then !inV x xs else inV x xs)) H
theorem call_len_seq : CallR X (.builtin "len") (fun xs H Q => ∃ p ys, xs = [.ref p] ∧ (SqL X.K H p ys ∨ SqT X.K H p ys) ∧ Q (.int ys.length) H) := by
  intro pins s σ H xs us Q I r h
  obtain ⟨p, ys, rfl, hq, q⟩ := h
  obtain ⟨u, rfl, rx⟩ := vals1 r
  cases rx
  have hn := line63
  rcases hq with hq | hq
  · obtain ⟨its, r', pl, hz⟩ := I.list hq
    have hlen := r'.length
    exact Calls.call_len_list pl.isList (by simp only [List.size_toArray] <;> omega) ⟨.int ys.length, H, I.tok _, ⟨s.toks + 1, by rw [List.size_toArray, hlen]⟩, q⟩
  · obtain ⟨its, r', pl, hz⟩ := I.tuple hq
    have hlen := r'.length
    exact len_tuple pl (by simp only [List.size_toArray] <;> omega) ⟨.int ys.length, H, I.tok _, ⟨s.toks + 1, by rw [List.size_toArray, hlen]⟩, q⟩
def tyV (K : PySem.W.Frag) (T : String) (x : V) (H : Hp) : Prop := match x with
  | .str _ => T = "str"
  | .int _ => T = "int"
  | .ref p => (T = "list" ∧ ∃ xs, SqL K H p xs) ∨ (T = "tuple" ∧ ∃ o, K.lookup p = some o ∧ o.cls = .type "tuple" ∧ o.dict = none) ∨
      (T = "dict" ∧ ((∃ kvs, H p = some (.dK kvs)) ∨ ∃ kvs, H p = some (.dT kvs))) ∨ (T = "set" ∧ ∃ S n, H p = some (.set S n))
  | _ => False
theorem tyV_is {pins : List (Addr × Obj)} {σ : St} {H : Hp} {s : Shared} {T : String} {x : V} {v : Value} (I : Inv X pins σ H s) (r : RelV x v) (ty : tyV X.K T x H) :
    s.TypeIs v T ∧ ∀ a, v = .ref a → ∃ ob, s.heap.get? a = some ob ∧ ob.dict = none := by
  cases x with
  | str z =>
    obtain ⟨t, rfl⟩ := r
    cases (show T = "str" from ty)
    exact ⟨typeIs_str s z t, fun _ e => nomatch e⟩
  | int i =>
    obtain ⟨t, rfl⟩ := r
    cases (show T = "int" from ty)
    exact ⟨typeIs_int s i t, fun _ e => nomatch e⟩
  | ref p =>
    cases r
    rcases ty with ⟨rfl, xs, hq⟩ | ⟨rfl, o, hk, hc, hd⟩ | ⟨rfl, hk⟩ | ⟨rfl, S, n, hk⟩
    · obtain ⟨its, _, pl, _⟩ := I.list hq
      refine ⟨pl.isList.typeIs, fun a e => ?_⟩
      cases e
      obtain ⟨o, n, e, c, hd, _⟩ := pl
      exact ⟨o, e, hd⟩
    · refine ⟨⟨o, I.kIn p o hk, hc⟩, fun a e => ?_⟩
      cases e
      exact ⟨o, I.kIn _ o hk, hd⟩
    · have z : ∃ o, s.heap.get? p = some o ∧ o.ExactDict := by
        rcases hk with ⟨kvs, hk⟩ | ⟨kvs, hk⟩
        · obtain ⟨_, _, _, _, o, _, _, e, ex, _⟩ := I.hok p _ hk
          exact ⟨o, e, ex⟩
        · obtain ⟨_, _, _, _, o, _, _, e, ex, _⟩ := I.hok p _ hk
          exact ⟨o, e, ex⟩
      obtain ⟨o, e, ex⟩ := z
      refine ⟨⟨o, e, ex.1⟩, fun a e2 => ?_⟩
      cases e2
      exact ⟨o, e, ex.2.1⟩
    · obtain ⟨o, _, _, _, e, ex, _⟩ := I.hok p _ hk
      refine ⟨⟨o, e, ex.1⟩, fun a e2 => ?_⟩
      cases e2
      exact ⟨o, e, ex.2.1⟩
  | _ => exact False.elim ty
def tBM0 (K : PySem.W.Frag) (T : String) (r : V → List V → Hp → VK → Prop) (to : TE) : TE := fun σ H Q => to σ H fun x H1 => tyV K T x H1 ∧ r x [] H1 Q
def tBM (K : PySem.W.Frag) (T : String) (r : V → List V → Hp → VK → Prop) (to : TE) (t : TA) : TE := fun σ H Q => to σ H fun x H1 => tyV K T x H1 ∧ t σ H1 fun xs H2 => r x xs H2 Q
variable {o e : Expr} {es : List Expr} {to : TE} {t : TA} {name : Str} {apos cpos : Pos} {T id : String} {r : V → List V → Hp → VK → Prop}
theorem pe_bm (pa : PlainAttrs T) (slot : Slot T name id) (hty : typeOf (.builtin id) = pure (.type "method_descriptor")) (hm : MtR X id r) (ho : PE X o to) (ha : PA X (e :: es) t)
    (hbase : attributeBase o name X.env (eval o X.env) = eval o X.env := by rfl)
    (hfew : ((backTo cpos (starEach (e :: es) X.env)).all (fun x => !x.1) && (backToKw cpos (keywordEach [] X.env)).all (fun x => x.1.isSome)
      && decide ((e :: es).length + ([] : List Keyword).length + (if ([] : List Keyword).isEmpty then 0 else 1) < 30)) = true := by rfl)
    (hline : (apos.endLine == cpos.line) = true := by rfl) (hs : starEach (e :: es) X.env = (false, eval e X.env) :: starEach es X.env := by rfl) (hplain : (backTo cpos (starEach es X.env)).any (·.1) = false := by rfl) :
    PE X (.Call (.Attribute o name apos) (e :: es) [] cpos) (tBM X.K T r to t) := by
  intro pins s σ H Q I h
  refine wpAny_Call_method_late hbase hfew hline rfl (thn (ho pins s σ H _ I h) fun v s1 ⟨x, H1, I1, r1, ty, q1⟩ => ?_)
  obtain ⟨h1, h2⟩ := tyV_is I1 r1 ty
  refine ⟨T, id, pa, slot, hty, h1, h2, ?_⟩
  have hA := ha cpos pins s1 σ H1 _ I1 q1
  rw [hs] at hA ⊢
  refine Calls.callWith_builtin (by show (false || (backTo cpos (starEach es X.env)).any (·.1)) = false; rw [hplain] <;> rfl) (Calls.evalArgs_plain ?_)
  exact thn hA fun us s2 ⟨vs, H2, I2, r2, q2⟩ => hm pins s2 σ H2 x vs v us Q I2 r1 r2 q2
/- xs.append(e), list.index on a module's tuple .. are MtR facts of 06m -/
end
end L2
namespace L2
open PySem PySem.Spec PyProof.Rows
def MtM (X : Cx) (id : String) (r : V → List V → Hp → VK → Prop) : Prop :=
  ∀ (pins : List (Addr × Obj)) (s : Shared) (σ : St) (H : Hp) (x : V) (xs : List V) (v : Value) (us : List Value) (Q : VK), Inv X pins σ H s → RelV x v → Vals xs us → r x xs H Q →
    wpAny (model X.prog X.w) X.A (call (.builtin id) (v :: us)) (EP X pins σ Q) X.xe s
theorem Vals.one : ∀ {x : V} {us : List Value}, Vals [x] us → ∃ u, us = [u] ∧ RelV x u
  | _, _, .cons r .nil => ⟨_, rfl, r⟩
theorem Vals.rep {xs : List V} {us : List Value} (h : Vals xs us) : ∀ k : Nat, Vals (List.replicate k xs).flatten (List.replicate k us).flatten
  | 0 => .nil
  | k + 1 => by
    rw [List.replicate_succ, List.replicate_succ, List.flatten_cons, List.flatten_cons]
    exact Vals.append h (Vals.rep h k)
theorem foldl_rep (its : List Value) : ∀ (k : Nat) (acc : List Value),
    List.foldl (fun x1 x2 => x1 ++ x2) acc.toArray (List.replicate k its.toArray) = (acc ++ (List.replicate k its).flatten).toArray
  | 0, acc => by simp
  | k + 1, acc => by
    have e : acc.toArray ++ its.toArray = (acc ++ its).toArray := by simp
    have e2 : (acc ++ its) ++ (List.replicate k its).flatten = acc ++ (List.replicate (k + 1) its).flatten := by
      rw [List.replicate_succ, List.flatten_cons, List.append_assoc]
    rw [← e2, ← foldl_rep its k (acc ++ its), ← e, List.replicate_succ, List.foldl_cons]
section
variable {X : Cx} {pins : List (Addr × Obj)} {σ : St} {H : Hp} {s : Shared} {l b : Addr} {xs ys zs : List V}
theorem Inv.lset {its its' : List Value} {n : Nat} {f : Array Value → Array Value} {t' : Nat} (I : Inv X pins σ H s) (hH : H l = some (.lst xs))
    (e : s.heap.get? l = some { cls := .type "list", data := .seq its.toArray n }) (hf : f its.toArray = its'.toArray) (hv : Vals ys its') (hz : ys.length ≤ sizeLine) :
    Inv X pins σ (upd H l (.lst ys)) { s with heap := s.heap.update l (Obj.mapSeq f), toks := t' } := by
  have q := PySem.IsL.update e f
  rw [hf] at q
  refine I.write (x := l) (e := l) (by rw [hH]; exact trivial) (.inl rfl) (fun b' u hb hu => (Heap.get?_update_other s.heap (Obj.mapSeq f) (Ne.symm hb)).trans hu) ⟨_, q⟩ ?_
  exact ⟨hz, its', _, hv, q⟩
theorem Inv.lnew {its : List Value} {t' : Nat} (I : Inv X pins σ H s) (hv : Vals ys its) (hz : ys.length ≤ sizeLine) :
    Inv X pins σ (upd H s.heap.objs.size (.lst ys)) { s with heap := s.heap.push { cls := .type "list", data := .seq its.toArray }, toks := t' } :=
  I.laid (fun _ _ q => Heap.get?_push_of_some _ q) (Nat.le_refl _) ⟨hz, its, 0, hv, Heap.get?_push_size _ rfl⟩
theorem Inv.fresh (I : Inv X pins σ H s) : H s.heap.objs.size = none := I.hok.fresh (Nat.le_refl _)
theorem Inv.lstM (I : Inv X pins σ H s) (hH : H l = some (.lst xs)) : xs.length ≤ sizeLine ∧ ∃ (its : List Value) (n : Nat), Vals xs its ∧ xs.length = its.length ∧ s.heap.get? l = some { cls := .type "list", data := .seq its.toArray n } := by
  obtain ⟨z, its, n, r, e⟩ := I.hok l _ hH
  exact ⟨z, its, n, r, r.length, e⟩
theorem notLongL {n : Nat} (h : n ≤ sizeLine) : Builtin.List.listTooLong n = false := by
  unfold Builtin.List.listTooLong
  exact decide_eq_false (by omega)
end
section
variable {X : Cx}
def rAppend : V → List V → Hp → VK → Prop := fun x vs H Q => ∃ l xs y, x = .ref l ∧ vs = [y] ∧ H l = some (.lst xs) ∧ xs.length < sizeLine ∧ Q .non (upd H l (.lst (xs ++ [y])))
theorem mt_append : MtM X "list.append" rAppend := by
  intro pins s σ H x vs v us Q I rx rv h
  obtain ⟨l, xs, y, rfl, rfl, hH, hz, q⟩ := h
  cases rx
  obtain ⟨u, rfl, ru⟩ := rv.one
  obtain ⟨z, its, n, r, hl, e⟩ := I.lstM hH
  refine call_meets F.slot_list_append ⟨_, e, rfl⟩ F.entry_list_append (F.args_list_append_2 _ _) (PySem.list_append l its.toArray n u (by rw [List.size_toArray]; omega)) ⟨e, ?_⟩
  refine ⟨.non, _, I.lset (its' := its ++ [u]) hH e (by simp) (r.append (.cons ru .nil)) ?_, rfl, q⟩
  rw [List.length_append, List.length_singleton]
  omega
def rExtend : V → List V → Hp → VK → Prop := fun x vs H Q => ∃ l b xs zs, x = .ref l ∧ vs = [.ref b] ∧ H l = some (.lst xs) ∧ H b = some (.lst zs) ∧ xs.length + zs.length ≤ sizeLine ∧ Q .non (upd H l (.lst (xs ++ zs)))
theorem mt_extend : MtM X "list.extend" rExtend := by
  intro pins s σ H x vs v us Q I rx rv h
  obtain ⟨l, b, xs, zs, rfl, rfl, hH, hB, hz, q⟩ := h
  cases rx
  obtain ⟨u, rfl, ru⟩ := rv.one
  cases ru
  obtain ⟨z, its, n, r, hl, e⟩ := I.lstM hH
  obtain ⟨z2, its2, n2, r2, hl2, e2⟩ := I.lstM hB
  have hsz : its.toArray.size + its2.toArray.size ≤ sizeLine := by rw [List.size_toArray, List.size_toArray]; omega
  have hlong : ¬ (!its.toArray.isEmpty && Builtin.List.listTooLong (its.toArray.size + its2.toArray.size)) = true := by
    rw [notLongL hsz, Bool.and_false]
    exact Bool.false_ne_true
  refine call_meets F.slot_list_extend ⟨_, e, rfl⟩ F.entry_list_extend (F.args_list_extend_2 _ _)
    (AutoSeq1.list_extend_list_list_0 l its.toArray n b its2.toArray n2 hlong (by rw [List.size_toArray]; omega) (by omega)) ⟨e, e2, ?_⟩
  refine ⟨.non, _, I.lset (its' := its ++ its2) hH e (by simp) (r.append r2) ?_, rfl, q⟩
  rw [List.length_append]
  omega
def rPop : V → List V → Hp → VK → Prop := fun x vs H Q => ∃ l xs y, x = .ref l ∧ vs = [] ∧ H l = some (.lst xs) ∧ xs[xs.length - 1]? = some y ∧ Q y (upd H l (.lst xs.dropLast))
def rPopAt : V → List V → Hp → VK → Prop := fun x vs H Q => ∃ l xs i k y, x = .ref l ∧ vs = [.int i] ∧ H l = some (.lst xs) ∧ -(2 ^ 63) ≤ i ∧ i < 2 ^ 63 ∧ seqIndex? i xs.length = some k ∧ xs[k]? = some y ∧ Q y (upd H l (.lst (xs.eraseIdx k)))
def rReverse : V → List V → Hp → VK → Prop := fun x vs H Q => ∃ l xs, x = .ref l ∧ vs = [] ∧ H l = some (.lst xs) ∧ Q .non (upd H l (.lst xs.reverse))
def rClear : V → List V → Hp → VK → Prop := fun x vs H Q => ∃ l xs, x = .ref l ∧ vs = [] ∧ H l = some (.lst xs) ∧ Q .non (upd H l (.lst []))
def rCat : R2 := fun x y H Q => ∃ l b xs zs, x = .ref l ∧ y = .ref b ∧ H l = some (.lst xs) ∧ H b = some (.lst zs) ∧ xs.length + zs.length ≤ sizeLine ∧ ∀ p, H p = none → Q (.ref p) (upd H p (.lst (xs ++ zs)))
theorem op_cat : OpR X (binaryOp .Add) rCat := by
  intro pins s σ H x y v u Q I rx ry h
  obtain ⟨l, b, xs, zs, rfl, rfl, hH, hB, hz, q⟩ := h
  cases rx
  cases ry
  obtain ⟨z, its, n, r, hl, e⟩ := I.lstM hH
  obtain ⟨z2, its2, n2, r2, hl2, e2⟩ := I.lstM hB
  refine PySem.P.add_list e e2 ?_ (by rw [List.size_toArray, List.size_toArray]; omega)
  have ea : its.toArray ++ its2.toArray = (its ++ its2).toArray := by simp
  rw [ea]
  exact ⟨.ref _, _, I.lnew (t' := s.toks) (r.append r2) (by rw [List.length_append]; omega), rfl, q _ I.fresh⟩
def rRep : R2 := fun x y H Q => ∃ l k xs, x = .ref l ∧ y = .int k ∧ H l = some (.lst xs) ∧ -(2 ^ 63) ≤ k ∧ k < 2 ^ 63 ∧ xs.length * k.toNat ≤ sizeLine ∧
  ∀ p, H p = none → Q (.ref p) (upd H p (.lst (List.replicate k.toNat xs).flatten))
theorem len_rep {α : Type} (xs : List α) (k : Nat) : (List.replicate k xs).flatten.length = k * xs.length := by
  induction k with
  | zero => simp
  | succ k ih => rw [List.replicate_succ, List.flatten_cons, List.length_append, ih, Nat.succ_mul, Nat.add_comm]
theorem op_rep : OpR X (binaryOp .Mult) rRep := by
  intro pins s σ H x y v u Q I rx ry h
  obtain ⟨l, k, xs, rfl, rfl, hH, h1, h2, hz, q⟩ := h
  cases rx
  obtain ⟨t, rfl⟩ := ry
  obtain ⟨z, its, n, r, hl, e⟩ := I.lstM hH
  have hlen : its.toArray.size * k.toNat ≤ sizeLine := by rw [List.size_toArray, ← hl]; exact hz
  have hcap : ¬ its.toArray.size * k.toNat > (2 ^ 63 - 1) / 8 := by
    have : (sizeLine : Nat) ≤ (2 ^ 63 - 1) / 8 := by decide
    omega
  have hfit : ¬ (!Builtin.List.listFitsIndex k) = true := by
    rw [fitsIndex_both h1 h2]
    exact Bool.false_ne_true
  have hlong : ¬ Builtin.List.listTooLong (its.toArray.size * k.toNat) = true := by
    rw [notLongL hlen]
    exact Bool.false_ne_true
  have hnew : List.foldl (fun x1 x2 => x1 ++ x2) #[] (List.replicate (if its.toArray.isEmpty = true then 0 else k.toNat) its.toArray) = (List.replicate k.toNat its).flatten.toArray := by
    have f0 : ∀ m : Nat, List.foldl (fun x1 x2 => x1 ++ x2) #[] (List.replicate m its.toArray) = (List.replicate m its).flatten.toArray := fun m => by
      have := foldl_rep its m []
      rw [List.nil_append] at this
      exact this
    rw [f0]
    cases its with
    | nil => simp
    | cons a r' => rw [if_neg (by simp)]
  refine wpAny_binaryOp_repeat_ref (T := "list") (U := "int") (by decide) ⟨_, e, rfl⟩ (fun s' => typeIs_int s' k t) noFill_list_mul F.fills_int_mul F.slot_int_rmul repeat_list F.slot_int_index.lookup
    (call_meets F.slot_int_rmul (typeIs_int s k t) F.entry_int_rmul (F.args_int_rmul_2 _ _) (int___rmul___int_list k t l its.toArray n)
      ⟨e, rfl, ⟨_, e, rfl⟩, call_meets F.slot_list_mul ⟨_, e, rfl⟩ F.entry_list_mul (F.args_list_mul_2 _ _) (AutoListH.list___mul___list_int_3 l its.toArray n k t hfit hcap hlong) ⟨e, ?_⟩⟩)
  rw [hnew]
  exact ⟨.ref _, _, I.lnew (t' := s.toks) (r.rep k.toNat) (by rw [len_rep, Nat.mul_comm]; exact hz), rfl, q _ I.fresh⟩
end
section
variable {prog : Program} {w : World} {A : Around} {E : Value → Shared → Prop} {s : Shared}
end
section
variable {X : Cx}
end
end L2
namespace L2
open PySem PySem.Spec PyProof.Rows
theorem Vals.ints : ∀ {ns : List Int} {us : List Value}, Vals (ns.map V.int) us → IntsAre us ns
  | [], us, h => by
    rw [List.map_nil] at h
    cases h
    exact IntsAre.nil
  | n :: ns, us, h => by
    rw [List.map_cons] at h
    cases h with
    | cons r t =>
      obtain ⟨k, rfl⟩ := r
      exact IntsAre.cons n k (Vals.ints t)
theorem vals_of_ints : ∀ {us : List Value} {ns : List Int}, IntsAre us ns → Vals (ns.map V.int) us
  | _, _, .nil => by rw [List.map_nil]; exact Paired.nil
  | _, _, .cons n t h => by rw [List.map_cons]; exact Paired.cons (show RelV (V.int n) (Value.int n t) from ⟨t, rfl⟩) (vals_of_ints h)
theorem Vals.ref1 {a : Addr} {us : List Value} (r : Vals [V.ref a] us) : us = [Value.ref a] := by
  cases r with
  | cons r t =>
    cases t
    cases r
    rfl
section
variable {prog : Program} {w : World} {A : Around} {E : Value → Shared → Prop} {s : Shared} {l : Addr} {its : List Value} {ns : List Int} {Q : Value → Shared → Prop}
theorem sum_raw (hh : A.handled = none) (hl : s.heap.IsList l its.toArray) (hi : IntsAre its ns)
    (h : ∀ h' tk t', (∀ b o, s.heap.get? b = some o → h'.get? b = some o) → Q (.int ns.sum t') { s with heap := h', toks := tk }) : wpAny (model prog w) A (call (.builtin "sum") [.ref l]) Q E s := by
  obtain ⟨xs, e⟩ := hi.allInts.items
  have hn : numsOf (intItems xs).toList = ns := by rw [← e]; exact hi.numsOf
  rw [nums_intItems] at hn
  rw [e] at hl
  refine PySem.sum_intListG hh hl fun h' tk t' hk => ?_
  have := h h' tk t' hk
  rw [preSum_eq, List.take_of_length_le (by simp), hn]; exact this
end
section
variable {X : Cx}
def rSum (K : PySem.W.Frag) : List V → Hp → VK → Prop := fun vs H Q => ∃ (a : Addr) (ns : List Int), vs = [V.ref a] ∧ SqL K H a (ns.map V.int) ∧ Q (.int ns.sum) H
def rMax (K : PySem.W.Frag) : List V → Hp → VK → Prop := fun vs H Q => ∃ (a : Addr) (ns : List Int), vs = [V.ref a] ∧ SqL K H a (ns.map V.int) ∧ 0 < ns.length ∧ ∀ m, m ∈ ns → (∀ y, y ∈ ns → y ≤ m) → Q (.int m) H
def rMin (K : PySem.W.Frag) : List V → Hp → VK → Prop := fun vs H Q => ∃ (a : Addr) (ns : List Int), vs = [V.ref a] ∧ SqL K H a (ns.map V.int) ∧ 0 < ns.length ∧ ∀ m, m ∈ ns → (∀ y, y ∈ ns → m ≤ y) → Q (.int m) H
theorem cr_sum (hc : X.calm = true) : CallR X (.builtin "sum") (rSum X.K) := by
  intro pins s σ H vs us Q I r h
  obtain ⟨a, ns, rfl, hs, q⟩ := h
  obtain ⟨its, rv, hl, _⟩ := I.list hs
  rw [Vals.ref1 r]
  exact sum_raw (I.ok.hd hc) hl.isList rv.ints fun h' tk t' hk => ⟨.int _, H, I.kept hk, ⟨_, rfl⟩, q⟩
def rSorted (K : PySem.W.Frag) : List V → Hp → VK → Prop := fun vs H Q => ∃ (a : Addr) (ns : List Int), vs = [V.ref a] ∧ SqL K H a (ns.map V.int) ∧ ns.length < 64 ∧
  ∀ (ns' : List Int) (p : Addr), ns'.Perm ns → ns'.Pairwise (· ≤ ·) → H p = none → Q (.ref p) (upd H p (.lst (ns'.map V.int)))
def rSortedS (K : PySem.W.Frag) : List V → Hp → VK → Prop := fun vs H Q => ∃ (a : Addr) (xs : List Str), vs = [V.ref a] ∧ SqL K H a (xs.map V.str) ∧ xs.length < 64 ∧
  ∀ (ys : List Str) (p : Addr), ys.Perm xs → sortedS ys = true → H p = none → Q (.ref p) (upd H p (.lst (ys.map V.str)))
def rSort : V → List V → Hp → VK → Prop := fun x xs H Q => ∃ (a : Addr) (ns : List Int), x = V.ref a ∧ xs = [] ∧ H a = some (.lst (ns.map V.int)) ∧ ns.length < 64 ∧
  ∀ ns' : List Int, ns'.Perm ns → ns'.Pairwise (· ≤ ·) → Q .non (upd H a (.lst (ns'.map V.int)))
end
section
variable {X : Cx}
def rIndex (K : PySem.W.Frag) : V → List V → Hp → VK → Prop := fun x xs H Q => ∃ (a : Addr) (ys : List V) (y : V) (j : Nat) (z : V), x = V.ref a ∧ xs = [y] ∧ SqL K H a ys ∧ flatV y = true ∧ ys.all flatV = true ∧ ys[j]? = some z ∧ eqV z y = true ∧
  (∀ (m : Nat) (z' : V), m < j → ys[m]? = some z' → eqV z' y = false) ∧ Q (.int (j : Nat)) H
end
section
variable {X : Cx}
end
section
variable {X : Cx}
def rAny (K : PySem.W.Frag) : List V → Hp → VK → Prop := fun vs H Q => ∃ (a : Addr) (bs : List Bool), vs = [V.ref a] ∧ SqL K H a (bs.map V.bl) ∧ Q (.bl (bs.any id)) H
def rAll (K : PySem.W.Frag) : List V → Hp → VK → Prop := fun vs H Q => ∃ (a : Addr) (bs : List Bool), vs = [V.ref a] ∧ SqL K H a (bs.map V.bl) ∧ Q (.bl (bs.all id)) H
end
mutual
inductive Dp (K : PySem.W.Frag) (H : Hp) : V → PyData → Prop
  | non : Dp K H .non .none
  | bl (b : Bool) : Dp K H (.bl b) (.bool b)
  | int (i : Int) : Dp K H (.int i) (.int i)
  | str (x : Str) : Dp K H (.str x) (.str x)
  | lst {a : Addr} {xs : List V} {ds : List PyData} : SqL K H a xs → DpAll K H xs ds → Dp K H (.ref a) (.list ds)
  | tup {a : Addr} {xs : List V} {ds : List PyData} : SqT K H a xs → DpAll K H xs ds → Dp K H (.ref a) (.tuple ds)
inductive DpAll (K : PySem.W.Frag) (H : Hp) : List V → List PyData → Prop
  | nil : DpAll K H [] []
  | cons {v : V} {vs : List V} {d : PyData} {ds : List PyData} : Dp K H v d → DpAll K H vs ds → DpAll K H (v :: vs) (d :: ds)
end
section
variable {X : Cx} {pins : List (Addr × Obj)} {σ : St} {H : Hp} {s : Shared}
mutual
theorem Dp.reads (I : Inv X pins σ H s) : ∀ (d : PyData) (v : V) (u : Value), Dp X.K H v d → RelV v u → ∃ as, Reads s.heap u d as
  | .none, _, _, h, r => by
    cases h
    cases r
    exact ⟨_, Reads.none⟩
  | .bool b, _, _, h, r => by
    cases h
    cases r
    exact ⟨_, Reads.bool b⟩
  | .int i, _, _, h, r => by
    cases h
    obtain ⟨t, rfl⟩ := r
    exact ⟨_, Reads.int i t⟩
  | .str x, _, _, h, r => by
    cases h
    obtain ⟨t, rfl⟩ := r
    exact ⟨_, Reads.str x t⟩
  | .list ds, _, _, h, r => by
    cases h with
    | lst hs ha =>
      cases r
      obtain ⟨its, rv, ⟨o, n, ho, hc, _, hd⟩, _⟩ := I.list hs
      obtain ⟨as, hr⟩ := Dp.readsAll I ds _ its ha rv
      exact ⟨_, Reads.list ho hc hd hr⟩
  | .tuple ds, _, _, h, r => by
    cases h with
    | tup hs ha =>
      cases r
      obtain ⟨its, rv, ⟨o, ho, hc, n, hd⟩, _⟩ := I.tuple hs
      obtain ⟨as, hr⟩ := Dp.readsAll I ds _ its ha rv
      exact ⟨_, Reads.tuple ho hc hd hr⟩
  | .dict _, _, _, h, _ => by cases h
theorem Dp.readsAll (I : Inv X pins σ H s) : ∀ (ds : List PyData) (vs : List V) (us : List Value), DpAll X.K H vs ds → Vals vs us → ∃ as, ReadsAll s.heap us ds as
  | [], _, _, h, r => by
    cases h
    cases r
    exact ⟨_, ReadsAll.nil⟩
  | d :: ds, _, _, h, r => by
    cases h with
    | cons h1 h2 =>
      cases r with
      | cons r1 r2 =>
        obtain ⟨as, q1⟩ := Dp.reads I d _ _ h1 r1
        obtain ⟨bs, q2⟩ := Dp.readsAll I ds _ _ h2 r2
        exact ⟨_, ReadsAll.cons q1 q2⟩
end
end
section
variable {X : Cx}
def rEqD (K : PySem.W.Frag) : R2 := fun x y H Q => ∃ d e, Dp K H x d ∧ Dp K H y e ∧ SeqAt.shaped d = true ∧ SeqAt.shaped e = true ∧ Q (.bl (PyData.eqv d e)) H
def rNeD (K : PySem.W.Frag) : R2 := fun x y H Q => ∃ d e, Dp K H x d ∧ Dp K H y e ∧ SeqAt.shaped d = true ∧ SeqAt.shaped e = true ∧ Q (.bl (!PyData.eqv d e)) H
end
end L2
namespace L2
open PySem PySem.Spec PyProof.Rows
abbrev CellAt (h : Heap) (c : Addr) (v : Option Value) : Prop := h.IsCell c v
def relS (scope sc : Scope) : Scope :=
  { scope with names := scope.names.map fun (n, k) => if (k == .free && sc.kind == .function && sc.names.lookup n == some .cell) then (n, .cell) else (n, k) }
def cloFrom (cells : List (Str × Addr)) : List (Str × NameKind) → List (Str × Addr) → List (Str × Addr)
  | [], acc => acc
  | (n, k) :: r, acc => if k == .free then cloFrom cells r ((n, (cells.lookup n).getD 0) :: acc) else cloFrom cells r acc
theorem closure_loop (env : Env) (f : Str × NameKind → List (Str × Addr) → Sem (ForInStep (List (Str × Addr))))
    (hf : ∀ n k c, f (n, k) c = if k == .free then (do let a ← cellOf env n; pure (.yield ((n, a) :: c))) else pure (.yield c)) :
    ∀ (names : List (Str × NameKind)) (acc : List (Str × Addr)), (∀ y ∈ names, y.2 = .free → ∃ c, env.cells.lookup y.1 = some c) → forIn names acc f = pure (cloFrom env.cells names acc)
  | [], acc, _ => by rw [List.forIn_nil]; rfl
  | (n, k) :: r, acc, h => by
    rw [List.forIn_cons, hf]
    have ih := fun acc => closure_loop env f hf r acc fun y hy => h y (List.mem_cons_of_mem _ hy)
    unfold cloFrom
    by_cases hk : (k == NameKind.free) = true
    · rw [if_pos hk, if_pos hk]
      obtain ⟨c, hc⟩ := h (n, k) List.mem_cons_self (by simpa using hk)
      have e : cellOf env n = pure c := by unfold cellOf; rw [hc]
      rw [e]
      have e2 : (env.cells.lookup n).getD 0 = c := by rw [hc]; rfl
      rw [e2]
      exact ih _
    · rw [if_neg hk, if_neg hk]
      exact ih _
theorem closure_ok {scope : Scope} {env : Env} (h : ∀ y ∈ scope.names, y.2 = .free → ∃ c, env.cells.lookup y.1 = some c) : closureFor scope env = pure (cloFrom env.cells scope.names []) := by
  simp only [closureFor]
  rw [closure_loop env _ (fun n k c => rfl) scope.names [] h]
  rfl
theorem mem_lookup {α : Type} : ∀ {l : List (Str × α)} {n : Str} {c : α}, (n, c) ∈ l → ∃ c', l.lookup n = some c'
  | (k, v) :: r, n, c, h => by
    rw [List.lookup_cons]
    cases hb : n == k with
    | true => exact ⟨_, rfl⟩
    | false =>
      rcases List.mem_cons.mp h with e | h
      · cases e; simp at hb
      · exact mem_lookup h
theorem cloFrom_mem {cells : List (Str × Addr)} : ∀ {names : List (Str × NameKind)} {acc : List (Str × Addr)} {n : Str} {c : Addr}, (n, c) ∈ cloFrom cells names acc → (n, c) ∈ acc ∨ ((n, .free) ∈ names ∧ c = (cells.lookup n).getD 0)
  | [], _, _, _, h => .inl h
  | (m, k) :: r, acc, n, c, h => by
    unfold cloFrom at h
    split at h
    · rename_i hk
      have hk : k = .free := by simpa using hk
      rcases cloFrom_mem h with h | ⟨h1, h2⟩
      · rcases List.mem_cons.mp h with e | h
        · cases e; exact .inr ⟨hk ▸ List.mem_cons_self, rfl⟩
        · exact .inl h
      · exact .inr ⟨List.mem_cons_of_mem _ h1, h2⟩
    · rcases cloFrom_mem h with h | ⟨h1, h2⟩
      · exact .inl h
      · exact .inr ⟨List.mem_cons_of_mem _ h1, h2⟩
theorem cloFrom_acc {cells : List (Str × Addr)} : ∀ {names : List (Str × NameKind)} {acc : List (Str × Addr)} {p : Str × Addr}, p ∈ acc → p ∈ cloFrom cells names acc
  | [], _, _, h => h
  | (m, k) :: r, acc, p, h => by
    unfold cloFrom
    split
    · exact cloFrom_acc (List.mem_cons_of_mem _ h)
    · exact cloFrom_acc h
theorem cloFrom_has {cells : List (Str × Addr)} : ∀ {names : List (Str × NameKind)} {acc : List (Str × Addr)} {n : Str}, (n, .free) ∈ names → (n, (cells.lookup n).getD 0) ∈ cloFrom cells names acc
  | (m, k) :: r, acc, n, h => by
    unfold cloFrom
    rcases List.mem_cons.mp h with e | h
    · cases e
      exact cloFrom_acc List.mem_cons_self
    · split
      · exact cloFrom_has h
      · exact cloFrom_has h
theorem cells_mem : ∀ {names : List (Str × NameKind)} {h : Heap} {acc : List (Str × Addr)} {x : Str} {c : Addr}, (x, c) ∈ cellsFrom h.objs.size names acc →
    (x, c) ∈ acc ∨ ((x, .cell) ∈ names ∧ h.objs.size ≤ c ∧ CellAt (pushCells h names) c none)
  | [], _, _, _, _, h => .inl h
  | (n, k) :: r, h, acc, x, c, hm => by
    unfold cellsFrom at hm
    unfold pushCells
    split at hm
    · rename_i hk
      rw [if_pos hk]
      have hk : k = .cell := by simpa using hk
      rw [← Heap.size_push h { cls := .type "cell", data := .cell none }] at hm
      rcases cells_mem hm with hm | ⟨h1, h2, h3⟩
      · rcases List.mem_cons.mp hm with e | hm
        · cases e
          exact .inr ⟨hk ▸ List.mem_cons_self, Nat.le_refl _, _, pushCells_keeps r _ _ _ (Heap.get?_push_size _ rfl), rfl⟩
        · exact .inl hm
      · rw [Heap.size_push] at h2
        exact .inr ⟨List.mem_cons_of_mem _ h1, Nat.le_of_succ_le h2, h3⟩
    · rename_i hk
      rw [if_neg hk]
      rcases cells_mem hm with hm | ⟨h1, h2, h3⟩
      · exact .inl hm
      · exact .inr ⟨List.mem_cons_of_mem _ h1, h2, h3⟩
theorem cells_acc : ∀ {names : List (Str × NameKind)} {n : Nat} {acc : List (Str × Addr)} {p : Str × Addr}, p ∈ acc → p ∈ cellsFrom n names acc
  | [], _, _, _, h => h
  | (m, k) :: r, n, acc, p, h => by
    unfold cellsFrom
    split
    · exact cells_acc (List.mem_cons_of_mem _ h)
    · exact cells_acc h
theorem cells_has : ∀ {names : List (Str × NameKind)} {n : Nat} {acc : List (Str × Addr)} {x : Str}, (x, .cell) ∈ names → ∃ c, (x, c) ∈ cellsFrom n names acc
  | (m, k) :: r, n, acc, x, h => by
    unfold cellsFrom
    rcases List.mem_cons.mp h with e | h
    · cases e
      exact ⟨n, cells_acc List.mem_cons_self⟩
    · split
      · exact cells_has h
      · exact cells_has h
theorem cells_inj : ∀ {names : List (Str × NameKind)} {h : Heap} {acc : List (Str × Addr)} {x y : Str} {c : Addr}, (∀ p ∈ acc, p.2 < h.objs.size) → (∀ x y c, (x, c) ∈ acc → (y, c) ∈ acc → x = y) →
    (x, c) ∈ cellsFrom h.objs.size names acc → (y, c) ∈ cellsFrom h.objs.size names acc → x = y
  | [], _, _, _, _, _, _, hi, h1, h2 => hi _ _ _ h1 h2
  | (n, k) :: r, h, acc, x, y, c, hl, hi, h1, h2 => by
    unfold cellsFrom at h1 h2
    split at h1
    · rename_i hk
      rw [if_pos hk] at h2
      rw [← Heap.size_push h { cls := .type "cell", data := .cell none }] at h1 h2
      refine cells_inj (h := h.push _) (fun p hp => ?_) (fun x y c a b => ?_) h1 h2
      · rw [Heap.size_push]
        rcases List.mem_cons.mp hp with rfl | hp
        · exact Nat.lt_succ_self _
        · exact Nat.lt_succ_of_lt (hl p hp)
      · rcases List.mem_cons.mp a with e | a <;> rcases List.mem_cons.mp b with e' | b
        · cases e; cases e'; rfl
        · cases e; exact absurd (hl _ b) (Nat.lt_irrefl _)
        · cases e'; exact absurd (hl _ a) (Nat.lt_irrefl _)
        · exact hi _ _ _ a b
    · rename_i hk
      rw [if_neg hk] at h2
      exact cells_inj hl hi h1 h2
theorem newEnv_comp {M : Model} {A : Around} {E : Value → Shared → Prop} {s : Shared} {scope : Scope} {globals : Addr} {closure : List (Str × Addr)} {qual : Str} {func : Option Addr} {code : Value} {around : Env} {builtins : Addr} {Q : Env → Shared → Prop}
    (h : Q (newEnv scope s.heap.objs.size globals (cellsFrom (s.heap.objs.size + 1) scope.names closure) qual func code (some around) builtins)
      { s with heap := pushCells (s.heap.push { cls := .type "dict", data := .dict #[] }) scope.names }) :
    wpAny M A (newFunctionEnv scope globals closure [] qual func code (some around) builtins) Q E s := by
  simp only [newFunctionEnv, Option.isSome_some, if_true]
  refine wpAny_bind (wpAny_alloc ?_)
  refine wpAny_bind (wpAny_layCells _ (fun n k c => rfl) scope.names closure _ _ ?_)
  rw [show ({ s with heap := s.heap.push { cls := .type "dict", data := .dict #[] } } : Shared).heap.objs.size = s.heap.objs.size + 1 from Heap.size_push ..]
  rw [List.forIn_nil]
  exact wpAny_bind (wpAny_pure (wpAny_pure h))
theorem lookup_relS {sc : Scope} : ∀ {names : List (Str × NameKind)} {x : Str} {k : NameKind},
    (names.map fun (n, k) => if (k == NameKind.free && sc.kind == .function && sc.names.lookup n == some .cell) then (n, NameKind.cell) else (n, k)).lookup x = some k →
    ∃ k', names.lookup x = some k' ∧ (k = k' ∨ (k' = .free ∧ k = .cell))
  | [], _, _, h => by simp at h
  | (n, k₀) :: r, x, k, h => by
    have ih := @lookup_relS sc r x k
    have h' : List.lookup x ((if (k₀ == NameKind.free && sc.kind == .function && sc.names.lookup n == some .cell) = true then (n, NameKind.cell) else (n, k₀)) :: (r.map _)) = some k := h
    cases hx : x == n with
    | true =>
      simp only [List.lookup_cons, hx]
      by_cases hc : (k₀ == NameKind.free && sc.kind == .function && sc.names.lookup n == some .cell) = true
      · rw [if_pos hc] at h'
        simp only [List.lookup_cons, hx] at h'
        cases h'
        simp only [Bool.and_eq_true, beq_iff_eq] at hc
        exact ⟨k₀, rfl, .inr ⟨hc.1.1, rfl⟩⟩
      · rw [if_neg hc] at h'
        simp only [List.lookup_cons, hx] at h'
        cases h'
        exact ⟨_, rfl, .inl rfl⟩
    | false =>
      simp only [List.lookup_cons, hx]
      by_cases hc : (k₀ == NameKind.free && sc.kind == .function && sc.names.lookup n == some .cell) = true
      · rw [if_pos hc] at h'
        simp only [List.lookup_cons, hx] at h'
        exact ih h'
      · rw [if_neg hc] at h'
        simp only [List.lookup_cons, hx] at h'
        exact ih h'
structure BlkOk (N : List Str) (sc scope : Scope) (own : List (Str × Nat)) : Prop where
  kind : scope.kind = .function
  uniq : ∀ y ∈ scope.names, scope.names.lookup y.1 = some y.2
  ix : ∀ p ∈ own, N[p.2]? = some p.1
  free : ∀ y ∈ scope.names, y.2 = .free → sc.names.lookup y.1 = some .cell ∨ sc.names.lookup y.1 = some .free
  own : ∀ y ∈ scope.names, y.2 = .local ∨ y.2 = .cell → y.1 ∈ own.map (·.1) ∨ y.1 ∉ N
def wipe (σ : St) : List Nat → St
  | [] => σ
  | v :: vs => (wipe σ vs).set v none
theorem wipe_length (σ : St) : ∀ vs : List Nat, (wipe σ vs).length = σ.length
  | [] => rfl
  | v :: vs => by unfold wipe; rw [List.length_set, wipe_length σ vs]
theorem wipe_some {σ : St} {i : Nat} {x : V} : ∀ {vs : List Nat}, (wipe σ vs)[i]? = some (some x) → σ[i]? = some (some x) ∧ i ∉ vs
  | [], h => ⟨h, by simp⟩
  | v :: vs, h => by
    unfold wipe at h
    by_cases hi : v = i
    · subst hi
      by_cases hv : v < (wipe σ vs).length
      · rw [List.getElem?_set_self hv] at h; cases h
      · rw [List.getElem?_eq_none (by simpa using hv)] at h; cases h
    · rw [List.getElem?_set_ne hi] at h
      obtain ⟨h1, h2⟩ := wipe_some h
      exact ⟨h1, by simp only [List.mem_cons, not_or]; exact ⟨fun e => hi e.symm, h2⟩⟩
abbrev Cx.blk (X : Cx) (s : Shared) (H : Hp) (scope : Scope) (cenv : Env) (fp : List Addr) : Cx := { X with s_0 := s, H_0 := H, env := cenv, outer := X.stack, ex := fp, fn := fun x => scope.names.lookup x == some .cell, pn := [], xe := fun _ _ => False }
section
variable {X : Cx} {pins : List (Addr × Obj)} {σ : St} {H : Hp} {s : Shared}
theorem block_start {scope : Scope} {own : List (Str × Nat)} {fp : List Addr} (I : Inv X pins σ H s) (ok : BlkOk X.N X.env.scope scope own) (hN : X.N.Nodup) (hfp : ∀ b ∈ fp, FpOk X pins H b ∧ b < s.heap.objs.size) :
    Inv (X.blk s H scope (compEnvC scope (cellsFrom (s.heap.objs.size + 1) scope.names (cloFrom X.env.cells scope.names [])) s.heap.objs.size X.env) fp) [] (wipe σ (own.map (·.2))) H { s with heap := pushCells (s.heap.push { cls := .type "dict", data := .dict #[] }) scope.names } := by
  have hfree : ∀ y ∈ scope.names, y.2 = .free → ∃ c, X.env.cells.lookup y.1 = some c := fun y hy e => by
    rcases ok.free y hy e with k | k
    · exact I.ok.has _ (.inl k)
    · exact I.ok.has _ (.inr k)
  generalize hcenv : compEnvC scope (cellsFrom (s.heap.objs.size + 1) scope.names (cloFrom X.env.cells scope.names [])) s.heap.objs.size X.env = cenv
  have kp : ∀ b o, s.heap.get? b = some o → (pushCells (s.heap.push { cls := .type "dict", data := .dict #[] }) scope.names).get? b = some o := fun b o e => pushCells_keeps _ _ _ _ (Heap.get?_push_of_some _ e)
  have hL : cenv.locals = s.heap.objs.size := by rw [← hcenv]; rfl
  have hcl : cenv.cells = cellsFrom (s.heap.objs.size + 1) scope.names (cloFrom X.env.cells scope.names []) := by rw [← hcenv]; rfl
  have hsc : cenv.scope = relS scope X.env.scope := by rw [← hcenv]; rfl
  rw [← Heap.size_push s.heap { cls := .type "dict", data := .dict #[] }] at hcl
  have cm : ∀ {y c}, (y, c) ∈ cloFrom X.env.cells scope.names [] → X.env.cells.lookup y = some c ∧ c < s.heap.objs.size := fun {y c} hm => by
    rcases cloFrom_mem hm with hm | ⟨h1, rfl⟩
    · cases hm
    · obtain ⟨c, hc⟩ := hfree _ h1 rfl
      rw [hc]
      obtain ⟨w, z⟩ := I.cell _ _ hc
      exact ⟨rfl, z.lt⟩
  have mem : ∀ {y c}, cenv.cells.lookup y = some c → (X.env.cells.lookup y = some c ∧ c < s.heap.objs.size) ∨ (s.heap.objs.size + 1 ≤ c ∧ CellAt (pushCells (s.heap.push { cls := .type "dict", data := .dict #[] }) scope.names) c none) := fun {y c} e => by
    rw [hcl] at e
    rcases cells_mem (PySem.mem_of_lookup e) with hm | ⟨_, h2, h3⟩
    · exact .inl (cm hm)
    · rw [Heap.size_push] at h2; exact .inr ⟨h2, h3⟩
  have look : ∀ {y}, scope.names.lookup y = some .free → ∃ c, cenv.cells.lookup y = some c ∧ X.env.cells.lookup y = some c := fun {y} hl => by
    have hy : (y, NameKind.free) ∈ scope.names := PySem.mem_of_lookup hl
    obtain ⟨c', e'⟩ := mem_lookup (cells_acc (names := scope.names) (n := (s.heap.push { cls := .type "dict", data := .dict #[] }).objs.size) (cloFrom_has (cells := X.env.cells) (acc := []) hy))
    rw [← hcl] at e'
    refine ⟨c', e', ?_⟩
    rw [hcl] at e'
    rcases cells_mem (PySem.mem_of_lookup e') with hm | ⟨h1, _, _⟩
    · exact (cm hm).1
    · have := ok.uniq _ h1
      rw [hl] at this; cases this
  have okB : (X.blk s H scope cenv fp).Ok := by
    refine ⟨I.ok.mod, by show cenv.scope.kind = _; rw [hsc]; exact ok.kind, by show cenv.globals = _; rw [← hcenv]; exact I.ok.glob, by show cenv.builtins = _; rw [← hcenv]; exact I.ok.blt, by show s.heap.objs.size ≤ cenv.locals; rw [hL]; exact Nat.le_refl _,
      fun y z c e1 e2 => ?_, fun y hy => ?_, fun y c z e => ?_, I.ok.hd, I.ok.frames, .inl rfl, fun b hb => ⟨?_, fun y c e z => ?_⟩, I.bs, Nat.le_trans I.ok.bsz I.sz, fun b o e hb => ?_, fun b hb z => ?_, I.stack, I.stkFree⟩
    · have e1 : cenv.cells.lookup y = some c := e1
      have e2 : cenv.cells.lookup z = some c := e2
      rw [hcl] at e1 e2
      refine cells_inj (fun p hp => ?_) (fun y z c a b => I.ok.inj y z c (cm a).1 (cm b).1) (PySem.mem_of_lookup e1) (PySem.mem_of_lookup e2)
      rw [Heap.size_push]
      exact Nat.lt_succ_of_lt (cm (y := p.1) (c := p.2) hp).2
    · show ∃ c, cenv.cells.lookup y = some c
      have key : ∀ k, cenv.kindOf y = some k → (k = .cell ∨ k = .free) → ∃ c, cenv.cells.lookup y = some c := fun k hk hk' => by
        unfold Env.kindOf at hk
        rw [hsc] at hk
        obtain ⟨k', e, r⟩ := lookup_relS hk
        have : k' = .cell ∨ k' = .free := by
          rcases r with rfl | ⟨rfl, _⟩
          · exact hk'
          · exact .inr rfl
        rcases this with rfl | rfl
        · obtain ⟨c, hm⟩ := cells_has (n := (s.heap.push { cls := .type "dict", data := .dict #[] }).objs.size) (acc := cloFrom X.env.cells scope.names []) (PySem.mem_of_lookup e)
          obtain ⟨c', e'⟩ := mem_lookup hm
          exact ⟨c', by rw [hcl]; exact e'⟩
        · obtain ⟨c, h1, _⟩ := look e
          exact ⟨c, h1⟩
      rcases hy with hy | hy
      · exact key _ hy (.inl rfl)
      · exact key _ hy (.inr rfl)
    · have z : (scope.names.lookup y == some NameKind.cell) = true := z
      have z : scope.names.lookup y = some .cell := by simpa using z
      have e : cenv.cells.lookup y = some c := e
      rw [hcl] at e
      rcases cells_mem (PySem.mem_of_lookup e) with hm | ⟨_, h2, _⟩
      · rcases cloFrom_mem hm with hm | ⟨h1, _⟩
        · cases hm
        · have q := ok.uniq _ h1
          rw [z] at q; cases q
      · rw [Heap.size_push] at h2
        exact Nat.le_of_succ_le h2
    · show b ≠ cenv.locals
      rw [hL]; exact Nat.ne_of_lt (hfp b hb).2
    · have e : cenv.cells.lookup y = some c := e
      rcases mem e with ⟨h1, _⟩ | ⟨h1, _⟩
      · exact (hfp b hb).1.2.2.2.2.1 y c h1 z
      · have h2 : s.heap.objs.size + 1 ≤ b := by rw [← z]; exact h1
        exact absurd (Nat.lt_of_lt_of_le (hfp b hb).2 (Nat.le_of_succ_le h2)) (Nat.lt_irrefl _)
    · rcases (hfp b hb).1.2.2.2.1 with z | z
      · exact I.ok.noex b o e z
      · exact absurd (Nat.lt_of_lt_of_le (Heap.lt_size e) (Nat.le_trans I.ok.bsz z)) (Nat.lt_irrefl _)
    · rcases List.mem_cons.mp (I.stkSub b z) with z | z
      · exact (hfp b hb).1.2.1 z
      · exact (hfp b hb).1.2.2.1 z
  refine ⟨okB, rfl, I.bare, Un.kept kp, ⟨fun _ => none, ?_, fun i y av e1 e2 e3 => ?_⟩, fun y c e => ?_, ?_, fun y c e => ?_, fun p hp => ?_, I.hok.kept kp, by rw [wipe_length]; exact I.len⟩
  · show Heap.Ns _ cenv.locals _
    rw [hL]
    exact Heap.Ns.keeps (Heap.Ns.new ..) fun b o e => pushCells_keeps _ _ _ _ e
  · obtain ⟨e2, hne⟩ := wipe_some e2
    have hfr : scope.names.lookup y = some .free ∧ (cenv.kindOf y = some .cell ∨ cenv.kindOf y = some .free) := by
      have key : ∀ k, cenv.scope.names.lookup y = some k → k = .local ∨ k = .cell ∨ k = .free → scope.names.lookup y = some .free ∧ (cenv.kindOf y = some .cell ∨ cenv.kindOf y = some .free) := fun k hk hk' => by
        have hk0 := hk
        rw [hsc] at hk
        obtain ⟨k', e, r⟩ := lookup_relS hk
        have no : ¬ (k' = .local ∨ k' = .cell) := fun hh => by
          rcases ok.own _ (PySem.mem_of_lookup e) hh with e' | e'
          · obtain ⟨p, hp, hpy⟩ := List.mem_map.mp e'
            have e3 := ok.ix p hp
            have : p.1 = y := hpy
            rw [this] at e3
            exact hne (List.mem_map.mpr ⟨p, hp, nodup_ix hN e3 e1⟩)
          · exact e' (List.mem_of_getElem? e1)
        rcases r with rfl | ⟨rfl, rfl⟩
        · rcases hk' with rfl | rfl | rfl
          · exact absurd (.inl rfl) no
          · exact absurd (.inr rfl) no
          · exact ⟨e, .inr hk0⟩
        · exact ⟨e, .inl hk0⟩
      have e3 : Vis cenv.scope y := e3
      rcases e3 with e3 | e3 | e3
      · exact key _ e3 (.inl rfl)
      · exact key _ e3 (.inr (.inl rfl))
      · exact key _ e3 (.inr (.inr rfl))
    obtain ⟨m, hn, hl⟩ := I.loc
    have hvis : Vis X.env.scope y := (ok.free _ (PySem.mem_of_lookup hfr.1) rfl).elim (fun k => .inr (.inl k)) (fun k => .inr (.inr k))
    obtain ⟨w, r, q⟩ := hl i y av e1 e2 hvis
    refine ⟨w, r, .inr ⟨hfr.2, ?_⟩⟩
    obtain ⟨c, h1, h2⟩ := look hfr.1
    rcases q with ⟨k, _⟩ | ⟨_, c', e', z⟩
    · have k : X.env.scope.names.lookup y = some .local := k
      rcases ok.free _ (PySem.mem_of_lookup hfr.1) rfl with k' | k' <;> rw [show X.env.scope.names.lookup y = _ from k'] at k <;> cases k
    · rw [h2] at e'; cases e'
      exact ⟨c, h1, z.keeps kp⟩
  · have e : cenv.cells.lookup y = some c := e
    rcases mem e with ⟨h1, _⟩ | ⟨_, z⟩
    · obtain ⟨w, z⟩ := I.cell y c h1
      exact ⟨w, z.keeps kp⟩
    · exact ⟨_, z⟩
  · show H cenv.locals = none
    rw [hL]; exact I.hok.fresh (Nat.le_refl _)
  · have e : cenv.cells.lookup y = some c := e
    rcases mem e with ⟨h1, _⟩ | ⟨h1, _⟩
    · exact I.freeC y c h1
    · exact I.hok.fresh (Nat.le_of_succ_le h1)
  · exact absurd (show p ∈ ([] : List (Addr × Obj)) ++ [] from hp) (by simp)
theorem app_ok {E : Value → Shared → Prop} {D : Addr} {xs : List V} {y : V} {v : Value} {Q : Value → Shared → Prop} (I : Inv X pins σ H s) (hD : H D = some (.lst xs)) (hz : xs.length < sizeLine) (r : RelV y v)
    (h : ∀ s', Inv X pins σ (upd H D (.lst (xs ++ [y]))) s' → Q .none s') : wpAny (model X.prog X.w) X.A (call (.builtin "list.append") [.ref D, v]) Q E s := by
  obtain ⟨hz', its, n, ri, e⟩ := I.hok D _ hD
  have hl := ri.length
  refine append_at (hsz := by rw [List.size_toArray]; omega) e fun h' sb ho' => ?_
  refine h { s with heap := h' } (I.write (t' := s.toks) (by rw [hD]; trivial) (.inl rfl) (fun b u hb q => (sb.2 b hb).trans q) ⟨_, ho'⟩ ⟨by rw [List.length_append]; exact hz, its ++ [v], n + 1, ri.append (.cons r .nil), ?_⟩)
  rw [ho']
  simp
def PTs (X : Cx) (ifs : List Expr) (t : TT) : Prop :=
  ∀ (pins : List (Addr × Obj)) (s : Shared) (σ : St) (H : Hp) (Q : Bool → Hp → Prop), Inv X pins σ H s → t σ H Q →
    wpAny (model X.prog X.w) X.A (forIn ifs true fun c r => if r = true then do let ok ← isTrue c X.env (eval c X.env); pure (ForInStep.yield ok) else pure (ForInStep.yield r)) (TP X pins σ Q) X.xe s
def tYes : TT := fun _ H Q => Q true H
theorem pts_nil : PTs X [] tYes := fun _ _ _ H _ I h => wpAny_tests_nil ⟨H, I, h⟩
theorem pts_one {c : Expr} {t : TT} (h : PT X c t) : PTs X [c] t := fun pins s σ H Q I hw => wpAny_tests_one (h pins s σ H Q I hw)
end
theorem thnF {α : Type} {t : Sem α} {Q Q' : α → Shared → Prop} {M : Model} {A : Around} {E : Value → Shared → Prop} {s : Shared} (h : wpAny M A t Q (fun _ _ => False) s) (hQ : ∀ a s, Q a s → Q' a s) : wpAny M A t Q' E s := wpAny_mono h hQ fun _ _ z => False.elim z
theorem compLoop_any {prog : Program} {w : World} {A : Around} {R : Result → Shared → Prop} {s : Shared} {elt target iter : Expr} {ifs : List Expr} {scope : Scope} {pos : Pos} {it acc : Value} {env : Env} (I : Nat → Shared → Prop)
    (turn : ∀ n s, I n s → wpAny (model prog w) A (pyNext it) (fun r s₁ => match r with
      | none => R (.ok .next) s₁
      | some v => wpAny (model prog w) A (letOwnedTupleGo target it v) (fun _ s₁' => wpAny (model prog w) A (assign target env v) (fun _ s₂ =>
          wpAny (model prog w) A (forIn ifs true fun c r => if r = true then do let ok ← isTrue c env (eval c env); pure (ForInStep.yield ok) else pure (ForInStep.yield r)) (fun ok s₃ =>
            if ok = true then wpAny (model prog w) A (eval elt env) (fun x s₄ =>
              wpAny (model prog w) A (call (.builtin "list.append") [acc, x]) (fun _ s₅ => ∃ m, m < n ∧ I m s₅) (notedBy (model prog w) A env fun e s' => R (.error e) s') s₄) (notedBy (model prog w) A env fun e s' => R (.error e) s') s₃
            else ∃ m, m < n ∧ I m s₃) (notedBy (model prog w) A env fun e s' => R (.error e) s') s₂) (notedBy (model prog w) A env fun e s' => R (.error e) s') s₁') (notedBy (model prog w) A env fun e s' => R (.error e) s') s₁) (notedBy (model prog w) A env fun e s' => R (.error e) s') s)
    (n : Nat) (h : I n s) :
    codeAny (model prog w) A (.compLoop (.ListComp elt [⟨target, iter, ifs, 0⟩] scope pos) 0 it acc env) R s := by
  refine codeAny_loop rfl I (fun n s hI => ?_) n h
  show wpAny _ A ((compTurn (.ListComp elt [⟨target, iter, ifs, 0⟩] scope pos) 0 it acc env).onRaise (fun x => do noteFrame x env; theTreesLotGoes x)) _ _ s
  refine wpAny_noted ?_
  rw [compTurn_list]
  refine wpAny_bind (wpAny_standAt (wpAny_bind (wpAny_mono (turn n s hI) (fun r s₁ h₁ => ?_) fun _ _ h' => h')))
  cases r with
  | none => exact wpAny_pure h₁
  | some v =>
    refine wpAny_bind (wpAny_mono h₁ (fun _ s₁' h₁' => ?_) fun _ _ h' => h')
    refine wpAny_bind (wpAny_mono h₁' (fun _ s₂ h₂ => wpAny_bind (wpAny_mono h₂ (fun ok s₃ h₃ => ?_) fun _ _ h' => h')) fun _ _ h' => h')
    cases ok with
    | false => exact wpAny_pure ⟨rfl, h₃⟩
    | true =>
      exact wpAny_bind (wpAny_bind (wpAny_mono h₃ (fun x s₄ h₄ => wpAny_bind (wpAny_mono h₄ (fun _ s₅ h₅ => wpAny_pure (wpAny_pure ⟨rfl, h₅⟩)) fun _ _ h' => h')) fun _ _ h' => h'))
section
variable {X : Cx}
def tLc (wi : TI) (g : TG) (tt : TT) (te : TE) (vs : List Nat) : TE := fun σ H Q => wi σ H fun J H1 => ∀ D, H1 D = none → ∃ W : Nat → Nat → Hp → Prop, (∃ m, W 0 m (upd H1 D (.lst []))) ∧ ∀ i m H, W i m H →
  (J.stop i H ∧ Q (.ref D) H) ∨ (J.go i H ∧ ∃ Nx : Hp → Prop, (∀ H', Nx H' → ∃ m', m' < m ∧ W (i + 1) m' H') ∧ ∀ x H', J.yld i H x H' → g x (wipe σ vs) H' fun σ2 H2 => wipe σ2 vs = wipe σ vs ∧ tt σ2 H2 fun b H3 =>
    if b = true then te σ2 H3 fun y H4 => ∃ acc, H4 D = some (.lst acc) ∧ acc.length < sizeLine ∧ Nx (upd H4 D (.lst (acc ++ [y]))) else Nx H3)
theorem lc_core {pins : List (Addr × Obj)} {s : Shared} {σ : St} {H : Hp} {Q : VK} {elt tg iter : Expr} {ifs : List Expr} {scope : Scope} {own : List (Str × Nat)} {pos pos' : Pos} {wi : TI} {g : TG} {tt : TT} {te : TE} {use : Option (Value → Sem Unit)} {Qf : Value → Shared → Prop}
    (hc : X.calm = true) (hN : X.N.Nodup) (I : Inv X pins σ H s) (hi : PI X tg iter wi) (ok : BlkOk X.N X.env.scope scope own)
    (hg : ∀ (s : Shared) (H : Hp) (C : Addr) (cl : List (Str × Addr)) (fp : List Addr), PG (X.blk s H scope (compEnvC scope cl C X.env) fp) tg g) (ht : ∀ (s : Shared) (H : Hp) (C : Addr) (cl : List (Str × Addr)) (fp : List Addr), PTs (X.blk s H scope (compEnvC scope cl C X.env) fp) ifs tt)
    (he : ∀ (s : Shared) (H : Hp) (C : Addr) (cl : List (Str × Addr)) (fp : List Addr), PE (X.blk s H scope (compEnvC scope cl C X.env) fp) elt te) (hs : ∀ x, foldedSetIterable iter X.env x = pure x)
    (h : tLc wi g tt te (own.map (·.2)) σ H Q)
    (hRR : ∀ D C s' m H', Inv X pins σ H' s' → Q (.ref D) H' → s'.heap.Ns C m → FpOk X pins H' C → compPost (model X.prog X.w) X.A X.xe use Qf (.ref D) C (.ok .next) s') :
    wpAny (model X.prog X.w) X.A (comprehension (.ListComp elt [⟨tg, iter, ifs, 0⟩] scope pos) scope X.env pos' (newList []) false (eval iter X.env) use) Qf X.xe s := by
  have hfree : ∀ y ∈ scope.names, y.2 = .free → ∃ c, X.env.cells.lookup y.1 = some c := fun y hy e => by
    rcases ok.free y hy e with k | k
    · exact I.ok.has _ (.inl k)
    · exact I.ok.has _ (.inr k)
  refine wpAny_comprehension_free (use := use) rfl hs (closure_ok hfree) ok.kind (fun y hy e => by rw [ok.uniq y hy, e])
    (thn (hi pins s σ H _ I h) fun xv s1 hx => thn hx fun itv s2 h2 => ?_)
  obtain ⟨it, fp, tn, J, H2, e, I2, T, st2, f2, q⟩ := h2
  subst e
  refine wpAny_newObj_type (newEnv_comp ?_) (by show 0 ≤ sizeLine; decide)
  generalize hD : s2.heap.objs.size = D
  have hDn : H2 D = none := I2.hok.fresh (Nat.le_of_eq hD)
  obtain ⟨W, ⟨m0, w0⟩, turn⟩ := q D hDn
  -- the new list
  generalize hs3 : ({ s2 with heap := s2.heap.push { cls := .type "list", data := .seq ([] : List Value).toArray } } : Shared) = s3
  have I3 : Inv X pins σ (upd H2 D (.lst [])) s3 := by
    rw [← hs3]
    refine I2.laid (t' := s2.toks) (fun b o e => Heap.get?_push_of_some _ e) (Nat.le_of_eq hD) ⟨Nat.zero_le _, [], 0, .nil, ?_⟩
    rw [← hD]
    exact Heap.get?_push_size _ rfl
  have h3 : s3.heap = s2.heap.push { cls := .type "list", data := .seq ([] : List Value).toArray } := by rw [← hs3]
  have sz : ∀ b ∈ fp, b < s2.heap.objs.size := fun b hb => by
    obtain ⟨o, e, _⟩ := T.obj _ _ st2 b hb
    exact Heap.lt_size e
  have f3 : ∀ b ∈ fp, FpOk X pins (upd H2 D (.lst [])) b ∧ b < s3.heap.objs.size := fun b hb => by
    have hlt := sz b hb
    refine ⟨⟨?_, (f2 b hb).2⟩, by rw [h3, Heap.size_push]; exact Nat.lt_succ_of_lt hlt⟩
    rw [upd_ne (by rw [← hD]; exact Nat.ne_of_lt hlt)]
    exact (f2 b hb).1
  have st3 : tn 0 s3.heap := T.keep _ _ _ st2 fun b _ o e => by rw [h3]; exact Heap.get?_push_of_some _ e
  have I4 := block_start I3 ok hN f3
  have pg := hg s3 (upd H2 D (.lst [])) s3.heap.objs.size (cellsFrom (s3.heap.objs.size + 1) scope.names (cloFrom X.env.cells scope.names [])) fp
  have pt := ht s3 (upd H2 D (.lst [])) s3.heap.objs.size (cellsFrom (s3.heap.objs.size + 1) scope.names (cloFrom X.env.cells scope.names [])) fp
  have pe := he s3 (upd H2 D (.lst [])) s3.heap.objs.size (cellsFrom (s3.heap.objs.size + 1) scope.names (cloFrom X.env.cells scope.names [])) fp
  show codeAny _ _ (.compStart (.ListComp elt [⟨tg, iter, ifs, 0⟩] scope pos) 0 (.ref it) (.ref D) (compEnvC scope (cellsFrom (s3.heap.objs.size + 1) scope.names (cloFrom X.env.cells scope.names [])) s3.heap.objs.size X.env)) (compPost (model X.prog X.w) X.A X.xe use Qf (.ref D) s3.heap.objs.size) { s3 with heap := pushCells (s3.heap.push { cls := .type "dict", data := .dict #[] }) scope.names }
  have nfp : ∀ b ∈ fp, (upd H2 D (.lst [])) b = none := fun b hb => (f3 b hb).1.1
  generalize hce : compEnvC scope (cellsFrom (s3.heap.objs.size + 1) scope.names (cloFrom X.env.cells scope.names [])) s3.heap.objs.size X.env = ce at I4 pg pt pe ⊢
  have cL : ce.locals = s3.heap.objs.size := by subst hce; rfl
  generalize hH3 : upd H2 D (.lst []) = H3 at I3 I4 pg pt pe w0 nfp f3
  generalize hs4 : ({ s3 with heap := pushCells (s3.heap.push { cls := .type "dict", data := .dict #[] }) scope.names } : Shared) = s4 at I4 ⊢
  have st4 : tn 0 s4.heap := T.keep _ _ _ st3 fun b _ o e => by rw [← hs4]; exact pushCells_keeps _ _ _ _ (Heap.get?_push_of_some _ e)
  have stat : ∀ {σ' : St} {H' : Hp} {s' : Shared}, Inv (X.blk s3 H3 scope ce fp) [] σ' H' s' → (∀ b ∈ fp, H' b = none) → ∀ b ∈ fp, FpOk (X.blk s3 H3 scope ce fp) [] H' b := fun {σ' H' s'} I' hn b hb =>
    ⟨hn b hb, (I'.ok.exf b hb).1, I'.ok.exfs b hb, .inl hb, fun x c e => (I'.ok.exf b hb).2 x c e, fun p hp => absurd (show p ∈ ([] : List (Addr × Obj)) ++ [] from hp) (by simp)⟩
  have loop : codeAny (model X.prog X.w) X.A (.compLoop (.ListComp elt [⟨tg, iter, ifs, 0⟩] scope pos) 0 (.ref it) (.ref D) ce) (compPost (model X.prog X.w) X.A X.xe use Qf (.ref D) s3.heap.objs.size) s4 := by
    refine compLoop_any (fun n s' => ∃ i H', Inv (X.blk s3 H3 scope ce fp) [] (wipe σ (own.map (·.2))) H' s' ∧ tn i s'.heap ∧ (∀ b ∈ fp, H' b = none) ∧ W i n H') ?_ m0 ⟨0, H3, I4, st4, nfp, w0⟩
    rintro n s5 ⟨i, H5, I5, st5, n5, w5⟩
    rcases turn i n H5 w5 with ⟨stop, qq⟩ | ⟨go, Nx, hNx, step⟩
    · have td := T.done (X.blk s3 H3 scope ce fp) rfl rfl rfl hc i [] s5 _ H5 (fun _ _ => False) I5 (stat I5 n5) st5 stop
      refine thnF td fun r s6 ⟨hr, I6⟩ => ?_
      subst hr
      -- back in the def's context
      have I7 : Inv X pins σ H5 s6 := I3.call' (ch := fp) I6.os I6.base I6.hok I6.bare fun b hb => ⟨(f3 b hb).1.2.2.2.1, (f3 b hb).1.2.1, (f3 b hb).1.2.2.2.2.1, (f3 b hb).1.2.2.2.2.2⟩
      have nC : H5 s3.heap.objs.size = none := by
        have z : H5 ce.locals = none := I6.free
        rw [cL] at z
        exact z
      obtain ⟨m, hn, _⟩ := I6.loc
      have hn : s6.heap.Ns ce.locals m := hn
      rw [cL] at hn
      exact hRR D s3.heap.objs.size s6 m H5 I7 qq hn (I3.fpOk (Nat.le_refl _) nC)
    · have ti := T.item (X.blk s3 H3 scope ce fp) rfl rfl rfl hc i [] s5 _ H5 (fun _ _ => False) I5 (stat I5 n5) st5 go
      refine thnF ti fun r s6 ⟨u, hr, h6⟩ => ?_
      subst hr
      refine thnF h6 fun _ s7 ⟨x, H7, I7, r7, y7, st7, n7⟩ => ?_
      have I7' := I7.pinned (stat I7 n7) (T.obj _ _ st7)
      refine thnF (pg _ s7 _ H7 x u _ I7' r7 (step x H7 y7)) fun _ s8 ⟨σ8, H8, I8, hw8, q8⟩ => ?_
      refine thnF (pt _ s8 σ8 H8 _ I8 q8) fun b s9 ⟨H9, I9, q9⟩ => ?_
      -- the turn's end
      have fin : ∀ {s' : Shared} {H' : Hp}, Inv (X.blk s3 H3 scope ce fp) ([] ++ pinsAt fp s7.heap) σ8 H' s' → Nx H' → ∃ m, m < n ∧ ∃ i H', Inv (X.blk s3 H3 scope ce fp) [] (wipe σ (own.map (·.2))) H' s' ∧ tn i s'.heap ∧ (∀ b ∈ fp, H' b = none) ∧ W i m H' := fun {s' H'} I' nx => by
        obtain ⟨m', hm, w'⟩ := hNx H' nx
        have pin' : ∀ b ∈ fp, ∀ o, s7.heap.get? b = some o → s'.heap.get? b = some o ∧ H' b = none := fun b hb o e =>
          let z := I'.pin (b, o) (List.mem_append_right _ (List.mem_append_right _ (mem_pinsAt hb e)))
          ⟨z.1, z.2.1⟩
        have hl : (wipe σ (own.map (·.2))).length = σ8.length := by rw [← hw8, wipe_length]
        refine ⟨m', hm, i + 1, H', (I'.unpinned (pins := [])).weak hl (fun j v e => ?_), T.keep _ _ _ st7 fun b hb o e => (pin' b hb o e).1, fun b hb => ?_, w'⟩
        · rw [← hw8] at e
          exact (wipe_some e).1
        · obtain ⟨o, e, _⟩ := T.obj _ _ st7 b hb
          exact (pin' b hb o e).2
      cases b with
      | false =>
        simp only [Bool.false_eq_true, if_false] at q9 ⊢
        exact fin I9 q9
      | true =>
        simp only [if_true] at q9 ⊢
        refine thnF (pe _ s9 σ8 H9 _ I9 q9) fun z s10 ⟨yv, H10, I10, r10, acc, hD10, hz10, nx⟩ => ?_
        exact app_ok (X := X.blk s3 H3 scope ce fp) I10 hD10 hz10 r10 fun s11 I11 => fin I11 nx
  exact codeAny_compStart_list loop (T.self X.A 0 _ _ _ st4 loop)
theorem pe_lc {elt tg iter : Expr} {ifs : List Expr} {scope : Scope} {own : List (Str × Nat)} {pos : Pos} {wi : TI} {g : TG} {tt : TT} {te : TE} (hc : X.calm = true) (hN : X.N.Nodup) (hi : PI X tg iter wi) (ok : BlkOk X.N X.env.scope scope own)
    (hg : ∀ (s : Shared) (H : Hp) (C : Addr) (cl : List (Str × Addr)) (fp : List Addr), PG (X.blk s H scope (compEnvC scope cl C X.env) fp) tg g) (ht : ∀ (s : Shared) (H : Hp) (C : Addr) (cl : List (Str × Addr)) (fp : List Addr), PTs (X.blk s H scope (compEnvC scope cl C X.env) fp) ifs tt)
    (he : ∀ (s : Shared) (H : Hp) (C : Addr) (cl : List (Str × Addr)) (fp : List Addr), PE (X.blk s H scope (compEnvC scope cl C X.env) fp) elt te) (hs : ∀ x, foldedSetIterable iter X.env x = pure x := by intro _; rfl) :
    PE X (.ListComp elt [⟨tg, iter, ifs, 0⟩] scope pos) (tLc wi g tt te (own.map (·.2))) := by
  intro pins s σ H Q I h
  rw [eval_ListComp]
  refine lc_core hc hN I hi ok hg ht he hs h fun D C s' m H' I' q hn f => ⟨m, hn, fun h'' sb => ?_⟩
  obtain ⟨f0, f1, f2, f3, f4, f5⟩ := f
  exact ⟨.ref D, H', I'.turned (t' := s'.toks) (fun b o hb e => (sb.2 b hb).trans e) f0 f1 f3 f4 f5, rfl, q⟩
theorem ps_setLc {i : Nat} {y : Str} {py : Pos} {elt tg iter : Expr} {ifs : List Expr} {scope : Scope} {own : List (Str × Nat)} {pos spos : Pos} {wi : TI} {g : TG} {tt : TT} {te : TE} (hc : X.calm = true) (hN : X.N.Nodup) (hy : X.N[i]? = some y) (hyl : X.env.scope.names.lookup y = some .local)
    (hsw : swapsWith (.ListComp elt [⟨tg, iter, ifs, 0⟩] scope pos) (some (.Name y py)) spos.line X.env = pure true) (hi : PI X tg iter wi) (ok : BlkOk X.N X.env.scope scope own)
    (hg : ∀ (s : Shared) (H : Hp) (C : Addr) (cl : List (Str × Addr)) (fp : List Addr), PG (X.blk s H scope (compEnvC scope cl C X.env) fp) tg g) (ht : ∀ (s : Shared) (H : Hp) (C : Addr) (cl : List (Str × Addr)) (fp : List Addr), PTs (X.blk s H scope (compEnvC scope cl C X.env) fp) ifs tt)
    (he : ∀ (s : Shared) (H : Hp) (C : Addr) (cl : List (Str × Addr)) (fp : List Addr), PE (X.blk s H scope (compEnvC scope cl C X.env) fp) elt te) (hs : ∀ x, foldedSetIterable iter X.env x = pure x := by intro _; rfl) :
    PS X (.Assign [.Name y py] (.ListComp elt [⟨tg, iter, ifs, 0⟩] scope pos) spos) (tAsg (tLc wi g tt te (own.map (·.2))) (gName i)) := by
  intro pins s σ H D I h
  rw [exec_Assign_Name_used _ _ _ _ hsw]
  refine wpAny_bind (wpAny_standAt (wpAny_bind ?_))
  show wpAny _ X.A (do let _ ← comprehension (.ListComp elt [⟨tg, iter, ifs, 0⟩] scope pos) scope X.env (firstIterPos [⟨tg, iter, ifs, 0⟩] pos) (newList []) false (eval iter X.env) (some (assign (.Name y py) X.env))) _ _ s
  have h : tLc wi g tt te (own.map (·.2)) σ H (fun x H1 => gName i x σ H1 D.nx) := h
  refine wpAny_bind (thn (lc_core (Qf := fun _ s' => SP X pins D .next s') hc hN I hi ok hg ht he hs h fun L C s' m H' I' q hn f => ?_) fun _ s' hq => wpAny_pure (wpAny_pure hq))
  show wpAny _ _ (assign (.Name y py) X.env (.ref L)) _ _ _
  refine wpAny_assign_Name (store_ok2 (v := V.ref L) I' hN hy (.inl hyl) rfl (fun s2 I2 ⟨a, sb, ha⟩ => ?_) (.inr hyl))
  obtain ⟨f0, f1, f2, f3, f4, f5⟩ := f
  have haC : C ≠ a := by
    rcases ha with z | z
    · rw [z]; exact f1
    · exact fun e => f4 y a z e.symm
  refine ⟨m, hn.sameBut sb haC, fun h3 sb3 => ?_⟩
  exact ⟨_, H', I2.turned (t' := s2.toks) (fun b o hb e => (sb3.2 b hb).trans e) f0 f1 f3 f4 f5, q⟩
theorem sw_true {elt : Expr} {gs : List Comprehension} {scope : Scope} {pos py : Pos} {y : Str} {l : Nat} {env : Env} (hk : env.scope.kind = .function) (hy : env.scope.names.lookup y = some .local) (hl : (py.line == pos.line) = true)
    (ha : (scope.names.any fun (n, k) => n == y && (k == .local || k == .cell)) = false) : swapsWith (.ListComp elt gs scope pos) (some (.Name y py)) l env = pure true := by
  have ky : env.kindOf y = some .local := hy
  have hb : env.blockKind = .function := by unfold Env.blockKind; rw [hk]; rfl
  unfold swapsWith
  simp only [hb, ky, ha, Expr.pos, hl]
  rfl
end
theorem lc_range {lo : Int} {n : Nat} {g : TG} {tt : TT} {te : TE} {vs : List Nat} {σ : St} {H1 : Hp} {D : Addr} {Qd : Hp → Prop} (Pv : Nat → Hp → Prop) (h0 : Pv 0 (upd H1 D (.lst [])))
    (hs : ∀ i H, i < n → Pv i H → g (.int (lo + i)) (wipe σ vs) H fun σ2 H2 => wipe σ2 vs = wipe σ vs ∧ tt σ2 H2 fun b H3 =>
      if b = true then te σ2 H3 fun y H4 => ∃ acc, H4 D = some (.lst acc) ∧ acc.length < sizeLine ∧ Pv (i + 1) (upd H4 D (.lst (acc ++ [y]))) else Pv (i + 1) H3) (hd : ∀ H, Pv n H → Qd H) :
    ∃ W : Nat → Nat → Hp → Prop, (∃ m, W 0 m (upd H1 D (.lst []))) ∧ ∀ i m H, W i m H →
      ((Itr lo n).stop i H ∧ Qd H) ∨ ((Itr lo n).go i H ∧ ∃ Nx : Hp → Prop, (∀ H', Nx H' → ∃ m', m' < m ∧ W (i + 1) m' H') ∧ ∀ x H', (Itr lo n).yld i H x H' → g x (wipe σ vs) H' fun σ2 H2 => wipe σ2 vs = wipe σ vs ∧ tt σ2 H2 fun b H3 =>
        if b = true then te σ2 H3 fun y H4 => ∃ acc, H4 D = some (.lst acc) ∧ acc.length < sizeLine ∧ Nx (upd H4 D (.lst (acc ++ [y]))) else Nx H3) := by
  refine ⟨fun i m H => m = n - i ∧ i ≤ n ∧ Pv i H, ⟨n, by simp, Nat.zero_le _, h0⟩, ?_⟩
  rintro i m H ⟨rfl, hi, p⟩
  by_cases hlt : i < n
  · refine .inr ⟨hlt, Pv (i + 1), fun H' p' => ⟨n - (i + 1), by omega, rfl, hlt, p'⟩, fun x H' y => ?_⟩
    obtain ⟨e, y⟩ := y
    subst e y
    exact hs i _ hlt p
  · have e : i = n := by omega
    subst e
    exact .inl ⟨Nat.le_refl _, hd H p⟩
theorem lc_list {K : PySem.W.Frag} {a : Addr} {xs : List V} {g : TG} {tt : TT} {te : TE} {vs : List Nat} {σ : St} {H1 : Hp} {D : Addr} {Qd : Hp → Prop} (Pv : Nat → Hp → Prop) (h0 : Pv 0 (upd H1 D (.lst []))) (hl : ∀ i H, i ≤ xs.length → Pv i H → SqL K H a xs)
    (hs : ∀ i x H, xs[i]? = some x → Pv i H → g x (wipe σ vs) H fun σ2 H2 => wipe σ2 vs = wipe σ vs ∧ tt σ2 H2 fun b H3 =>
      if b = true then te σ2 H3 fun y H4 => ∃ acc, H4 D = some (.lst acc) ∧ acc.length < sizeLine ∧ Pv (i + 1) (upd H4 D (.lst (acc ++ [y]))) else Pv (i + 1) H3) (hd : ∀ H, Pv xs.length H → Qd H) :
    ∃ W : Nat → Nat → Hp → Prop, (∃ m, W 0 m (upd H1 D (.lst []))) ∧ ∀ i m H, W i m H →
      ((Itl K a).stop i H ∧ Qd H) ∨ ((Itl K a).go i H ∧ ∃ Nx : Hp → Prop, (∀ H', Nx H' → ∃ m', m' < m ∧ W (i + 1) m' H') ∧ ∀ x H', (Itl K a).yld i H x H' → g x (wipe σ vs) H' fun σ2 H2 => wipe σ2 vs = wipe σ vs ∧ tt σ2 H2 fun b H3 =>
        if b = true then te σ2 H3 fun y H4 => ∃ acc, H4 D = some (.lst acc) ∧ acc.length < sizeLine ∧ Nx (upd H4 D (.lst (acc ++ [y]))) else Nx H3) := by
  refine ⟨fun i m H => m = xs.length - i ∧ i ≤ xs.length ∧ Pv i H, ⟨xs.length, by simp, Nat.zero_le _, h0⟩, ?_⟩
  rintro i m H ⟨rfl, hi, p⟩
  have q := hl i H hi p
  by_cases hlt : i < xs.length
  · refine .inr ⟨⟨xs, xs[i], q, by simp [hlt]⟩, Pv (i + 1), fun H' p' => ⟨xs.length - (i + 1), by omega, rfl, hlt, p'⟩, fun x H' y => ?_⟩
    obtain ⟨e, y⟩ := y
    subst e
    exact hs i x _ (y xs q) p
  · have e : i = xs.length := by omega
    subst e
    exact .inl ⟨⟨xs, q, Nat.le_refl _⟩, hd H p⟩
def blkC (N : List Str) (sc scope : Scope) (own : List (Str × Nat)) : Bool :=
  (match scope.kind with | .function => true | _ => false) && (scope.names.all fun y => decide (scope.names.lookup y.1 = some y.2)) && (own.all fun p => decide (N[p.2]? = some p.1)) &&
    (scope.names.all fun y => match y.2 with
      | .free => (match sc.names.lookup y.1 with | some .cell => true | some .free => true | _ => false)
      | .local => decide (y.1 ∈ own.map (·.1)) || decide (y.1 ∉ N)
      | .cell => decide (y.1 ∈ own.map (·.1)) || decide (y.1 ∉ N)
      | _ => true)
theorem blkOk_by {N : List Str} {sc scope : Scope} {own : List (Str × Nat)} (h : blkC N sc scope own = true) : BlkOk N sc scope own := by
  unfold blkC at h
  simp only [Bool.and_eq_true, List.all_eq_true, decide_eq_true_eq] at h
  obtain ⟨⟨⟨h1, h2⟩, h3⟩, h4⟩ := h
  refine ⟨?_, h2, h3, fun y hy e => ?_, fun y hy e => ?_⟩
  · split at h1
    · assumption
    · cases h1
  · have q := h4 y hy
    simp only [e] at q
    split at q <;> first | exact .inl (by assumption) | exact .inr (by assumption) | cases q
  · have q := h4 y hy
    rcases e with e | e <;> (simp only [e, Bool.or_eq_true, decide_eq_true_eq] at q; exact q)
end L2
namespace L2
open PySem PySem.Spec PyProof.Rows
section
variable {prog : Program} {w : World} {A : Around} {R : Result → Shared → Prop} {s : Shared} {elt t0 i0 t1 i1 : Expr} {ifs0 ifs1 : List Expr} {scope : Scope} {pos : Pos} {it acc : Value} {env : Env}
end
section
variable {X : Cx}
def tLc2 (wi : TI) (g : TG) (tt : TT) (wi1 : TI) (g1 : TG) (tt1 : TT) (te : TE) (vs vs1 : List Nat) : TE := fun σ H Q => wi σ H fun J H1 => ∀ D, H1 D = none → ∃ W : Nat → Nat → Hp → Prop, (∃ m, W 0 m (upd H1 D (.lst []))) ∧ ∀ i m H, W i m H →
  (J.stop i H ∧ Q (.ref D) H) ∨ (J.go i H ∧ ∃ Nx : Hp → Prop, (∀ H', Nx H' → ∃ m', m' < m ∧ W (i + 1) m' H') ∧ ∀ x H', J.yld i H x H' → g x (wipe σ vs) H' fun σ2 H2 => wipe σ2 vs = wipe σ vs ∧ tt σ2 H2 fun b H3 =>
    if b = true then wi1 σ2 H3 fun J1 H4 => ∃ W1 : Nat → Nat → Hp → Prop, (∃ m, W1 0 m H4) ∧ ∀ j k H, W1 j k H →
      (J1.stop j H ∧ Nx H) ∨ (J1.go j H ∧ ∃ Nx1 : Hp → Prop, (∀ H', Nx1 H' → ∃ k', k' < k ∧ W1 (j + 1) k' H') ∧ ∀ x H', J1.yld j H x H' → g1 x (wipe σ2 vs1) H' fun σ3 H5 => wipe σ3 vs1 = wipe σ2 vs1 ∧ tt1 σ3 H5 fun b H6 =>
        if b = true then te σ3 H6 fun y H7 => ∃ acc, H7 D = some (.lst acc) ∧ acc.length < sizeLine ∧ Nx1 (upd H7 D (.lst (acc ++ [y]))) else Nx1 H6)
    else Nx H3)
end
end L2
namespace L2
open PySem PySem.Spec PyProof.Rows
section
variable {κ : Type} [DecidableEq κ]
def valV (kvs : List (κ × V)) (k : κ) : Option V := (kvs.find? fun kv => decide (kv.1 = k)).map (·.2)
def putK (kvs : List (κ × V)) (k : κ) (v : V) : List (κ × V) :=
  if (kvs.any fun kv => decide (kv.1 = k)) = true then kvs.map (fun kv => if kv.1 = k then (kv.1, v) else kv) else kvs ++ [(k, v)]
def dropK (kvs : List (κ × V)) (k : κ) : List (κ × V) := kvs.filter fun kv => decide (kv.1 ≠ k)
theorem valV_pos {p : κ × V} {r : List (κ × V)} {k : κ} (e : p.1 = k) : valV (p :: r) k = some p.2 := by simp [valV, List.find?_cons, e]
theorem valV_neg {p : κ × V} {r : List (κ × V)} {k : κ} (e : ¬ p.1 = k) : valV (p :: r) k = valV r k := by simp [valV, List.find?_cons, e]
theorem valV_any (k : κ) : ∀ kvs : List (κ × V), (kvs.any fun kv => decide (kv.1 = k)) = (valV kvs k).isSome
  | [] => rfl
  | p :: r => by
    rw [List.any_cons]
    by_cases e : p.1 = k
    · simp only [valV_pos e, decide_eq_true e, Bool.true_or, Option.isSome_some]
    · rw [valV_neg e, decide_eq_false e, Bool.false_or]; exact valV_any k r
theorem length_putK (kvs : List (κ × V)) (k : κ) (v : V) : (putK kvs k v).length ≤ kvs.length + 1 := by
  unfold putK
  split
  · rw [List.length_map]; omega
  · rw [List.length_append, List.length_cons, List.length_nil]; omega
theorem putK_new {kvs : List (κ × V)} {k : κ} (v : V) (h : valV kvs k = none) : putK kvs k v = kvs ++ [(k, v)] := by
  unfold putK
  rw [valV_any, h]
  exact if_neg (by decide)
theorem RelO.isSome_eq {o : Option V} {u : Option Value} (r : RelO o u) : o.isSome = u.isSome := by
  cases o with
  | none => cases u with
    | none => rfl
    | some _ => exact (show False from r).elim
  | some _ => cases u with
    | none => exact (show False from r).elim
    | some _ => rfl
theorem RelO.getD {o : Option V} {u : Option Value} {d : V} {d' : Value} (r : RelO o u) (rd : RelV d d') : RelV (o.getD d) (u.getD d') := by
  cases o with
  | none => cases u with
    | none => exact rd
    | some _ => exact (show False from r).elim
  | some _ => cases u with
    | none => exact (show False from r).elim
    | some _ => exact r
theorem KV.val {kvs : List (κ × V)} {vs : List (κ × Value)} (r : KV kvs vs) (k : κ) : RelO (valV kvs k) (valueAt vs k) := by
  unfold KV at r
  induction r with
  | nil => exact True.intro
  | @cons p q ps qs h t ih =>
    obtain ⟨h1, h2⟩ := h
    by_cases e : p.1 = k
    · have e' : q.1 = k := h1.symm.trans e
      have b : valueAt (q :: qs) k = some q.2 := by simp [valueAt, List.find?_cons, e']
      rw [valV_pos e, b]; exact h2
    · have e' : ¬ q.1 = k := fun z => e (h1.trans z)
      have b : valueAt (q :: qs) k = valueAt qs k := by simp [valueAt, List.find?_cons, e']
      rw [valV_neg e, b]; exact ih
theorem KV.any {kvs : List (κ × V)} {vs : List (κ × Value)} (r : KV kvs vs) (k : κ) : (kvs.any fun kv => decide (kv.1 = k)) = vs.any fun kv => decide (kv.1 = k) := by
  unfold KV at r
  induction r with
  | nil => rfl
  | cons h t ih => rw [List.any_cons, List.any_cons, ih, h.1]
theorem KV.repl {kvs : List (κ × V)} {vs : List (κ × Value)} (r : KV kvs vs) (k : κ) {y : V} {u : Value} (ry : RelV y u) :
    KV (kvs.map fun kv => if kv.1 = k then (kv.1, y) else kv) (vs.map fun kv => if kv.1 = k then (kv.1, u) else kv) := by
  unfold KV at r ⊢
  induction r with
  | nil => exact .nil
  | @cons p q ps qs h t ih =>
    rw [List.map_cons, List.map_cons]
    refine .cons ?_ ih
    obtain ⟨h1, h2⟩ := h
    by_cases e : p.1 = k
    · rw [if_pos e, if_pos (h1.symm.trans e)]; exact ⟨h1, ry⟩
    · rw [if_neg e, if_neg (fun z => e (h1.trans z))]; exact ⟨h1, h2⟩
theorem KV.put {kvs : List (κ × V)} {vs : List (κ × Value)} (r : KV kvs vs) (k : κ) {y : V} {u : Value} (ry : RelV y u) : KV (putK kvs k y) (stored vs k u) := by
  unfold putK stored
  rw [r.any k]
  by_cases e : (vs.any fun kv => decide (kv.1 = k)) = true
  · rw [if_pos e, if_pos e]; exact r.repl k ry
  · rw [if_neg e, if_neg e]; exact Paired.snoc r ⟨rfl, ry⟩
theorem KV.drop {kvs : List (κ × V)} {vs : List (κ × Value)} (r : KV kvs vs) (k : κ) : KV (dropK kvs k) (without vs k) := by
  unfold KV at r ⊢
  unfold dropK without
  induction r with
  | nil => exact .nil
  | @cons p q ps qs h t ih =>
    obtain ⟨h1, h2⟩ := h
    rw [List.filter_cons, List.filter_cons]
    by_cases e : p.1 = k
    · have a : ¬ decide (p.1 ≠ k) = true := by simp [e]
      have b : ¬ decide (q.1 ≠ k) = true := by simp [h1.symm.trans e]
      rw [if_neg a, if_neg b]; exact ih
    · have e' : ¬ q.1 = k := fun z => e (h1.trans z)
      have a : decide (p.1 ≠ k) = true := by simp [e]
      have b : decide (q.1 ≠ k) = true := by simp [e']
      rw [if_pos a, if_pos b]; exact .cons ⟨h1, h2⟩ ih
theorem KV.keys {kvs : List (κ × V)} {vs : List (κ × Value)} (r : KV kvs vs) : kvs.map (·.1) = vs.map (·.1) := by
  unfold KV at r
  induction r with
  | nil => rfl
  | cons h t ih => rw [List.map_cons, List.map_cons, ih, h.1]
theorem KV.length {kvs : List (κ × V)} {vs : List (κ × Value)} (r : KV kvs vs) : kvs.length = vs.length := Paired.length r
theorem dropK_le (kvs : List (κ × V)) (k : κ) : (dropK kvs k).length ≤ kvs.length := List.length_filter_le _ _
end
theorem kV_is {P : Program} {w : World} {k : Key} {u : Value} (r : RelV (kV k) u) : (mixKind P w).is k u = true := by
  cases k with
  | inl i => obtain ⟨t, e⟩ := (show ∃ t, u = Value.int i t from r); subst e; exact mixKind_int P w i t
  | inr x => obtain ⟨t, e⟩ := (show ∃ t, u = Value.str x t from r); subst e; exact mixKind_str P w x t
theorem items_are {P : Program} {w : World} : ∀ {ks : List Key} {us : List Value}, Vals (ks.map kV) us → ItemsAre (mixKind P w) ks us
  | [], _, r => by rw [List.map_nil] at r; cases r; exact .nil
  | k :: ks, _, r => by
    rw [List.map_cons] at r
    cases r with
    | cons h t => exact .cons (kV_is h) (items_are t)
abbrev KT (H : Hp) : List (List Key × V) → List (List Key × Addr × Value) → Prop := Paired fun p q => p.1 = q.1 ∧ H q.2.1 = some (.tup (p.1.map kV)) ∧ RelV p.2 q.2.2
theorem KT.val {H : Hp} {kvs : List (List Key × V)} {xs : List (List Key × Addr × Value)} (r : KT H kvs xs) (k : List Key) : RelO (valV kvs k) ((atKey xs k).map (·.2)) := by
  induction r with
  | nil => exact True.intro
  | @cons p q ps qs h t ih =>
    obtain ⟨h1, _, h2⟩ := h
    by_cases e : p.1 = k
    · have e' : q.1 = k := h1.symm.trans e
      have b : atKey (q :: qs) k = some q.2 := by simp [atKey, List.find?_cons, e']
      rw [valV_pos e, b]; exact h2
    · have e' : ¬ q.1 = k := fun z => e (h1.trans z)
      have b : atKey (q :: qs) k = atKey qs k := by simp [atKey, List.find?_cons, e']
      rw [valV_neg e, b]; exact ih
theorem KT.repl {H : Hp} {kvs : List (List Key × V)} {xs : List (List Key × Addr × Value)} (r : KT H kvs xs) (k : List Key) {y : V} {u : Value} (ry : RelV y u) :
    KT H (kvs.map fun kv => if kv.1 = k then (kv.1, y) else kv) (xs.map (putAt k u)) := by
  induction r with
  | nil => exact .nil
  | @cons p q ps qs h t ih =>
    rw [List.map_cons, List.map_cons]
    refine .cons ?_ ih
    obtain ⟨h1, h2, h3⟩ := h
    unfold putAt
    by_cases e : p.1 = k
    · rw [if_pos e, if_pos (h1.symm.trans e)]; exact ⟨h1, h2, ry⟩
    · rw [if_neg e, if_neg (fun z => e (h1.trans z))]; exact ⟨h1, h2, h3⟩
theorem KT.put {H : Hp} {kvs : List (List Key × V)} {xs : List (List Key × Addr × Value)} (r : KT H kvs xs) (k : List Key) {b : Addr} {y : V} {u : Value} (hb : H b = some (.tup (k.map kV))) (ry : RelV y u) :
    KT H (putK kvs k y) (storedH xs k b u) := by
  have e : (kvs.any fun kv => decide (kv.1 = k)) = (atKey xs k).isSome := by
    rw [valV_any, (r.val k).isSome_eq, Option.isSome_map]
  unfold putK storedH
  rw [e]
  by_cases q : (atKey xs k).isSome = true
  · rw [if_pos q, if_pos q]; exact r.repl k ry
  · rw [if_neg q, if_neg q]; exact Paired.snoc r ⟨rfl, hb, ry⟩
theorem KT.keeps {H H' : Hp} {kvs : List (List Key × V)} {xs : List (List Key × Addr × Value)} (r : KT H kvs xs) (ht : ∀ b ys, H b = some (.tup ys) → H' b = some (.tup ys)) : KT H' kvs xs :=
  Paired.mapP r fun _ _ z => ⟨z.1, ht _ _ z.2.1, z.2.2⟩
section
variable {P : Program} {w : World} {H : Hp} {h : Heap} {a : Addr}
theorem rd_of {u : HO} (ok : HOk P w H h) (e : Rd H a u) : ObjOk P w H h a u := e.ok ok
theorem dk_rd {kvs : List (Key × V)} (ok : HOk P w H h) (e : Rd H a (.dK kvs)) : kvs.length ≤ sizeLine ∧ (a == sysModules) = false ∧ ∃ vs, KV kvs vs ∧ h.DictOf (mixKind P w) a vs :=
  show ObjOk P w H h a (.dK kvs) from rd_of ok e
theorem dk_of {kvs : List (Key × V)} (ok : HOk P w H h) (e : H a = some (.dK kvs)) : kvs.length ≤ sizeLine ∧ (a == sysModules) = false ∧ ∃ vs, KV kvs vs ∧ h.DictOf (mixKind P w) a vs := dk_rd ok (.inl e)
theorem key_of {ks : List Key} (ok : HOk P w H h) (e : H a = some (.tup (ks.map kV))) : (tupleKind (mixKind P w)).is h ks a := by
  obtain ⟨_, its, r, o, h1, h2, n, h3⟩ := (show ObjOk P w H h a (.tup (ks.map kV)) from ok a _ e)
  exact ⟨o, its.toArray, n, h1, h2, h3, by simpa using items_are r⟩
theorem dt_rd {kvs : List (List Key × V)} (ok : HOk P w H h) (e : Rd H a (.dT kvs)) : kvs.length ≤ sizeLine ∧ (a == sysModules) = false ∧
    ∃ xs, KT H kvs xs ∧ h.DictOfH (tupleKind (mixKind P w)) a xs := by
  obtain ⟨z, y, xs, r, o, es, ep, h1, h2, h3, h4, h5⟩ := (show ObjOk P w H h a (.dT kvs) from rd_of ok e)
  refine ⟨z, y, xs, r, o, es, ep, h1, h2, h3, h4, fun x hx => ?_, h5⟩
  have all : ∀ {l : List (List Key × V)} {m : List (List Key × Addr × Value)}, KT H l m → ∀ x ∈ m, (tupleKind (mixKind P w)).is h x.1 x.2.1 := by
    intro l m q
    induction q with
    | nil => intro x hx; exact nomatch hx
    | @cons p q ps qs hq t ih =>
      intro x hx
      rcases List.mem_cons.mp hx with e | hx
      · subst e
        exact key_of ok (by rw [← hq.1]; exact hq.2.1)
      · exact ih x hx
  exact all r x hx
theorem dt_of {kvs : List (List Key × V)} (ok : HOk P w H h) (e : H a = some (.dT kvs)) : kvs.length ≤ sizeLine ∧ (a == sysModules) = false ∧
    ∃ xs, KT H kvs xs ∧ h.DictOfH (tupleKind (mixKind P w)) a xs := dt_rd ok (.inl e)
end
def DGet (H : Hp) (a : Addr) (y : V) (r : Option V) : Prop :=
  (∃ kvs k, Rd H a (.dK kvs) ∧ y = kV k ∧ r = valV kvs k) ∨ ∃ kvs k b, Rd H a (.dT kvs) ∧ y = .ref b ∧ H b = some (.tup (k.map kV)) ∧ r = valV kvs k
def DPut (H : Hp) (a : Addr) (y v : V) (H' : Hp) : Prop :=
  (∃ kvs k, H a = some (.dK kvs) ∧ y = kV k ∧ kvs.length < sizeLine ∧ H' = upd H a (.dK (putK kvs k v))) ∨
  ∃ kvs k b, H a = some (.dT kvs) ∧ y = .ref b ∧ H b = some (.tup (k.map kV)) ∧ kvs.length < sizeLine ∧ H' = upd H a (.dT (putK kvs k v))
theorem DGet.k {H : Hp} {a : Addr} {kvs : List (Key × V)} {k : Key} (e : H a = some (.dK kvs)) : DGet H a (kV k) (valV kvs k) := .inl ⟨kvs, k, .inl e, rfl, rfl⟩
theorem DPut.k {H : Hp} {a : Addr} {kvs : List (Key × V)} {k : Key} {v : V} (e : H a = some (.dK kvs)) (hl : kvs.length < sizeLine) : DPut H a (kV k) v (upd H a (.dK (putK kvs k v))) := .inl ⟨kvs, k, e, rfl, hl, rfl⟩
section
variable {X : Cx} {pins : List (Addr × Obj)} {σ : St} {H : Hp} {s : Shared} {a : Addr} {y v : V} {u r : Value} {o : Option V} {A : Around} {E : Value → Shared → Prop}
theorem Inv.big (I : Inv X pins σ H s) : sysModules < s.heap.objs.size := by
  have h : mainGlobals < s.heap.objs.size := (I.mod.glob.keeps I.bk).lt
  exact Nat.lt_trans (by decide) h
theorem d_getItem {Q : Value → Shared → Prop} (hu : A.units + 1 < cLine) (I : Inv X pins σ H s) (g : DGet H a y (some v)) (ry : RelV y u) (h : ∀ w' s', Inv X pins σ H s' → RelV v w' → Q w' s') :
    wpAny (model X.prog X.w) A (getItem (.ref a) u) Q E s := by
  rcases g with ⟨kvs, k, e, ey, l⟩ | ⟨kvs, k, b, e, ey, eb, l⟩
  · subst ey
    obtain ⟨z, hd, vs, rel, dd⟩ := dk_rd I.hok e
    obtain ⟨w', hw, rw'⟩ := RelO.some_of (v := v) (o := valueAt vs k) (by rw [l]; exact rel.val k)
    exact wpAny_getItem_of (kV_is ry) dd.mapOf hw (h w' _ (I.tok _) rw')
  · subst ey
    cases (show u = Value.ref b from ry)
    obtain ⟨z, hd, xs, rel, dd⟩ := dt_rd I.hok e
    obtain ⟨w', hw, rw'⟩ := RelO.some_of (v := v) (o := (atKey xs k).map (·.2)) (by rw [l]; exact rel.val k)
    obtain ⟨p, hp, hp2⟩ := Option.map_eq_some_iff.mp hw
    refine wpAny_getItem_heap (tupleKind_room_in1 hu) (key_of I.hok eb) dd hp ?_
    rw [hp2]
    exact h w' _ (I.tok _) rw'
theorem d_in {Q : Value → Shared → Prop} (hu : A.units + 1 < cLine) (I : Inv X pins σ H s) (g : DGet H a y o) (ry : RelV y u) (h : ∀ s', Inv X pins σ H s' → Q (.bool o.isSome) s') :
    wpAny (model X.prog X.w) A (compareOp .In u (.ref a)) Q E s := by
  rcases g with ⟨kvs, k, e, ey, l⟩ | ⟨kvs, k, b, e, ey, eb, l⟩
  · subst ey
    obtain ⟨z, hd, vs, rel, dd⟩ := dk_rd I.hok e
    refine wpAny_in_of (kV_is ry) hd dd.mapOf ?_
    rw [← (rel.val k).isSome_eq, ← l]
    exact h _ (I.tok _)
  · subst ey
    cases (show u = Value.ref b from ry)
    obtain ⟨z, hd, xs, rel, dd⟩ := dt_rd I.hok e
    refine wpAny_in_heap (tupleKind_room_in1 hu) (key_of I.hok eb) hd dd ?_
    have q := (rel.val k).isSome_eq
    rw [Option.isSome_map] at q
    rw [← q, ← l]
    exact h _ (I.tok _)
theorem d_notIn {Q : Value → Shared → Prop} (hu : A.units + 1 < cLine) (I : Inv X pins σ H s) (g : DGet H a y o) (ry : RelV y u) (h : ∀ s', Inv X pins σ H s' → Q (.bool (!o.isSome)) s') :
    wpAny (model X.prog X.w) A (compareOp .NotIn u (.ref a)) Q E s := by
  rcases g with ⟨kvs, k, e, ey, l⟩ | ⟨kvs, k, b, e, ey, eb, l⟩
  · subst ey
    obtain ⟨z, hd, vs, rel, dd⟩ := dk_rd I.hok e
    refine wpAny_notIn_of (kV_is ry) hd dd.mapOf ?_
    rw [← (rel.val k).isSome_eq, ← l]
    exact h _ (I.tok _)
  · subst ey
    cases (show u = Value.ref b from ry)
    obtain ⟨z, hd, xs, rel, dd⟩ := dt_rd I.hok e
    refine wpAny_notIn_heap (tupleKind_room_in1 hu) (key_of I.hok eb) hd dd ?_
    have q := (rel.val k).isSome_eq
    rw [Option.isSome_map] at q
    rw [← q, ← l]
    exact h _ (I.tok _)
theorem d_write {h' : Heap} {t' : Nat} {ob : HO} (I : Inv X pins σ H s) (mu : Mut (H a)) (hs : Heap.SameBut a s.heap h') (he : ∃ q, h'.get? a = some q) (new : ObjOk X.prog X.w (upd H a ob) h' a ob) :
    Inv X pins σ (upd H a ob) { s with heap := h', toks := t' } :=
  I.write (x := a) (e := a) mu (.inl rfl) (fun b q hb z => (hs.2 b hb).trans z) he new
theorem dk_new {P : Program} {w : World} {H' : Hp} {h' : Heap} {kvs : List (Key × V)} {vs : List (Key × Value)} (z : kvs.length ≤ sizeLine) (hd : (a == sysModules) = false) (rel : KV kvs vs) (dd : h'.DictOf (mixKind P w) a vs) :
    ObjOk P w H' h' a (.dK kvs) := ⟨z, hd, vs, rel, dd⟩
theorem d_setItem {H' : Hp} {Q : Unit → Shared → Prop} (hu : A.units + 1 < cLine) (I : Inv X pins σ H s) (g : DPut H a y v H') (ry : RelV y u) (rv : RelV v r) (h : ∀ s', Inv X pins σ H' s' → Q () s') :
    wpAny (model X.prog X.w) A (setItem (.ref a) u r) Q E s := by
  rcases g with ⟨kvs, k, e, ey, l, eH⟩ | ⟨kvs, k, b, e, ey, eb, l, eH⟩
  · subst ey eH
    obtain ⟨z, hd, vs, rel, dd⟩ := dk_of I.hok e
    have hz : vs.length ≤ sizeLine := by rw [← rel.length]; exact z
    have hl : (putK kvs k v).length ≤ sizeLine := by have := length_putK kvs k v; omega
    refine wpAny_setItem_pairs (hsz := hz) (kV_is ry) dd fun h' dd' hs => h _ ?_
    have he : ∃ q, h'.get? a = some q := let ⟨q, _, _, hq, _⟩ := dd'; ⟨q, hq⟩
    exact d_write I (by rw [e]; exact True.intro) hs he (dk_new hl hd (rel.put k rv) dd')
  · subst ey eH
    cases (show u = Value.ref b from ry)
    obtain ⟨z, hd, xs, rel, dd⟩ := dt_of I.hok e
    have hz : xs.length ≤ sizeLine := by rw [← Paired.length rel]; exact z
    have hl : (putK kvs k v).length ≤ sizeLine := by have := length_putK kvs k v; omega
    refine wpAny_setItem_heap (hsz := hz) (tupleKind_room_in1 hu) (key_of I.hok eb) dd fun h' dd' hs => h _ ?_
    obtain ⟨q, es, ep, hq, h2, h3, h4, _, h5⟩ := dd'
    refine d_write I (by rw [e]; exact True.intro) hs ⟨q, hq⟩ ⟨hl, hd, _, (rel.put k eb rv).keeps fun c ys ec => ?_, q, es, ep, hq, h2, h3, h4, h5⟩
    rw [upd_ne (ne_of ec e (fun z => nomatch z))]
    exact ec
end
section
variable {X : Cx} {pins : List (Addr × Obj)} {σ : St} {H : Hp} {s : Shared} {a : Addr} {kvs : List (Key × V)} {k : Key} {u : Value} {A : Around} {E : Value → Shared → Prop}
theorem d_pop {v : V} {more : List Value} {Q : Value → Shared → Prop} (I : Inv X pins σ H s) (e : H a = some (.dK kvs)) (ry : RelV (kV k) u) (l : valV kvs k = some v) (hm : more = [] ∨ ∃ x, more = [x])
    (h : ∀ w' s', Inv X pins σ (upd H a (.dK (dropK kvs k))) s' → RelV v w' → Q w' s') : wpAny (model X.prog X.w) A (call (.builtin "dict.pop") (.ref a :: u :: more)) Q E s := by
  obtain ⟨z, hd, vs, rel, dd⟩ := dk_of I.hok e
  obtain ⟨w', hw, rw'⟩ := RelO.some_of (v := v) (o := valueAt vs k) (by rw [← l]; exact rel.val k)
  have hp : (keyPart u).isSome = true := by
    cases k with
    | inl i => obtain ⟨t, q⟩ := (show ∃ t, u = Value.int i t from ry); subst q; rfl
    | inr x => obtain ⟨t, q⟩ := (show ∃ t, u = Value.str x t from ry); subst q; rfl
  have ha : argsOk "dict.pop" ⟨.ref a :: u :: more, []⟩ := by
    rcases hm with q | ⟨x, q⟩
    · subst q; exact PySem.F.args_dict_pop_2 _ _
    · subst q; exact PySem.F.args_dict_pop_3 _ _ _
  refine call_meetsIn PySem.F.slot_dict_pop dd.typeIs PySem.F.entry_dict_pop ha (meets_dict_pop_there (mixKind X.prog X.w) a (kV_is ry) more hm hp)
    ⟨vs, w', dd, by rw [← rel.length]; exact z, hw, fun h' dd' hs => h w' _ ?_ rw'⟩
  have he : ∃ q, h'.get? a = some q := let ⟨q, _, _, hq, _⟩ := dd'; ⟨q, hq⟩
  exact d_write I (by rw [e]; exact True.intro) hs he (dk_new (Nat.le_trans (dropK_le kvs k) z) hd (rel.drop k) dd')
theorem d_len {Q : Value → Shared → Prop} (I : Inv X pins σ H s) (e : Rd H a (.dK kvs)) (h : ∀ t s', Inv X pins σ H s' → Q (.int kvs.length t) s') : wpAny (model X.prog X.w) A (call (.builtin "len") [.ref a]) Q E s := by
  obtain ⟨z, hd, vs, rel, dd⟩ := dk_rd I.hok e
  refine call_len_dict hd dd (by rw [← rel.length]; rw [sizeLine_eq] at z; omega) ?_
  rw [← rel.length]
  exact h _ _ (I.tok _)
end
def NoSl (i : Expr) : Prop := ∀ ov iv, subscripted i false ov iv = operate [ov, iv] (getItem ov iv)
theorem subD_of {prog : Program} {w : World} {A : Around} {E : Value → Shared → Prop} {s : Shared} {env : Env} {value slice : Expr} {pos : Pos} {T id : String} {Q : Value → Shared → Prop}
    (hl : typeLookup (.type T) "__getitem__" = pure (some (.builtin id))) (hs : NoSl slice)
    (h : wpAny (model prog w) A (eval value env) (fun o s₁ => wpAny (model prog w) A (eval slice env) (fun i s₂ => s₂.TypeIs o T ∧ wpAny (model prog w) A (getItem o i) Q E s₂) E s₁) E s) :
    wpAny (model prog w) A (eval (.Subscript value slice pos) env) Q E s := by
  refine Subscript_ (wpAny_mono h (fun o s₁ h₁ => wpAny_mono h₁ (fun i s₂ h₂ => ?_) fun _ _ x => x) fun _ _ x => x)
  obtain ⟨hT, h₂⟩ := h₂
  unfold subscriptTail
  refine wpAny_bind ?_
  rw [getitemInPython_of_ne hT.not_modules]
  refine wpAny_bind (wpAny_specialOf hT hl ?_)
  have fin : wpAny (model prog w) A (subscripted slice false o i) (fun r s₃ => wpAny (model prog w) A (letTemporaryGo value o r >>= fun _ => pure r) Q E s₃) E s₂ := by
    rw [hs o i]
    exact wpAny_operating (wpAny_mono h₂ (fun r s₃ h₃ => wpAny_bind (wpAny_letTemporaryGo (wpAny_pure h₃))) fun _ _ x => x)
  first
    | exact wpAny_pure (wpAny_bind fin)
    | exact wpAny_bind (wpAny_pure (wpAny_bind fin))
    | exact wpAny_bind fin
theorem dict_typeIs {X : Cx} {pins : List (Addr × Obj)} {σ : St} {H : Hp} {s : Shared} {a : Addr} {y : V} {o : Option V} (I : Inv X pins σ H s) (g : DGet H a y o) : s.TypeIs (.ref a) "dict" := by
  rcases g with ⟨kvs, k, e, _, _⟩ | ⟨kvs, k, b, e, _, _, _⟩
  · obtain ⟨_, _, vs, _, dd⟩ := dk_rd I.hok e
    exact dd.typeIs
  · obtain ⟨_, _, xs, _, dd⟩ := dt_rd I.hok e
    exact dd.typeIs
def tDGet (td ty : TE) : TE := fun σ H Q => td σ H fun x H1 => ty σ H1 fun y H2 => ∃ a v, x = .ref a ∧ DGet H2 a y (some v) ∧ Q v H2
def tDIn (ty td : TE) : TE := fun σ H Q => ty σ H fun y H1 => td σ H1 fun x H2 => ∃ a o, x = .ref a ∧ DGet H2 a y o ∧ Q (.bl o.isSome) H2
def tDNotIn (ty td : TE) : TE := fun σ H Q => ty σ H fun y H1 => td σ H1 fun x H2 => ∃ a o, x = .ref a ∧ DGet H2 a y o ∧ Q (.bl (!o.isSome)) H2
def sDPut (td ty tv : TE) : TS := fun D σ H => tv σ H fun v H1 => td σ H1 fun x H2 => ty σ H2 fun y H3 => ∃ a H4, x = .ref a ∧ DPut H3 a y v H4 ∧ D.nx σ H4
def sDAug (td ty tv : TE) (rd : V → V → Hp → VK → Prop) : TS := fun D σ H => td σ H fun x H1 => ty σ H1 fun y H2 => ∃ a v, x = .ref a ∧ DGet H2 a y (some v) ∧
  tv σ H2 fun y2 H3 => rd v y2 H3 fun z H4 => ∃ H5, DPut H4 a y z H5 ∧ D.nx σ H5
def sDDel (td ty : TE) : TS := fun D σ H => td σ H fun x H1 => ty σ H1 fun y H2 => ∃ a kvs k, x = .ref a ∧ H2 a = some (.dK kvs) ∧ y = kV k ∧ (valV kvs k).isSome = true ∧ D.nx σ (upd H2 a (.dK (dropK kvs k)))
section
variable {X : Cx} {o i e value : Expr} {pos pos' tpos : Pos} {td ty tv : TE}
theorem pe_dget (hu : X.A.units + 1 < cLine) (ho : PE X o td) (hi : PE X i ty) (hs : NoSl i) : PE X (.Subscript o i pos) (tDGet td ty) := by
  intro pins s σ H Q I h
  refine subD_of PySem.F.slot_dict_getitem.lookup hs (thn (ho pins s σ H _ I h) fun u s1 ⟨x, H1, I1, rx, q1⟩ => thn (hi pins s1 σ H1 _ I1 q1) fun iv s2 ⟨y, H2, I2, ry, a, v, ex, g, q2⟩ => ?_)
  subst ex
  obtain rfl : u = Value.ref a := rx
  exact ⟨dict_typeIs I2 g, d_getItem hu I2 g ry fun w' s3 I3 rw' => ⟨v, H2, I3, rw', q2⟩⟩
theorem pc_din (hu : X.A.units + 1 < cLine) (hi : PE X i ty) (ho : PE X o td) : PC X .In i o (tDIn ty td) := by
  intro pins s σ H Q I h
  refine thn (hi pins s σ H _ I h) fun iv s1 ⟨y, H1, I1, ry, q1⟩ => thn (ho pins s1 σ H1 _ I1 q1) fun u s2 ⟨x, H2, I2, rx, a, ov, ex, g, q2⟩ => ?_
  subst ex
  obtain rfl : u = Value.ref a := rx
  exact d_in hu I2 g ry fun s3 I3 => ⟨.bl ov.isSome, H2, I3, rfl, q2⟩
theorem pc_dnotin (hu : X.A.units + 1 < cLine) (hi : PE X i ty) (ho : PE X o td) : PC X .NotIn i o (tDNotIn ty td) := by
  intro pins s σ H Q I h
  refine thn (hi pins s σ H _ I h) fun iv s1 ⟨y, H1, I1, ry, q1⟩ => thn (ho pins s1 σ H1 _ I1 q1) fun u s2 ⟨x, H2, I2, rx, a, ov, ex, g, q2⟩ => ?_
  subst ex
  obtain rfl : u = Value.ref a := rx
  exact d_notIn hu I2 g ry fun s3 I3 => ⟨.bl (!ov.isSome), H2, I3, rfl, q2⟩
theorem ps_dput (hu : X.A.units + 1 < cLine) (ho : PE X o td) (hi : PE X i ty) (hv : PE X value tv) (hs : swapsWith value (some (.Subscript o i pos')) pos.line X.env = pure false) :
    PS X (.Assign [.Subscript o i pos'] value pos) (sDPut td ty tv) := by
  intro pins s σ H D I h
  refine wpAny_Assign_Subscript (thn (hv pins s σ H _ I h) fun r s1 ⟨v, H1, I1, rv, q1⟩ => thn (ho pins s1 σ H1 _ I1 q1) fun u s2 ⟨x, H2, I2, rx, q2⟩ => thn (hi pins s2 σ H2 _ I2 q2) fun iv s3 ⟨y, H3, I3, ry, a, H4, ex, g, q3⟩ => ?_) hs
  subst ex
  obtain rfl : u = Value.ref a := rx
  exact d_setItem hu I3 g ry rv fun s4 I4 => ⟨σ, H4, I4, q3⟩
end
theorem dk_empty {P : Program} {w : World} {H : Hp} (h : Heap) (hb : sysModules < h.objs.size) : ObjOk P w H (h.push { cls := .type "dict", data := .dict #[] }) h.objs.size (.dK []) :=
  ⟨Nat.zero_le _, beq_eq_false_iff_ne.mpr (Ne.symm (Nat.ne_of_lt hb)), [], .nil, Heap.DictOf.new h⟩
def tDNewK : TE := fun _ H Q => ∀ p, H p = none → Q (.ref p) (upd H p (.dK []))
def tDNewT : TE := fun _ H Q => ∀ p, H p = none → Q (.ref p) (upd H p (.dT []))
section
variable {X : Cx} {pos : Pos}
theorem pe_dnewK : PE X (.Dict [] [] pos) tDNewK := fun pins s σ H Q I h =>
  wpAny_Dict_empty ⟨.ref s.heap.objs.size, _, I.laid (a := s.heap.objs.size) (o := .dK []) (t' := s.toks) (fun _ _ q => Heap.get?_push_of_some _ q) (Nat.le_refl _) (dk_empty s.heap I.big), rfl, h _ (I.hok.fresh (Nat.le_refl _))⟩
end
def tPairs : List (TE × TE) → St → Hp → (List (V × V) → Hp → Prop) → Prop
  | [], _, H, Q => Q [] H
  | (tk, tv) :: r, σ, H, Q => tk σ H fun x H1 => tv σ H1 fun y H2 => tPairs r σ H2 fun ps H3 => Q ((x, y) :: ps) H3
abbrev VV : List (V × V) → List (Value × Value) → Prop := Paired fun p q => RelV p.1 q.1 ∧ RelV p.2 q.2
def PPs (X : Cx) (pos : Pos) (keys : List (Option Expr)) (values : List Expr) (trs : List (TE × TE)) : Prop :=
  ∀ (pins : List (Addr × Obj)) (s : Shared) (σ : St) (H : Hp) (Q : List (V × V) → Hp → Prop), Inv X pins σ H s → tPairs trs σ H Q →
    wpAny (model X.prog X.w) X.A (evalPairs (pairTrees keys values X.env pos)) (fun vs s' => ∃ ps H', Inv X pins σ H' s' ∧ VV ps vs ∧ Q ps H') X.xe s
def mergeK (kvs more : List (Key × V)) : List (Key × V) := more.foldl (fun acc kv => putK acc kv.1 kv.2) kvs
def tDisp (trs : List (TE × TE)) : TE := fun σ H Q => ∀ p, H p = none → tPairs trs σ (upd H p (.dK [])) fun ps H2 => H2 p = some (.dK []) ∧ ∃ kvs : List (Key × V), ps = kvs.map (fun kv => (kV kv.1, kv.2)) ∧ kvs.length ≤ 15 ∧ Q (.ref p) (upd H2 p (.dK (mergeK [] kvs)))
structure M1 (X : Cx) (o : Expr) (m : Str) (apos : Pos) (e : Expr) (cpos : Pos) : Prop where
  base : attributeBase o m X.env (eval o X.env) = eval o X.env
  few : ((backTo cpos (starEach [e] X.env)).all (fun x => !x.1) && (backToKw cpos (keywordEach [] X.env)).all (fun x => x.1.isSome)
    && decide (([e] : List Expr).length + ([] : List Keyword).length + (if ([] : List Keyword).isEmpty then 0 else 1) < 30)) = true
  line : (apos.endLine == cpos.line) = true
  trees : backTo cpos (starEach [e] X.env) = [(false, eval e X.env)]
structure M2 (X : Cx) (o : Expr) (m : Str) (apos : Pos) (e f : Expr) (cpos : Pos) : Prop where
  base : attributeBase o m X.env (eval o X.env) = eval o X.env
  few : ((backTo cpos (starEach [e, f] X.env)).all (fun x => !x.1) && (backToKw cpos (keywordEach [] X.env)).all (fun x => x.1.isSome)
    && decide (([e, f] : List Expr).length + ([] : List Keyword).length + (if ([] : List Keyword).isEmpty then 0 else 1) < 30)) = true
  line : (apos.endLine == cpos.line) = true
  trees : backTo cpos (starEach [e, f] X.env) = [(false, eval e X.env), (false, eval f X.env)]
def IsD (H : Hp) (a : Addr) : Prop := (∃ kvs, Rd H a (.dK kvs)) ∨ ∃ kvs, Rd H a (.dT kvs)
theorem isD_at {X : Cx} {pins : List (Addr × Obj)} {σ : St} {H : Hp} {s : Shared} {a : Addr} (I : Inv X pins σ H s) (d : IsD H a) :
    s.TypeIs (.ref a) "dict" ∧ (∀ b, Value.ref a = .ref b → ∃ ob, s.heap.get? b = some ob ∧ ob.dict = none) ∧ (a == sysModules) = false := by
  rcases d with ⟨kvs, e⟩ | ⟨kvs, e⟩
  · obtain ⟨_, hd, vs, _, dd⟩ := dk_rd I.hok e
    refine ⟨dd.typeIs, fun b q => ?_, hd⟩
    cases q
    obtain ⟨ob, _, _, h1, h2, _⟩ := dd
    exact ⟨ob, h1, h2.2.1⟩
  · obtain ⟨_, hd, xs, _, dd⟩ := dt_rd I.hok e
    refine ⟨dd.typeIs, fun b q => ?_, hd⟩
    cases q
    obtain ⟨ob, _, _, h1, h2, _⟩ := dd
    exact ⟨ob, h1, h2.2.1⟩
section
variable {X : Cx} {pins : List (Addr × Obj)} {σ : St} {H : Hp} {s : Shared} {a : Addr} {y d : V} {u r : Value} {o : Option V} {A : Around} {E : Value → Shared → Prop}
theorem d_get2 {Q : Value → Shared → Prop} (hu : A.units + 1 < cLine) (I : Inv X pins σ H s) (g : DGet H a y o) (ry : RelV y u) (rd : RelV d r) (h : ∀ w' s', Inv X pins σ H s' → RelV (o.getD d) w' → Q w' s') :
    wpAny (model X.prog X.w) A (call (.builtin "dict.get") [.ref a, u, r]) Q E s := by
  rcases g with ⟨kvs, k, e, ey, l⟩ | ⟨kvs, k, b, e, ey, eb, l⟩
  · subst ey
    obtain ⟨z, hd, vs, rel, dd⟩ := dk_rd I.hok e
    refine call_meetsIn PySem.F.slot_dict_get dd.typeIs PySem.F.entry_dict_get (PySem.F.args_dict_get_3 _ _ _) (meets_dict_get_default (mixKind X.prog X.w) a (kV_is ry) hd r) ⟨_, dd.mapOf, h _ _ (I.tok _) ?_⟩
    rw [l]
    exact (rel.val k).getD rd
  · subst ey
    cases (show u = Value.ref b from ry)
    obtain ⟨z, hd, xs, rel, dd⟩ := dt_rd I.hok e
    refine call_meetsIn PySem.F.slot_dict_get dd.typeIs PySem.F.entry_dict_get (PySem.F.args_dict_get_3 _ _ _) (meetsH_dict_get_default (tupleKind (mixKind X.prog X.w)) a b hd r) ⟨tupleKind_room_in1 hu, k, xs, key_of I.hok eb, dd, h _ _ (I.tok _) ?_⟩
    rw [l]
    exact (rel.val k).getD rd
end
def tDGet1 (td ty : TE) : TE := fun σ H Q => td σ H fun x H1 => ∃ a, x = .ref a ∧ IsD H1 a ∧ ty σ H1 fun y H2 => ∃ o, DGet H2 a y o ∧ Q (o.getD .non) H2
def tDGet2 (td ty tx : TE) : TE := fun σ H Q => td σ H fun x H1 => ∃ a, x = .ref a ∧ IsD H1 a ∧ ty σ H1 fun y H2 => tx σ H2 fun z H3 => ∃ o, DGet H3 a y o ∧ Q (o.getD z) H3
def tDPop1 (td ty : TE) : TE := fun σ H Q => td σ H fun x H1 => ∃ a, x = .ref a ∧ IsD H1 a ∧ ty σ H1 fun y H2 => ∃ kvs k v, H2 a = some (.dK kvs) ∧ y = kV k ∧ valV kvs k = some v ∧ Q v (upd H2 a (.dK (dropK kvs k)))
def tDPop2 (td ty tx : TE) : TE := fun σ H Q => td σ H fun x H1 => ∃ a, x = .ref a ∧ IsD H1 a ∧ ty σ H1 fun y H2 => tx σ H2 fun z H3 => ∃ kvs k, H3 a = some (.dK kvs) ∧ y = kV k ∧
  (∀ v, valV kvs k = some v → Q v (upd H3 a (.dK (dropK kvs k)))) ∧ (valV kvs k = none → Q z H3)
section
variable {X : Cx} {o e f : Expr} {apos cpos : Pos} {td ty tx : TE}
theorem pe_dget2 (hu : X.A.units + 1 < cLine) (ho : PE X o td) (he : PE X e ty) (hf : PE X f tx) (m : M2 X o "get" apos e f cpos) : PE X (.Call (.Attribute o "get" apos) [e, f] [] cpos) (tDGet2 td ty tx) := by
  intro pins s σ H Q I h
  refine wpAny_Call_method m.base m.few m.line PySem.F.plainAttrs_dict PySem.F.slot_dict_get PySem.F.type_dict_get (thn (ho pins s σ H _ I h) fun u s1 ⟨x, H1, I1, rx, a, ex, d, q1⟩ => ?_)
  subst ex
  obtain rfl : u = Value.ref a := rx
  obtain ⟨t1, t2, _⟩ := isD_at I1 d
  refine ⟨t1, t2, ?_⟩
  rw [m.trees]
  refine Calls.callWith_builtin rfl (Calls.evalArgs_plain (Calls.spliced_cons (thn (he pins s1 σ H1 _ I1 q1) fun iv s2 ⟨y, H2, I2, ry, q2⟩ =>
    Calls.spliced_cons (thn (hf pins s2 σ H2 _ I2 q2) fun fv s3 ⟨z, H3, I3, rz, ov, g, q3⟩ => Calls.spliced_nil ?_))))
  exact d_get2 hu I3 g ry rz fun w' s4 I4 rw' => ⟨_, H3, I4, rw', q3⟩
theorem pe_dpop1 (ho : PE X o td) (he : PE X e ty) (m : M1 X o "pop" apos e cpos) : PE X (.Call (.Attribute o "pop" apos) [e] [] cpos) (tDPop1 td ty) := by
  intro pins s σ H Q I h
  refine wpAny_Call_method m.base m.few m.line PySem.F.plainAttrs_dict PySem.F.slot_dict_pop PySem.F.type_dict_pop (thn (ho pins s σ H _ I h) fun u s1 ⟨x, H1, I1, rx, a, ex, d, q1⟩ => ?_)
  subst ex
  obtain rfl : u = Value.ref a := rx
  obtain ⟨t1, t2, _⟩ := isD_at I1 d
  refine ⟨t1, t2, ?_⟩
  rw [m.trees]
  refine Calls.callWith_builtin rfl (Calls.evalArgs_plain (Calls.spliced_cons (thn (he pins s1 σ H1 _ I1 q1) fun iv s2 ⟨y, H2, I2, ry, kvs, k, v, ea, ey, l, q2⟩ => Calls.spliced_nil ?_)))
  subst ey
  exact d_pop I2 ea ry l (.inl rfl) fun w' s3 I3 rw' => ⟨v, _, I3, rw', q2⟩
end
section
variable {X : Cx} {pins : List (Addr × Obj)} {σ : St} {H : Hp} {s : Shared} {a : Addr} {kvs : List (Key × V)} {A : Around} {E : Value → Shared → Prop}
theorem d_copyOf {Q : Value → Shared → Prop} (I : Inv X pins σ H s) (e : Rd H a (.dK kvs)) (h : ∀ p s', H p = none → Inv X pins σ (upd H p (.dK kvs)) s' → Q (.ref p) s') : wpAny (model X.prog X.w) A (call (.type "dict") [.ref a]) Q E s := by
  obtain ⟨z, hd, vs, rel, dd⟩ := dk_rd I.hok e
  refine kt_call_dict hd dd (by rw [← rel.length]; exact z) fun h' dd' hs => ?_
  refine h _ _ (I.hok.fresh (Nat.le_refl _)) (I.laid (a := s.heap.objs.size) (o := .dK kvs) (t' := s.toks) (fun b q hq => ?_) (Nat.le_refl _) (dk_new z (beq_eq_false_iff_ne.mpr (Ne.symm (Nat.ne_of_lt I.big))) rel dd'))
  exact (hs.2 b (Nat.ne_of_lt (Heap.lt_size hq))).trans (Heap.get?_push_of_some _ hq)
end
section
variable {X : Cx} {pins : List (Addr × Obj)} {σ : St} {H : Hp} {s : Shared} {a : Addr} {y : V} {u : Value} {A : Around} {E : Value → Shared → Prop}
end
end L2
namespace L2
open PySem PySem.Spec PyProof.Rows
section
variable {prog : Program} {w : World} {A : Around} {E : Value → Shared → Prop}
end
section
variable {X : Cx}
end
end L2
namespace L2
open PySem PySem.Spec PyProof.Rows
section
variable {X : Cx} {pins : List (Addr × Obj)} {σ : St} {H : Hp} {s : Shared} {h' : Heap}
theorem Inv.turnedNew {t' : Nat} {ch : List Addr} {T : Addr} {ob : HO} (I : Inv X pins σ H s) (k : ∀ b o, b ∉ ch → s.heap.get? b = some o → h'.get? b = some o) (hf : ∀ b ∈ ch, FpOk X pins H b) (hT : s.heap.objs.size ≤ T)
    (new : ObjOk X.prog X.w (upd H T ob) h' T ob) : Inv X pins σ (upd H T ob) { s with heap := h', toks := t' } := by
  have hn : H T = none := I.hok.fresh hT
  have nit : ∀ b u, H b = some u → b ∉ ch := fun b u e z => by
    have q := (hf b z).1
    rw [q] at e; cases e
  refine I.step (g' := s.gens) (d' := s.drawn) (ch := ch) (fun b hb => ⟨(hf b hb).2.2.2.1, (hf b hb).2.1, (hf b hb).2.2.2.2.1, (hf b hb).2.2.2.2.2⟩) (fun b o _ _ hc e _ => k b o hc e) (fun b o _ _ hc e _ => ⟨o.slots, k b o hc e⟩)
    (fun b o _ e n => ?_) (fun b o hc e => ⟨o, k b o hc e⟩) (fun b xs e => ?_) (fun b o u e => ?_) (fun b ps e => ⟨#[], ?_⟩) (fun m hm => ?_) (fun b u e => ?_) I.bare
  · rw [upd_ne (Nat.ne_of_lt (Nat.lt_of_lt_of_le (Heap.lt_size e) hT))]; exact n
  · rw [upd_ne (ne_of_none e hn)]; exact e
  · rw [upd_ne (ne_of_none e hn)]; exact e
  · rw [upd_ne (ne_of_none e hn), e]; simp
  · obtain ⟨o, es, ep, ho, r⟩ := hm
    exact ⟨o, es, ep, k _ o (fun z => (hf _ z).2.1 rfl) ho, r⟩
  · by_cases hb : b = T
    · subst hb
      rw [upd_same] at e
      cases e
      exact new
    · rw [upd_ne hb] at e
      refine (I.hok b u e).stay (fun c v hc q => k c v ?_ q) (fun c q => by rw [upd_ne (ne_of_none q hn)]; exact q) fun c xs q => by rw [upd_ne (ne_of_none q hn)]; exact q
      rcases hc with z | z
      · rw [z]; exact nit b u e
      · exact nit c _ z
theorem Inv.lock {d : Addr} {u : HO} (I : Inv X pins σ H s) (h : H d = some u) (mu : Mut (some u)) : ∃ od, Inv X pins σ (upd H d (.frz od u)) s := by
  have x := I.hok d u h
  have ex : ∃ od, s.heap.get? d = some od := by
    cases u with
    | lst xs => obtain ⟨_, _, _, _, e⟩ := x; exact ⟨_, e⟩
    | dK kvs => obtain ⟨_, _, _, _, o, _, _, e, _⟩ := x; exact ⟨o, e⟩
    | dT kvs => obtain ⟨_, _, _, _, o, _, _, e, _⟩ := x; exact ⟨o, e⟩
    | set S n => obtain ⟨o, _, _, _, e, _⟩ := x; exact ⟨o, e⟩
    | ins C dx fs => obtain ⟨_, _, _, e, _⟩ := x; exact ⟨_, e⟩
    | ext φ => obtain ⟨_, ⟨_, e⟩, _⟩ := x; exact ⟨_, e⟩
    | _ => exact False.elim mu
  obtain ⟨od, e⟩ := ex
  have new : ObjOk X.prog X.w (upd H d (.frz od u)) s.heap d (.frz od u) := by
    refine ⟨e, x.stay (fun b v _ q => q) (fun b q => ?_) fun b xs q => ?_⟩
    · rw [upd_ne (fun z => by rw [z, h] at q; cases q; exact mu)]; exact q
    · rw [upd_ne (fun z => by rw [z, h] at q; cases q; exact mu)]; exact q
  exact ⟨od, I.write (x := d) (e := d) (t' := s.toks) (h' := s.heap) (by rw [h]; exact mu) (.inl rfl) (fun b v _ q => q) ⟨od, e⟩ new⟩
theorem Inv.nofrz {d : Addr} {u : HO} (I : Inv X pins σ H s) (h : H d = some u) (mu : Mut (some u)) : ∀ o' u', X.H_0 d ≠ some (.frz o' u') := fun o' u' e => by
  have q := I.base.frzs d o' u' e
  rw [h] at q
  cases q
  exact mu
theorem Inv.unlock {d : Addr} {od : Obj} {u : HO} (I : Inv X pins σ H s) (h : H d = some (.frz od u)) (hn : ∀ o' u', X.H_0 d ≠ some (.frz o' u')) : Inv X pins σ (upd H d u) s := by
  have neH : ∀ b o, H b = some o → (∀ o' u', o ≠ .frz o' u') → b ≠ d := fun b o e hne z => by
    rw [z, h] at e
    cases e
    exact hne _ _ rfl
  have neN : ∀ b, H b = none → b ≠ d := fun b e z => by rw [z, h] at e; cases e
  refine ⟨I.ok, I.os, I.bare, ⟨I.base.keep, I.base.slot, fun b o e n hx => ?_, I.base.there, fun b xs e => ?_, fun b o x e => ?_, fun b ps e => ?_⟩, I.loc, I.cell, ?_, fun x c e => ?_, fun p hp => ?_, fun b o e => ?_, I.len⟩
  · rw [upd_ne (neN b (I.base.free b o e n hx))]; exact I.base.free b o e n hx
  · have q := I.base.tups b xs e
    rw [upd_ne (neH b _ q (fun _ _ z => nomatch z))]; exact q
  · have q := I.base.frzs b o x e
    rw [upd_ne (fun z => by rw [z] at e; exact hn _ _ e)]; exact q
  · obtain ⟨m, q⟩ := I.base.tbls b ps e
    exact ⟨m, by rw [upd_ne (neH b _ q (fun _ _ z => nomatch z))]; exact q⟩
  · rw [upd_ne (neN _ I.free)]; exact I.free
  · rw [upd_ne (neN c (I.freeC x c e))]; exact I.freeC x c e
  · obtain ⟨e, n, r⟩ := I.pin p hp
    exact ⟨e, by rw [upd_ne (neN _ n)]; exact n, r⟩
  · by_cases hb : b = d
    · rw [hb, upd_same] at e
      cases e
      rw [hb]
      obtain ⟨_, x⟩ := I.hok d _ h
      exact x.stay (fun c v _ q => q) (fun c q => by rw [upd_ne (neH c _ q (fun _ _ z => nomatch z))]; exact q) fun c xs q => by rw [upd_ne (neH c _ q (fun _ _ z => nomatch z))]; exact q
    · rw [upd_ne hb] at e
      exact (I.hok b o e).stay (fun c v _ q => q) (fun c q => by rw [upd_ne (neH c _ q (fun _ _ z => nomatch z))]; exact q) fun c xs q => by rw [upd_ne (neH c _ q (fun _ _ z => nomatch z))]; exact q
end
def tLock (t : TS) : TS := fun D σ H => ∃ d u, H d = some u ∧ Mut (some u) ∧ ∀ od, t ⟨fun σ' H' => H' d = some (.frz od u) ∧ D.nx σ' (upd H' d u), fun v H' => H' d = some (.frz od u) ∧ D.rt v (upd H' d u), fun σ' H' => H' d = some (.frz od u) ∧ D.bk σ' (upd H' d u), fun σ' H' => H' d = some (.frz od u) ∧ D.ct σ' (upd H' d u)⟩ σ (upd H d (.frz od u))
def tLockE (t : TE) : TE := fun σ H Q => ∃ d u, H d = some u ∧ Mut (some u) ∧ ∀ od, t σ (upd H d (.frz od u)) fun v H' => H' d = some (.frz od u) ∧ Q v (upd H' d u)
section
variable {X : Cx}
theorem ps_lock {st : Stmt} {t : TS} (h : PS X st t) : PS X st (tLock t) := by
  intro pins s σ H D I hw
  obtain ⟨d, u, hd, mu, hw⟩ := hw
  obtain ⟨od, I1⟩ := I.lock hd mu
  refine thn (h pins s σ _ _ I1 (hw od)) fun f s1 q => ?_
  cases f with
  | next => obtain ⟨σ', H', I2, e, q⟩ := q; exact ⟨σ', _, I2.unlock e (I.nofrz hd mu), q⟩
  | brk => obtain ⟨σ', H', I2, e, q⟩ := q; exact ⟨σ', _, I2.unlock e (I.nofrz hd mu), q⟩
  | cont => obtain ⟨σ', H', I2, e, q⟩ := q; exact ⟨σ', _, I2.unlock e (I.nofrz hd mu), q⟩
  | ret v => obtain ⟨x, σ', H', I2, r, e, q⟩ := q; exact ⟨x, σ', _, I2.unlock e (I.nofrz hd mu), r, q⟩
theorem pi_one {tg : Expr} {pins : List (Addr × Obj)} {σ : St} {H : Hp} {s : Shared} {R : It → Hp → Prop} {J : It} {tn : Nat → Heap → Prop} {tk : Nat} (I : Inv X pins σ H s) (o : Obj)
    (T : Turn X.prog X.w X.K tg J [s.heap.objs.size] s.heap.objs.size tn) (st : tn 0 (s.heap.push o)) (q : R J H) : PIE X pins σ tg R (.ref s.heap.objs.size) { s with heap := s.heap.push o, toks := tk } := by
  refine ⟨s.heap.objs.size, [s.heap.objs.size], tn, J, H, rfl, I.kept fun b ob e => Heap.get?_push_of_some _ e, T, st, fun b hb => ?_, q⟩
  have e : b = s.heap.objs.size := by simpa using hb
  subst e
  exact I.fpOk (Nat.le_refl _) (I.hok.fresh (Nat.le_refl _))
end
def Itc (lo c : Int) (n : Nat) : It := ⟨fun i _ => i < n, fun i H x H' => H' = H ∧ x = .int (lo + (i : Nat) * c), fun i _ => n ≤ i⟩
def RgC (i j c : Int) (n : Nat) : Prop := c ≠ 0 ∧ c.natAbs < 1073741824 ∧ Builtin.Range.small i j c = true ∧ Builtin.Range.rangeSize i j c = n
def iRng3 (ta : TA) : TI := fun σ H R => ta σ H fun vs H1 => ∃ (i j c : Int) (n : Nat), vs = [.int i, .int j, .int c] ∧ RgC i j c n ∧ R (Itc i c n) H1
section
variable {X : Cx} {tg : Expr}
end
def Itv (K : PySem.W.Frag) (a : Addr) (n : Nat) : It :=
  ⟨fun i H => i < n ∧ ∃ (xs : List V) (x : V), SqL K H a xs ∧ xs[n - 1 - i]? = some x, fun i H x H' => H' = H ∧ ∀ xs, SqL K H a xs → xs[n - 1 - i]? = some x, fun i _ => n ≤ i⟩
def iRev (K : PySem.W.Frag) (ta : TA) : TI := fun σ H R => ta σ H fun vs H1 => ∃ (a : Addr) (xs : List V), vs = [.ref a] ∧ SqL K H1 a xs ∧ R (Itv K a xs.length) H1
section
variable {X : Cx} {tg : Expr}
end
def Its (x : Str) : It := ⟨fun i _ => i < x.cps.size, fun i H v H' => H' = H ∧ ∃ c, x.cps[i]? = some c ∧ v = .str ⟨#[c]⟩, fun i _ => x.cps.size ≤ i⟩
def iStr (te : TE) : TI := fun σ H R => te σ H fun v H1 => ∃ x, v = .str x ∧ R (Its x) H1
section
variable {prog : Program} {w : World} {A : Around} {E : Value → Shared → Prop} {s : Shared}
end
theorem kv_get {κ : Type} {kvs : List (κ × V)} {vs : List (κ × Value)} (h : KV kvs vs) : ∀ {i : Nat} {k : κ} {v : V}, kvs[i]? = some (k, v) → ∃ u, vs[i]? = some (k, u) ∧ RelV v u := by
  unfold KV at h
  induction h with
  | nil => intro i k v e; simp at e
  | @cons a b l₁ l₂ r t ih =>
    intro i k v e
    cases i with
    | zero =>
      simp only [List.getElem?_cons_zero, Option.some.injEq] at e
      subst e
      refine ⟨b.2, ?_, r.2⟩
      simp only [List.getElem?_cons_zero]
      exact congrArg some (Prod.ext r.1.symm rfl)
    | succ j =>
      simp only [List.getElem?_cons_succ] at e ⊢
      exact ih e
theorem relV_key {k : Key} {u : Value} (h : keyIs k u = true) : RelV (kV k) u := by
  rcases keyIs_shape h with ⟨i, t, rfl, rfl⟩ | ⟨x, t, rfl, rfl⟩
  · exact ⟨t, rfl⟩
  · exact ⟨t, rfl⟩
section
variable {X : Cx} {pins : List (Addr × Obj)} {σ : St} {H : Hp} {s : Shared} {d : Addr} {o : Obj}
theorem Inv.frzK {kvs : List (Key × V)} (I : Inv X pins σ H s) (h : H d = some (.frz o (.dK kvs))) :
    (d == sysModules) = false ∧ s.heap.get? d = some o ∧ o.ExactDict ∧ ∃ (es : Array DictEntry) (ep : Nat) (vs : List (Key × Value)), o.data = .dict es ep ∧ es.size = kvs.length ∧ KV kvs vs ∧ s.heap.DictAt (mixKind X.prog X.w) d vs ep := by
  obtain ⟨hd, z, hs, vs, kv, o', es, ep, ho, hx, hdt, r⟩ := I.hok d _ h
  rw [hd] at ho
  cases ho
  refine ⟨hs, hd, hx, es, ep, vs, hdt, ?_, kv, o, es, hd, hx, hdt, r⟩
  have l1 := r.2.1.length
  have l2 : kvs.length = vs.length := Paired.length kv
  rw [Array.length_toList] at l1
  omega
end
def Itk (d : Addr) (o : Obj) (kvs : List (Key × V)) : It :=
  ⟨fun i H => H d = some (.frz o (.dK kvs)) ∧ i < kvs.length, fun i H x H' => H' = H ∧ ∃ k v, kvs[i]? = some (k, v) ∧ x = kV k, fun i H => H d = some (.frz o (.dK kvs)) ∧ kvs.length ≤ i⟩
def Itkt (d : Addr) (o : Obj) (kvs : List (List Key × V)) : It :=
  ⟨fun i H => H d = some (.frz o (.dT kvs)) ∧ i < kvs.length, fun i H x H' => H' = H ∧ ∃ (k : List Key) (v : V) (q : Addr), kvs[i]? = some (k, v) ∧ x = .ref q ∧ H q = some (.tup (k.map kV)), fun i H => H d = some (.frz o (.dT kvs)) ∧ kvs.length ≤ i⟩
def Itd (d : Addr) (o : Obj) (kvs : List (Key × V)) : It :=
  ⟨fun i H => H d = some (.frz o (.dK kvs)) ∧ i < kvs.length, fun i H x H' => H' = H ∧ ∃ k, kvs[i]? = some (k, x), fun i H => H d = some (.frz o (.dK kvs)) ∧ kvs.length ≤ i⟩
def Iti (d : Addr) (o : Obj) (kvs : List (Key × V)) : It :=
  ⟨fun i H => H d = some (.frz o (.dK kvs)) ∧ i < kvs.length, fun i H x H' => ∃ T k v, kvs[i]? = some (k, v) ∧ x = .ref T ∧ H T = none ∧ H' = upd H T (.tup [kV k, v]), fun i H => H d = some (.frz o (.dK kvs)) ∧ kvs.length ≤ i⟩
theorem dict_ep {o : Obj} {es es' : Array DictEntry} {ep ep' : Nat} (h : o.data = .dict es ep) (h' : o.data = .dict es' ep') : es' = es ∧ ep' = ep := by
  rw [h] at h'
  cases h'
  exact ⟨rfl, rfl⟩
section
variable {P : Program} {w : World} {K : PySem.W.Frag} {tg : Expr} {d : Addr} {o : Obj} {es : Array DictEntry} {ep : Nat}
theorem turn_items {kvs : List (Key × V)} {elts : List Expr} {kk : Nat} {tpos : Pos} (it : Addr) (hod : o.data = .dict es ep) :
    Turn P w K (.Tuple elts kk tpos) (Iti d o kvs) [it] it (fun i h => ∃ ok ov, IsItemIter h it d i kvs.length ep ok ov) where
  mem := by simp
  obj := fun i h st b hb => by
    have e : b = it := by simpa using hb
    subst e
    obtain ⟨ok, ov, e⟩ := st
    exact ⟨_, e, fun v z => nomatch z⟩
  keep := fun i h h' st k => let ⟨ok, ov, e⟩ := st; ⟨ok, ov, k it (by simp) _ e⟩
  item := by
    intro X hP hw hK hc i pins s σ H E I hf st hg
    subst hP hw hK
    obtain ⟨hd, hi⟩ := hg
    obtain ⟨hs, hgd, hx, es', ep', vs, hdt, hsz, kv, hm⟩ := I.frzK hd
    obtain ⟨rfl, rfl⟩ := dict_ep hod hdt
    obtain ⟨⟨k, v⟩, hkv⟩ : ∃ p, kvs[i]? = some p := ⟨kvs[i], List.getElem?_eq_getElem hi⟩
    obtain ⟨u, hu, ru⟩ := kv_get kv hkv
    have hl : kvs.length = vs.length := Paired.length kv
    obtain ⟨ok, ov, he⟩ := st
    rw [hl] at he
    have hlt : it < s.heap.objs.size := Heap.lt_size he
    refine wpAny_pyNext_items_item he hm hu fun key h' hkey ho hT hz hk => ?_
    refine ⟨_, rfl, wpAny_letOwnedTupleGo_items (s := { s with heap := h' }) ho fun h'' he' sb => ?_⟩
    have hT2 : h''.get? s.heap.objs.size = some { cls := .type "tuple", data := .seq #[key, u] } := (sb.2 _ (Nat.ne_of_gt hlt)).trans hT
    have new : ObjOk X.prog X.w (upd H s.heap.objs.size (.tup [kV k, v])) h'' s.heap.objs.size (.tup [kV k, v]) :=
      ⟨by show 2 ≤ sizeLine; decide, [key, u], .cons (relV_key (show keyIs k key = true from hkey)) (.cons ru .nil), ⟨_, hT2, rfl, _, rfl⟩⟩
    have I1 : Inv X pins σ (upd H s.heap.objs.size (.tup [kV k, v])) { s with heap := h'' } :=
      I.turnedNew (t' := s.toks) (ch := [it]) (fun b ob hb e => (sb.2 b (by simpa using hb)).trans (hk b ob (by simpa using hb) e)) hf (Nat.le_refl _) new
    refine ⟨.ref s.heap.objs.size, _, I1, rfl, ⟨_, k, v, hkv, rfl, I.hok.fresh (Nat.le_refl _), rfl⟩, ⟨key, u, ?_⟩, fun b hb => ?_⟩
    · rw [hl]; exact he'
    · have e : b = it := by simpa using hb
      rw [e, upd_ne (Nat.ne_of_lt hlt)]
      exact (hf it (by simp)).1
  done := by
    intro X hP hw hK hc i pins s σ H E I hf st hg
    subst hP hw hK
    obtain ⟨hd, hi⟩ := hg
    obtain ⟨f0, f1, f2, f3, f4, f5⟩ := hf it (by simp)
    obtain ⟨hs, hgd, hx, es', ep', vs, hdt, hsz, kv, hm⟩ := I.frzK hd
    obtain ⟨rfl, rfl⟩ := dict_ep hod hdt
    have hl : kvs.length = vs.length := Paired.length kv
    obtain ⟨ok, ov, he⟩ := st
    rw [hl] at he
    exact wpAny_pyNext_items_end (I.ok.hd hc) he hm (List.getElem?_eq_none (by omega)) fun h' eb => ⟨rfl, I.turned (t' := s.toks) (fun b ob hb e => eb b ob hb e) f0 f1 f3 f4 f5⟩
  self := fun A i s Q E st h => let ⟨_, _, e⟩ := st; PySem.W.kcp_self e h
end
def iKeys (td : TE) : TI := fun σ H R => td σ H fun x H1 => ∃ d o, x = .ref d ∧ ((∃ kvs, H1 d = some (.frz o (.dK kvs)) ∧ R (Itk d o kvs) H1) ∨ ∃ kvs, H1 d = some (.frz o (.dT kvs)) ∧ R (Itkt d o kvs) H1)
def iVals (td : TE) : TI := fun σ H R => td σ H fun x H1 => ∃ d o kvs, x = .ref d ∧ H1 d = some (.frz o (.dK kvs)) ∧ R (Itd d o kvs) H1
def iItems (td : TE) : TI := fun σ H R => td σ H fun x H1 => ∃ d o kvs, x = .ref d ∧ H1 d = some (.frz o (.dK kvs)) ∧ R (Iti d o kvs) H1
def iKeysM (td : TE) : TI := fun σ H R => td σ H fun x H1 => ∃ d o kvs, x = .ref d ∧ H1 d = some (.frz o (.dK kvs)) ∧ R (Itk d o kvs) H1
section
variable {X : Cx} {tg e : Expr} {td : TE} {apos cpos : Pos}
theorem pi_items {elts : List Expr} {kk : Nat} {tpos : Pos} (he : PE X e td) (hbase : attributeBase e "items" X.env (eval e X.env) = eval e X.env := by rfl) (hline : (apos.endLine == cpos.line) = true := by rfl) :
    PI X (.Tuple elts kk tpos) (.Call (.Attribute e "items" apos) [] [] cpos) (iItems td) := by
  intro pins s σ H R I h
  refine wpAny_Call_method (T := "dict") (id := "dict.items") hbase rfl hline F.plainAttrs_dict F.slot_dict_items F.type_dict_items (thn (he pins s σ H _ I h) fun u s1 ⟨x, H1, I1, rx, d, o, kvs, ex, hd, q⟩ => ?_)
  subst ex
  obtain rfl : u = Value.ref d := rx
  obtain ⟨hs, hgd, hx, es, ep, vs, hdt, hsz, kv, hm⟩ := I1.frzK hd
  have hl : kvs.length = vs.length := Paired.length kv
  refine ⟨hm.dictOf.typeIs, hm.dictOf.mapOf.noDict, ?_⟩
  have I2 : Inv X pins σ H1 { s1 with heap := s1.heap.push { cls := .type "dict_items", data := .fields #[.ref d] } } := I1.kept (t' := s1.toks) fun b ob q => Heap.get?_push_of_some _ q
  have fin : wpAny (model X.prog X.w) X.A (pyIter (.ref s1.heap.objs.size)) (PIE X pins σ (.Tuple elts kk tpos) R) X.xe { s1 with heap := s1.heap.push { cls := .type "dict_items", data := .fields #[.ref d] } } := by
    refine wpAny_pyIter_items (d := d) (knd := mixKind X.prog X.w) ⟨_, Heap.get?_push_size _ rfl, rfl, rfl⟩ (hm.push _) (pi_one (tk := s1.toks) I2 _ (turn_items _ hdt) ⟨.none, .none, ?_⟩ q)
    rw [hl]
    exact Heap.get?_push_size _ rfl
  show wpAny _ _ (callWith cpos (.builtin "dict.items") [.ref d] [] []) _ X.xe s1
  exact method_meetsIn F.slot_dict_items F.entry_dict_items rfl (PySem.evalArgs_none ⟨rfl, hm.dictOf.typeIs, F.args_dict_items_1 _, _, meets_dict_items (mixKind X.prog X.w) d hs, ⟨vs, hm.dictOf⟩, fin⟩)
end
def Ite (K : PySem.W.Frag) (a : Addr) : It :=
  ⟨fun i H => ∃ (xs : List V) (x : V), SqL K H a xs ∧ xs[i]? = some x, fun i H v H' => ∃ T x, v = .ref T ∧ H T = none ∧ H' = upd H T (.tup [.int (i : Nat), x]) ∧ ∀ xs, SqL K H a xs → xs[i]? = some x, fun i H => ∃ xs : List V, SqL K H a xs ∧ xs.length ≤ i⟩
def iEnum (K : PySem.W.Frag) (ta : TA) : TI := fun σ H R => ta σ H fun vs H1 => ∃ a xs, vs = [.ref a] ∧ SqL K H1 a xs ∧ R (Ite K a) H1
def Itz (K : PySem.W.Frag) (a b : Addr) : It :=
  ⟨fun i H => ∃ (xs ys : List V) (x y : V), SqL K H a xs ∧ SqL K H b ys ∧ xs[i]? = some x ∧ ys[i]? = some y,
    fun i H v H' => ∃ T x y, v = .ref T ∧ H T = none ∧ H' = upd H T (.tup [x, y]) ∧ (∀ xs, SqL K H a xs → xs[i]? = some x) ∧ ∀ ys, SqL K H b ys → ys[i]? = some y,
    fun i H => ∃ xs ys : List V, SqL K H a xs ∧ SqL K H b ys ∧ (xs.length ≤ i ∨ ys.length ≤ i)⟩
def iZip (K : PySem.W.Frag) (ta : TA) : TI := fun σ H R => ta σ H fun vs H1 => ∃ a b xs ys, vs = [.ref a, .ref b] ∧ SqL K H1 a xs ∧ SqL K H1 b ys ∧ R (Itz K a b) H1
end L2
section 
namespace Bits
open PySem PyProof.Rows
end Bits
end 
section 
namespace TL
open PySem PySem.Builtin PySem.Builtin.Str PySem.StrLaws
abbrev tl (x : Str) : List Nat := x.cps.toList
def pre (S l : List Nat) : Bool := l.take S.length == S
def spl (S : List Nat) : Nat → List Nat → List Nat → List (List Nat)
  | _, acc, [] => [acc]
  | 0, acc, c :: r => if pre S (c :: r) = true then acc :: spl S (S.length - 1) [] r else spl S 0 (acc ++ [c]) r
  | k + 1, acc, _ :: r => spl S k acc r
def par (S : List Nat) : List Nat → List Nat → Option (List Nat × List Nat)
  | _, [] => none
  | acc, c :: r => if pre S (c :: r) = true then some (acc, (c :: r).drop S.length) else par S (acc ++ [c]) r
def joinL (S : List Nat) : List (List Nat) → List Nat
  | [] => []
  | [p] => p
  | p :: q :: r => p ++ (S ++ joinL S (q :: r))
def numL (n : Nat) : List Nat := (Nat.toDigits 10 n).map Char.toNat
def wstep (st : List (List Nat) × List Nat) (c : Nat) : List (List Nat) × List Nat :=
  if Unicode.isSpace c = true then (if st.2 = [] then st else (st.1 ++ [st.2], [])) else (st.1, st.2 ++ [c])
def wfin (st : List (List Nat) × List Nat) : List (List Nat) := if st.2 = [] then st.1 else st.1 ++ [st.2]
end TL
end 
namespace L2
open PySem PySem.Spec PyProof.Rows
def rNewStrs (ys : List Str) : Hp → VK → Prop := fun H Q => ∀ p, H p = none → Q (.ref p) (upd H p (.lst (ys.map V.str)))
section
variable {X : Cx} {pins : List (Addr × Obj)} {σ : St} {H : Hp} {s : Shared} {Q : VK}
end
section
variable {X : Cx}
end
section
variable {X : Cx} {o e : Expr} {to te : TE}
def tM0 (r : V → List V → Hp → VK → Prop) (to : TE) : TE := fun σ H Q => to σ H fun x H1 => (∃ a, x = .str a) ∧ r x [] H1 Q
def tM1 (r : V → List V → Hp → VK → Prop) (to te : TE) : TE := fun σ H Q => to σ H fun x H1 => (∃ a, x = .str a) ∧ te σ H1 fun y H2 => r x [y] H2 Q
end
end L2
namespace L2
open PySem PySem.Spec PyProof.Rows
section
variable {X : Cx}
end
def clipS (n d : Nat) : Option Int → Int
  | none => (d : Int)
  | some i => max 0 (min (if i < 0 then i + (n : Int) else i) (n : Int))
def cutS (z : Str) (lo hi : Option Int) : Str :=
  ⟨((z.cps.toList.drop (HT.sIx z.length 0 lo)).take (HT.sIx z.length z.length hi - HT.sIx z.length 0 lo)).toArray⟩
def rSlS : V → Option Int → Option Int → Hp → VK → Prop := fun x lo hi H Q => ∃ z, x = .str z ∧ z.length ≤ sizeLine ∧ Q (.str (cutS z lo hi)) H
end L2
namespace Att
open PySem PySem.W PySem.Calls PyProof.Rows
section
variable {prog : Program} {w : World} {A : Around} {E : Value → Shared → Prop} {s : Shared} {K : Frag}
def noObjs (h : Heap) : Heap := { h with objs := #[] }
def ledger (h : Heap) (L d : Addr) : List (Addr × Obj) := (List.range h.objs.size).filterMap fun a => if a = L ∨ a = d then none else (h.get? a).map fun o => (a, o)
end
end Att
namespace L2
open PySem PySem.Spec PyProof.Rows
def Only (H : Hp) : Prop := ∀ b, H b = none ∨ ∃ o xs, H b = some (.frz o (.lst xs))
end L2
namespace L2
open PySem PySem.Spec PyProof.Rows
abbrev KOf {K : PySem.W.Frag} {h : Heap} (_ : K.In h) : PySem.W.Frag := K
end L2
/- THE LAST THEOREM (shape; LID, My.* are yours):
   My.Adr: a structure of the addresses that your layer names (classes, functions); My.Txt K t: a structure (Prop) of the equations over K;
   My.txt_mk : {K} {implicit addresses ..} (e1 : nsIn K mainGlobals "law" = some (some (.ref f))) (e2 : K.lookup f = some ⟨oc, od, .func (fnOf "law" "law" params body scope dV kV doc pm an cdv ct), sl⟩) (e3 : codeIn K cdv "law" = true) .. : ∃ t, My.Txt K t
set_option maxRecDepth 100000 in
set_option maxHeartbeats 0 in
theorem PySem.Challenge.cw_LID_holds : PySem.Challenge.rw_LID.Holds := by
  w_on; o_law; k_head; (case hw => w_witness2)
  k_fill
  refine L2.walk_of (l := PySem.Challenge.rw_LID) (n := 63) (k := 40) (x := "script") (CX := fun w => ..) (sp := fun _ => My.sp_law) rfl (by decide) rfl ⟨rfl, by decide, by decide⟩ (fun w h Y => PySem.W.kIn_of Y) ?F ?S ?C
  case F =>
    intro w mg fa h KX G hmg
    have T : ∃ t, My.Txt (L2.KOf KX) t := by
      dsimp only [L2.KOf]                          -- K must stand as «<heap const> w.params» for k_is
      refine' My.txt_mk ?e1 ?e2 ?e3 ..
      (case e1 => PySem.W.k_is)                    -- in the order: a name -> its address -> its object -> its parts
      (case e2 => PySem.W.k_is)
      ..
    obtain ⟨t, T⟩ := T
    have e0 := hmg.symm.trans (PySem.W.mg_of KX G T.law)
    cases e0                                       -- fa is the law's own address
    exact ⟨_, fun s u => .of_eq rfl, fun base kb nb => My.law_fn T kb nb⟩     -- if «.of_eq rfl» comes too early: refine' ⟨_, ?b, fun base kb nb => My.law_fn T kb nb⟩; exact fun s u => .of_eq rfl
  case S => exact fun w H a ns hl hO hS => ..
  case C => exact ..
(the tactic k_is has no namespace: write k_is) -/
namespace L2
open PySem PySem.Spec PyProof.Rows
def inClass (s : Stmt) (j : Nat) : Stmt := match s with
  | .ClassDef _ _ _ body _ _ _ _ _ _ _ => body.getD j (.Pass ⟨0, 0, 0, 0⟩)
  | _ => .Pass ⟨0, 0, 0, 0⟩
def defArgs (s : Stmt) : Arguments := match s with
  | .FunctionDef _ a _ _ _ _ _ _ _ _ => a
  | _ => { posonlyargs := [], args := [], vararg := none, kwonlyargs := [], kw_defaults := [], kwarg := none, defaults := [] }
def defBody (s : Stmt) : List Stmt := match s with
  | .FunctionDef _ _ b _ _ _ _ _ _ _ => b
  | _ => []
def defScope (s : Stmt) : Scope := match s with
  | .FunctionDef _ _ _ _ _ _ sc _ _ _ => sc
  | _ => { kind := .function, names := [], isGenerator := false, isCoroutine := false }
abbrev CX0 : CXT := fun _ _ _ _ _ _ => False
abbrev E0 : XK := fun _ _ _ => False
theorem pass0 {X : Cx} : Passes CX0 X E0 := fun _ _ _ _ _ _ _ h => h.elim
structure Fun (K : PySem.W.Frag) (x qual : Str) (st : Stmt) (f : Addr) (fd : FuncData) : Prop where
  ex : ∃ (oc : Value) (od : Option Addr) (kV doc pm : Value) (an : Option Addr) (cdv ct : Value) (osl : Array (Option Value)),
    fd = PySem.W.fnOf x qual (defArgs st) (defBody st) (defScope st) .none kV doc pm an cdv ct ∧ K.lookup f = some ⟨oc, od, .func fd, osl⟩ ∧ PySem.W.codeIn K cdv qual = true
  kp : PySem.W.keepIn K (.ref f) = true
section
variable {P : Program} {w : World} {K : PySem.W.Frag} {mg : Str → Option Value} {base : Heap}
theorem Fun.ok {x qual : Str} {st : Stmt} {f : Addr} {fd : FuncData} {N ps : List Str} {k : Nat} {sp : Sp} (F : Fun K x qual st f fd) (S : FnScope N ps (defScope st)) (len : ∀ vs H Q E, sp vs H Q E → vs.length = ps.length)
    (hbody : ∀ (cdv : Value) (A : Around) (outer : List Env) (s : Shared) (H : Hp) (vs : List V) (Q : VK) (E : XK), Room k (A.deeper (envOfC qual (defScope st) s.heap.objs.size f cdv)) → sp vs H Q E →
      ∃ t, PSs (cxOf CX0 P w K mg base N qual (defScope st) f cdv A outer s H E).nox (defBody st) t ∧ t { nx := fun _ H' => Q .non H', rt := Q } (start N vs) H) : FnOk P w K mg base CX0 (k + 1) f fd ps sp := by
  obtain ⟨oc, od, kV, doc, pm, an, cdv, ct, osl, rfl, lk, hcd⟩ := F.ex
  refine fn_of lk hcd S len fun A outer s H vs Q E hr hsp => ?_
  obtain ⟨t, h, q⟩ := hbody cdv A outer s H vs Q E hr hsp
  exact ⟨t, h.nox, q⟩
theorem Fun.binds {x qual : Str} {st : Stmt} {f : Addr} {fd : FuncData} {ps : List Str} (F : Fun K x qual st f fd)
    (h : ∀ (kV doc pm : Value) (an : Option Addr) (cdv ct : Value) (us : List Value), us.length = ps.length → bindArgs (PySem.W.fnOf x qual (defArgs st) (defBody st) (defScope st) .none kV doc pm an cdv ct) ⟨us, []⟩ = pure (ps.zip us)) : Binds K fd ps [] := by
  obtain ⟨oc, od, kV, doc, pm, an, cdv, ct, osl, rfl, lk, hcd⟩ := F.ex
  exact .all (h kV doc pm an cdv ct)
theorem fun_mk {x qual : Str} {st : Stmt} {f : Addr} {oc : Value} {od an : Option Addr} {osl : Array (Option Value)} {kV doc pm cdv ct : Value} (l : K.lookup f = some ⟨oc, od, .func (PySem.W.fnOf x qual (defArgs st) (defBody st) (defScope st) .none kV doc pm an cdv ct), osl⟩)
    (c : PySem.W.codeIn K cdv qual = true) (k : PySem.W.keepIn K (.ref f) = true) : Fun K x qual st f (PySem.W.fnOf x qual (defArgs st) (defBody st) (defScope st) .none kV doc pm an cdv ct) := ⟨⟨oc, od, kV, doc, pm, an, cdv, ct, osl, rfl, l, c⟩, k⟩
end
theorem hu_of {A : Around} {k : Nat} (hr : Room k A) : A.units + 1 < cLine := Nat.lt_of_le_of_lt (Nat.add_le_add_left (by decide : 1 ≤ 64) _) hr.units
theorem small1000 {n : Nat} (h : n ≤ 1000) : n < sizeLine := Nat.lt_of_le_of_lt h (by decide)
section
variable {X : Cx}
theorem pv (i : Nat) {x : Str} {pos : Pos} (hN : X.N[i]? = some x := by rfl) (hv : Vis X.env.scope x := by first | exact Or.inl rfl | exact Or.inr (Or.inl rfl) | exact Or.inr (Or.inr rfl)) (hd : (x == ("__debug__" : Str)) = false := by decide)
    (hcd : (x == ("__classdict__" : Str)) = false := by decide) : PE X (.Name x pos) (tVar i) := pe_var hN hv hd hcd
theorem call_lenD : CallR X (.builtin "len") (fun xs H Q => ∃ a kvs, xs = [V.ref a] ∧ H a = some (.dK kvs) ∧ Q (.int kvs.length) H) := by
  intro pins s σ H xs us Q I r h
  obtain ⟨a, kvs, rfl, ha, q⟩ := h
  obtain ⟨u, rfl, ru⟩ := vals1 r
  cases ru
  exact d_len I (.inl ha) fun t s' I' => ⟨.int kvs.length, H, I', ⟨t, rfl⟩, q⟩
end
theorem iteF {A B : Prop} (h : B) : if false = true then A else B := by
  rw [if_neg Bool.false_ne_true]
  exact h
theorem iteT {A B : Prop} (h : A) : if true = true then A else B := by
  rw [if_pos rfl]
  exact h
theorem ite2 {c A B : Prop} [Decidable c] (h1 : c → A) (h2 : ¬ c → B) : if c then A else B := by
  by_cases h : c
  · rw [if_pos h]
    exact h1 h
  · rw [if_neg h]
    exact h2 h
def Same (H H' : Hp) : Prop := ∀ b o, H b = some o → H' b = some o
theorem Same.trans {H H1 H2 : Hp} (a : Same H H1) (b : Same H1 H2) : Same H H2 := fun c o h => b c o (a c o h)
theorem Same.free {H H' : Hp} (e : Same H H') {l : Addr} (h : H' l = Option.none) : H l = Option.none := by
  cases q : H l with
  | none => rfl
  | some o =>
    rw [e l o q] at h
    cases h
section
variable {κ : Type} [DecidableEq κ]
end
theorem at_of {xs : List V} {z : Int} {j : Nat} {v : V} (e : z = (j : Int)) (h : xs[j]? = some v) : atI xs z = some v := by
  rw [e]
  exact atI_nat h
end L2
section
set_option Elab.async false
set_option linter.all false
set_option maxRecDepth 100000
set_option maxHeartbeats 2000000
namespace L2
open PySem PySem.Spec PyProof.Rows
open PySem.W (WData Codec OpenSpec Well WellAll ReadsW ReadsAllW)
mutual
inductive Dw (K : PySem.W.Frag) (H : Hp) : V → WData → Prop
  | non : Dw K H .non .none
  | bl (b : Bool) : Dw K H (.bl b) (.bool b)
  | int (i : Int) : Dw K H (.int i) (.int i)
  | str (x : Str) : Dw K H (.str x) (.str x)
  | byt (b : Array UInt8) : Dw K H (.byt b) (.bytes b.toList)
  | lst {a : Addr} {xs : List V} {ds : List WData} : SqL K H a xs → DwAll K H xs ds → Dw K H (.ref a) (.list ds)
  | tup {a : Addr} {xs : List V} {ds : List WData} : SqT K H a xs → DwAll K H xs ds → Dw K H (.ref a) (.tuple ds)
inductive DwAll (K : PySem.W.Frag) (H : Hp) : List V → List WData → Prop
  | nil : DwAll K H [] []
  | cons {v : V} {vs : List V} {d : WData} {ds : List WData} : Dw K H v d → DwAll K H vs ds → DwAll K H (v :: vs) (d :: ds)
end
theorem dw_ints {K : PySem.W.Frag} {H : Hp} : ∀ ns : List Int, DwAll K H (ns.map V.int) (ns.map WData.int)
  | [] => .nil
  | n :: r => .cons (.int n) (dw_ints r)
theorem ints_dw {K : PySem.W.Frag} {H : Hp} : ∀ (ns : List Int) (xs : List V), DwAll K H xs (ns.map WData.int) → xs = ns.map V.int
  | [], xs, h => by
    cases h
    rfl
  | n :: r, xs, h => by
    cases h with
    | cons h1 h2 =>
      cases h1
      rw [ints_dw r _ h2] <;> rfl
section
variable {P : Program} {w : World} {K : PySem.W.Frag} {H : Hp} {h : Heap} {R : PySem.W.WRecords} {cl : Str → Option Addr}
theorem sqL_at {a : Addr} {xs : List V} (hok : HOk P w H h) (KX : K.In h) (q : SqL K H a xs) : ∃ (its : List Value) (o : Obj) (n : Nat), Vals xs its ∧ h.get? a = some o ∧ o.cls = .type "list" ∧ o.data = .seq its.toArray n := by
  rcases q with q | ⟨o, its, n, e, hc, _, hd, _, hv⟩
  · obtain ⟨_, its, n, hv, e⟩ := (show ObjOk P w H h a (.lst xs) from q.ok hok)
    exact ⟨its, _, n, hv, e, rfl, rfl⟩
  · exact ⟨its.toList, o, n, hv, KX _ _ e, hc, by simp [hd]⟩
theorem sqT_at {a : Addr} {xs : List V} (hok : HOk P w H h) (KX : K.In h) (q : SqT K H a xs) : ∃ (its : List Value) (o : Obj) (n : Nat), Vals xs its ∧ h.get? a = some o ∧ o.cls = .type "tuple" ∧ o.data = .seq its.toArray n := by
  rcases q with q | ⟨o, its, n, e, hc, hd, _, hv⟩
  · obtain ⟨_, its, hv, o, e, hc, n, hd⟩ := (show ObjOk P w H h a (.tup xs) from q.ok hok)
    exact ⟨its, o, n, hv, e, hc, hd⟩
  · exact ⟨its.toList, o, n, hv, KX _ _ e, hc, by simp [hd]⟩
mutual
theorem Dw.reads (hok : HOk P w H h) (KX : K.In h) : ∀ (d : WData) (v : V) (u : Value), Dw K H v d → RelV v u → ∃ as, ReadsW R cl h u d as
  | .none, _, _, x, r => by
    cases x
    cases r
    exact ⟨_, ReadsW.none⟩
  | .bool b, _, _, x, r => by
    cases x
    cases r
    exact ⟨_, ReadsW.bool b⟩
  | .int i, _, _, x, r => by
    cases x
    obtain ⟨t, rfl⟩ := r
    exact ⟨_, ReadsW.int i t⟩
  | .str s, _, _, x, r => by
    cases x
    obtain ⟨t, rfl⟩ := r
    exact ⟨_, ReadsW.str s t⟩
  | .bytes b, _, _, x, r => by
    cases x
    obtain ⟨t, rfl⟩ := r
    exact ⟨_, ReadsW.bytes _ t⟩
  | .list ds, _, _, x, r => by
    cases x with
    | lst hs ha =>
      cases r
      obtain ⟨its, o, n, rv, ho, hc, hd⟩ := sqL_at hok KX hs
      obtain ⟨as, hr⟩ := Dw.readsAll hok KX ds _ its ha rv
      exact ⟨_, ReadsW.list ho hc hd hr⟩
  | .tuple ds, _, _, x, r => by
    cases x with
    | tup hs ha =>
      cases r
      obtain ⟨its, o, n, rv, ho, hc, hd⟩ := sqT_at hok KX hs
      obtain ⟨as, hr⟩ := Dw.readsAll hok KX ds _ its ha rv
      exact ⟨_, ReadsW.tuple ho hc hd hr⟩
  | .float _, _, _, x, _ => by cases x
  | .dict _, _, _, x, _ => by cases x
  | .bytearray _, _, _, x, _ => by cases x
  | .set _, _, _, x, _ => by cases x
  | .frozenset _, _, _, x, _ => by cases x
  | .obj _ _, _, _, x, _ => by cases x
theorem Dw.readsAll (hok : HOk P w H h) (KX : K.In h) : ∀ (ds : List WData) (vs : List V) (us : List Value), DwAll K H vs ds → Vals vs us → ∃ as, ReadsAllW R cl h us ds as
  | [], _, _, x, r => by
    cases x
    cases r
    exact ⟨_, ReadsAllW.nil⟩
  | d :: ds, _, _, x, r => by
    cases x with
    | cons h1 h2 =>
      cases r with
      | cons r1 r2 =>
        obtain ⟨as, q1⟩ := Dw.reads hok KX d _ _ h1 r1
        obtain ⟨bs, q2⟩ := Dw.readsAll hok KX ds _ _ h2 r2
        exact ⟨_, ReadsAllW.cons q1 q2⟩
end
end
mutual
def plW : WData → Bool
  | .none => true
  | .bool _ => true
  | .int _ => true
  | .str _ => true
  | .bytes _ => true
  | .list xs => plWs xs
  | .tuple xs => plWs xs
  | _ => false
def plWs : List WData → Bool
  | [] => true
  | x :: r => plW x && plWs r
end
theorem plWs_map {α : Type} {f : α → WData} (h : ∀ a, plW (f a) = true) : ∀ l : List α, plWs (l.map f) = true
  | [] => rfl
  | x :: r => by
    show (plW (f x) && plWs (r.map f)) = true
    rw [h x, plWs_map h r] <;> rfl
theorem pl_enc : ∀ (c : Codec) (a : c.denote), plW (c.enc a) = true
  | .unit, _ => rfl
  | .bool, _ => rfl
  | .int _ _, _ => rfl
  | .nat _ _, _ => rfl
  | .u8, _ => rfl
  | .bytes _ _, _ => rfl
  | .text _ _ _ _, _ => rfl
  | .list _ _ c, a => plWs_map (fun x => pl_enc c x) a
  | .pair c d, a => by
    show (plW (c.enc a.1) && (plW (d.enc a.2) && true)) = true
    rw [pl_enc c a.1, pl_enc d a.2] <;> rfl
  | .triple c d e, a => by
    show (plW (c.enc a.1) && (plW (d.enc a.2.1) && (plW (e.enc a.2.2) && true))) = true
    rw [pl_enc c a.1, pl_enc d a.2.1, pl_enc e a.2.2] <;> rfl
  | .option c, none => rfl
  | .option c, some x => pl_enc c x
theorem pl_encAll : ∀ (cs : List Codec) (a : Codec.denoteAll cs), plWs (Codec.encAll cs a) = true
  | [], _ => rfl
  | c :: cs, a => by
    show (plW (c.enc a.1) && plWs (Codec.encAll cs a.2)) = true
    rw [pl_enc c a.1, pl_encAll cs a.2] <;> rfl
theorem weight_mem : ∀ {xs : List WData} {d : WData}, d ∈ xs → d.weight ≤ WData.weightAll xs
  | [], d, h => absurd h (by simp)
  | x :: r, d, h => by
    show d.weight ≤ x.weight + 1 + WData.weightAll r
    rcases List.mem_cons.mp h with e | m
    · rw [e]
      omega
    · have z := weight_mem m
      omega
def toV : Value → V
  | .none => .non
  | .bool b => .bl b
  | .int i _ => .int i
  | .str x _ => .str x
  | .bytes b _ => .byt b
  | .ref a => .ref a
  | _ => .non
def OkU (A : List Addr) : Value → Prop
  | .none => True
  | .bool _ => True
  | .int _ _ => True
  | .str _ _ => True
  | .bytes _ _ => True
  | .ref a => a ∈ A
  | _ => False
theorem OkU.mono {A B : List Addr} (h : ∀ a ∈ A, a ∈ B) : ∀ {u : Value}, OkU A u → OkU B u := fun {u} x => by
  cases u with
  | ref a => exact h a x
  | none => trivial
  | bool b => trivial
  | int i t => trivial
  | str s t => trivial
  | bytes b t => trivial
  | _ => exact False.elim x
theorem relV_toV {A : List Addr} {u : Value} (x : OkU A u) : RelV (toV u) u := by
  cases u with
  | ref a => rfl
  | none => rfl
  | bool b => rfl
  | int i t => exact ⟨t, rfl⟩
  | str s t => exact ⟨t, rfl⟩
  | bytes b t => exact ⟨t, rfl⟩
  | _ => exact False.elim x
theorem vals_toV {A : List Addr} : ∀ {vs : List Value}, (∀ u ∈ vs, OkU A u) → Vals (vs.map toV) vs
  | [], _ => .nil
  | u :: r, h => .cons (relV_toV (h u (List.mem_cons_self ..))) (vals_toV fun x hx => h x (List.mem_cons_of_mem _ hx))
def ArgOb (h : Heap) (A : List Addr) (a : Addr) : Prop := ∃ vs : List Value, vs.length ≤ sizeLine ∧ (∀ u ∈ vs, OkU A u) ∧
  (h.get? a = some { cls := .type "list", data := .seq vs.toArray } ∨ h.get? a = some { cls := .type "tuple", data := .seq vs.toArray })
theorem ArgOb.mono {h : Heap} {A B : List Addr} {a : Addr} (k : ∀ a ∈ A, a ∈ B) (x : ArgOb h A a) : ArgOb h B a := by
  obtain ⟨vs, h1, h2, h3⟩ := x
  exact ⟨vs, h1, fun u hu => (h2 u hu).mono k, h3⟩
theorem wellAll_len {P : Params} {h : Heap} : ∀ {vs : List Value} {ds : List WData}, WellAll P h vs ds → vs.length = ds.length
  | _, _, .nil => rfl
  | _, _, .cons _ b => by
    show _ + 1 = _ + 1
    rw [wellAll_len b]
theorem well_list {P : Params} {h : Heap} {v : Value} {ds : List WData} (x : Well P h v (.list ds)) : ∃ (a : Addr) (vs : List Value), v = .ref a ∧ h.get? a = some { cls := .type "list", data := .seq vs.toArray } ∧ WellAll P h vs ds := by
  cases x with
  | list ho hall => exact ⟨_, _, rfl, ho, hall⟩
theorem well_tuple {P : Params} {h : Heap} {v : Value} {ds : List WData} (x : Well P h v (.tuple ds)) : ∃ (a : Addr) (vs : List Value), v = .ref a ∧ h.get? a = some { cls := .type "tuple", data := .seq vs.toArray } ∧ WellAll P h vs ds := by
  cases x with
  | tuple ho hall => exact ⟨_, _, rfl, ho, hall⟩
theorem well_cons {P : Params} {h : Heap} {us : List Value} {d : WData} {ds : List WData} (x : WellAll P h us (d :: ds)) : ∃ (v : Value) (vs : List Value), us = v :: vs ∧ Well P h v d ∧ WellAll P h vs ds := by
  cases x with
  | cons a b => exact ⟨_, _, rfl, a, b⟩
theorem line_of {n : Nat} (h : n ≤ 1048576) : n ≤ sizeLine := Nat.le_trans h (by decide)
section
variable {P : Params} {h : Heap}
mutual
theorem area_one : ∀ (d : WData) (v : Value), Well P h v d → plW d = true → d.weight ≤ 1048576 → ∃ A : List Addr, OkU A v ∧ ∀ a ∈ A, ArgOb h A a
  | .none, _, x, _, _ => by
    cases x
    exact ⟨[], trivial, fun a m => absurd m (by simp)⟩
  | .bool b, _, x, _, _ => by
    cases x
    exact ⟨[], trivial, fun a m => absurd m (by simp)⟩
  | .int i, _, x, _, _ => by
    cases x
    exact ⟨[], trivial, fun a m => absurd m (by simp)⟩
  | .str s, _, x, _, _ => by
    cases x
    exact ⟨[], trivial, fun a m => absurd m (by simp)⟩
  | .bytes b, _, x, _, _ => by
    cases x
    exact ⟨[], trivial, fun a m => absurd m (by simp)⟩
  | .list ds, _, x, p, z => by
    obtain ⟨a, vs, rfl, ho, hall⟩ := well_list x
    have z2 : WData.weightAll ds ≤ 1048576 := z
    obtain ⟨A, h1, h2⟩ := area_all ds _ hall p fun d hd => Nat.le_trans (weight_mem hd) z2
    have k : ∀ b ∈ A, b ∈ a :: A := fun b hb => List.mem_cons_of_mem _ hb
    refine ⟨a :: A, List.mem_cons_self .., fun b hb => ?_⟩
    rcases List.mem_cons.mp hb with e | m
    · rw [e]
      exact ⟨vs, line_of (by rw [wellAll_len hall]; exact Nat.le_trans (PySem.W.length_le_weightAllW ds) z2), fun u hu => (h1 u hu).mono k, .inl ho⟩
    · exact (h2 b m).mono k
  | .tuple ds, _, x, p, z => by
    obtain ⟨a, vs, rfl, ho, hall⟩ := well_tuple x
    have z2 : WData.weightAll ds ≤ 1048576 := z
    obtain ⟨A, h1, h2⟩ := area_all ds _ hall p fun d hd => Nat.le_trans (weight_mem hd) z2
    have k : ∀ b ∈ A, b ∈ a :: A := fun b hb => List.mem_cons_of_mem _ hb
    refine ⟨a :: A, List.mem_cons_self .., fun b hb => ?_⟩
    rcases List.mem_cons.mp hb with e | m
    · rw [e]
      exact ⟨vs, line_of (by rw [wellAll_len hall]; exact Nat.le_trans (PySem.W.length_le_weightAllW ds) z2), fun u hu => (h1 u hu).mono k, .inr ho⟩
    · exact (h2 b m).mono k
  | .float _, _, _, p, _ => Bool.noConfusion (show false = true from p)
  | .dict _, _, _, p, _ => Bool.noConfusion (show false = true from p)
  | .bytearray _, _, _, p, _ => Bool.noConfusion (show false = true from p)
  | .set _, _, _, p, _ => Bool.noConfusion (show false = true from p)
  | .frozenset _, _, _, p, _ => Bool.noConfusion (show false = true from p)
  | .obj _ _, _, _, p, _ => Bool.noConfusion (show false = true from p)
theorem area_all : ∀ (ds : List WData) (vs : List Value), WellAll P h vs ds → plWs ds = true → (∀ d ∈ ds, d.weight ≤ 1048576) → ∃ A : List Addr, (∀ u ∈ vs, OkU A u) ∧ ∀ a ∈ A, ArgOb h A a
  | [], _, x, _, _ => by
    cases x
    exact ⟨[], fun u m => absurd m (by simp), fun a m => absurd m (by simp)⟩
  | d :: ds, _, x, p, z => by
    obtain ⟨v, vs, rfl, x1, x2⟩ := well_cons x
    have q : plW d = true ∧ plWs ds = true := Bool.and_eq_true_iff.mp p
    obtain ⟨A, a1, a2⟩ := area_one d v x1 q.1 (z d (List.mem_cons_self ..))
    obtain ⟨B, b1, b2⟩ := area_all ds vs x2 q.2 fun e he => z e (List.mem_cons_of_mem _ he)
    have kA : ∀ b ∈ A, b ∈ A ++ B := fun b hb => List.mem_append.mpr (.inl hb)
    have kB : ∀ b ∈ B, b ∈ A ++ B := fun b hb => List.mem_append.mpr (.inr hb)
    refine ⟨A ++ B, fun u hu => ?_, fun b hb => ?_⟩
    · rcases List.mem_cons.mp hu with e | m
      · rw [e]
        exact a1.mono kA
      · exact (b1 u m).mono kB
    · rcases List.mem_append.mp hb with m | m
      · exact (a2 b m).mono kA
      · exact (b2 b m).mono kB
end
end
def hoOf (o : Obj) : Option HO := match o.data with
  | .seq vs _ => if (o.cls == Value.type "list") = true then some (.frz o (.lst (vs.toList.map toV))) else some (.frz o (.tup (vs.toList.map toV)))
  | _ => none
def argH (K : PySem.W.Frag) (h : Heap) (A : List Addr) : Hp := fun b => if b ∈ A then (if (K.lookup b).isNone = true then (h.get? b).bind hoOf else none) else none
def OnlyF (H : Hp) : Prop := ∀ b, H b = none ∨ ∃ o u, H b = some (.frz o u)
theorem hoOf_lst (vs : List Value) : hoOf { cls := .type "list", data := .seq vs.toArray } = some (.frz { cls := .type "list", data := .seq vs.toArray } (.lst (vs.map toV))) := by
  show (if (Value.type "list" == Value.type "list") = true then some (HO.frz { cls := .type "list", data := .seq vs.toArray } (.lst (vs.toArray.toList.map toV))) else some (HO.frz { cls := .type "list", data := .seq vs.toArray } (.tup (vs.toArray.toList.map toV)))) = _
  rw [if_pos (beq_self_eq_true _)]
theorem hoOf_tup (vs : List Value) : hoOf { cls := .type "tuple", data := .seq vs.toArray } = some (.frz { cls := .type "tuple", data := .seq vs.toArray } (.tup (vs.map toV))) := by
  show (if (Value.type "tuple" == Value.type "list") = true then some (HO.frz { cls := .type "tuple", data := .seq vs.toArray } (.lst (vs.toArray.toList.map toV))) else some (HO.frz { cls := .type "tuple", data := .seq vs.toArray } (.tup (vs.toArray.toList.map toV)))) = _
  rw [if_neg (by decide)]
section
variable {P : Program} {w : World} {K : PySem.W.Frag} {h : Heap} {A : List Addr}
theorem argH_at {b : Addr} {o : Obj} (hb : b ∈ A) (hk : K.lookup b = none) (e : h.get? b = some o) : argH K h A b = hoOf o := by
  unfold argH
  rw [if_pos hb, hk, if_pos (show (none : Option Obj).isNone = true from rfl), e] <;> rfl
theorem of_argH {b : Addr} {u : HO} (q : argH K h A b = some u) : b ∈ A ∧ K.lookup b = none := by
  unfold argH at q
  by_cases hb : b ∈ A
  · rw [if_pos hb] at q
    cases hk : K.lookup b with
    | none => exact ⟨hb, rfl⟩
    | some o =>
      rw [hk, if_neg (by simp)] at q
      cases q
  · rw [if_neg hb] at q
    cases q
theorem argH_is (ar : ∀ a ∈ A, ArgOb h A a) {b : Addr} {u : HO} (q : argH K h A b = some u) : K.lookup b = none ∧ ∃ vs : List Value, vs.length ≤ sizeLine ∧ (∀ u ∈ vs, OkU A u) ∧
    ((h.get? b = some { cls := .type "list", data := .seq vs.toArray } ∧ u = .frz { cls := .type "list", data := .seq vs.toArray } (.lst (vs.map toV))) ∨
     (h.get? b = some { cls := .type "tuple", data := .seq vs.toArray } ∧ u = .frz { cls := .type "tuple", data := .seq vs.toArray } (.tup (vs.map toV)))) := by
  obtain ⟨hb, hk⟩ := of_argH q
  obtain ⟨vs, h1, h2, h3⟩ := ar b hb
  refine ⟨hk, vs, h1, h2, ?_⟩
  rcases h3 with e | e
  · rw [argH_at hb hk e, hoOf_lst] at q
    exact .inl ⟨e, (Option.some.inj q).symm⟩
  · rw [argH_at hb hk e, hoOf_tup] at q
    exact .inr ⟨e, (Option.some.inj q).symm⟩
theorem argH_only (ar : ∀ a ∈ A, ArgOb h A a) : OnlyF (argH K h A) := fun b => by
  cases q : argH K h A b with
  | none => exact .inl rfl
  | some u =>
    obtain ⟨_, vs, _, _, ⟨_, e⟩ | ⟨_, e⟩⟩ := argH_is ar q
    · exact .inr ⟨_, _, by rw [e]⟩
    · exact .inr ⟨_, _, by rw [e]⟩
theorem argH_ok (ar : ∀ a ∈ A, ArgOb h A a) : HOk P w (argH K h A) h := fun b u q => by
  obtain ⟨_, vs, h1, h2, ⟨e, rfl⟩ | ⟨e, rfl⟩⟩ := argH_is ar q
  · exact ⟨e, by rw [List.length_map]; exact h1, vs, _, vals_toV h2, e⟩
  · exact ⟨e, by rw [List.length_map]; exact h1, vs, vals_toV h2, _, e, rfl, _, rfl⟩
theorem seq_inj {c c' : Value} {vs us : List Value} (e : (some { cls := c, data := .seq vs.toArray } : Option Obj) = some { cls := c', data := .seq us.toArray }) : c = c' ∧ vs = us := by
  have e1 := Option.some.inj e
  have e2 : c = c' := congrArg Obj.cls e1
  have e3 : Data.seq vs.toArray = Data.seq us.toArray := congrArg Obj.data e1
  injection e3 with e4
  refine ⟨e2, ?_⟩
  have e5 := congrArg Array.toList e4
  simpa using e5
theorem argL (KX : K.In h) (ar : ∀ a ∈ A, ArgOb h A a) {a : Addr} {vs : List Value} (ha : a ∈ A) (e : h.get? a = some { cls := .type "list", data := .seq vs.toArray }) : (∀ u ∈ vs, OkU A u) ∧ SqL K (argH K h A) a (vs.map toV) := by
  obtain ⟨us, h1, h2, h3⟩ := ar a ha
  have hu : us = vs := by
    rcases h3 with q | q
    · rw [e] at q
      exact (seq_inj q).2.symm
    · rw [e] at q
      exact absurd (Value.type.inj (seq_inj q).1) (by decide)
  subst hu
  refine ⟨h2, ?_⟩
  cases hk : K.lookup a with
  | none => exact .inl (.inr ⟨_, by rw [argH_at ha hk e, hoOf_lst]⟩)
  | some o =>
    have e2 := KX a o hk
    rw [e] at e2
    obtain rfl := Option.some.inj e2
    exact .inr ⟨_, us.toArray, _, hk, rfl, rfl, rfl, by rw [List.size_toArray]; exact h1, by simpa using vals_toV h2⟩
theorem argT (KX : K.In h) (ar : ∀ a ∈ A, ArgOb h A a) {a : Addr} {vs : List Value} (ha : a ∈ A) (e : h.get? a = some { cls := .type "tuple", data := .seq vs.toArray }) : (∀ u ∈ vs, OkU A u) ∧ SqT K (argH K h A) a (vs.map toV) := by
  obtain ⟨us, h1, h2, h3⟩ := ar a ha
  have hu : us = vs := by
    rcases h3 with q | q
    · rw [e] at q
      exact absurd (Value.type.inj (seq_inj q).1) (by decide)
    · rw [e] at q
      exact (seq_inj q).2.symm
  subst hu
  refine ⟨h2, ?_⟩
  cases hk : K.lookup a with
  | none => exact .inl (.inr ⟨_, by rw [argH_at ha hk e, hoOf_tup]⟩)
  | some o =>
    have e2 := KX a o hk
    rw [e] at e2
    obtain rfl := Option.some.inj e2
    exact .inr ⟨_, us.toArray, _, hk, rfl, rfl, by rw [List.size_toArray]; exact h1, by simpa using vals_toV h2⟩
mutual
theorem dw_one {Pm : Params} (KX : K.In h) (ar : ∀ a ∈ A, ArgOb h A a) : ∀ (d : WData) (v : Value), Well Pm h v d → plW d = true → OkU A v → Dw K (argH K h A) (toV v) d
  | .none, _, x, _, _ => by
    cases x
    exact .non
  | .bool b, _, x, _, _ => by
    cases x
    exact .bl b
  | .int i, _, x, _, _ => by
    cases x
    exact .int i
  | .str s, _, x, _, _ => by
    cases x
    exact .str s
  | .bytes b, _, x, _, _ => by
    cases x
    have z := Dw.byt (K := K) (H := argH K h A) b.toArray
    exact z
  | .list ds, _, x, p, hu => by
    obtain ⟨a, vs, rfl, ho, hall⟩ := well_list x
    obtain ⟨h2, hs⟩ := argL KX ar hu ho
    exact .lst hs (dw_all KX ar ds _ hall p h2)
  | .tuple ds, _, x, p, hu => by
    obtain ⟨a, vs, rfl, ho, hall⟩ := well_tuple x
    obtain ⟨h2, hs⟩ := argT KX ar hu ho
    exact .tup hs (dw_all KX ar ds _ hall p h2)
  | .float _, _, _, p, _ => Bool.noConfusion (show false = true from p)
  | .dict _, _, _, p, _ => Bool.noConfusion (show false = true from p)
  | .bytearray _, _, _, p, _ => Bool.noConfusion (show false = true from p)
  | .set _, _, _, p, _ => Bool.noConfusion (show false = true from p)
  | .frozenset _, _, _, p, _ => Bool.noConfusion (show false = true from p)
  | .obj _ _, _, _, p, _ => Bool.noConfusion (show false = true from p)
theorem dw_all {Pm : Params} (KX : K.In h) (ar : ∀ a ∈ A, ArgOb h A a) : ∀ (ds : List WData) (vs : List Value), WellAll Pm h vs ds → plWs ds = true → (∀ u ∈ vs, OkU A u) → DwAll K (argH K h A) (vs.map toV) ds
  | [], _, x, _, _ => by
    cases x
    exact .nil
  | d :: ds, _, x, p, hu => by
    obtain ⟨v, vs, rfl, x1, x2⟩ := well_cons x
    have q : plW d = true ∧ plWs ds = true := Bool.and_eq_true_iff.mp p
    exact .cons (dw_one KX ar d v x1 q.1 (hu _ (List.mem_cons_self ..))) (dw_all KX ar ds vs x2 q.2 fun u m => hu u (List.mem_cons_of_mem _ m))
end
end
theorem spec_call {P : Program} {w : World} {K : PySem.W.Frag} {mg mb : Str → Option Value} {CX : CXT} {k : Nat} {fa : Addr} {fd : FuncData} {ps : List Str} {sp : Sp} {s₁ : Shared} {vals : List Value} {ds : List WData} {R : PySem.W.WRecords} {cl : Str → Option Addr} {d0 : WData}
    (KX : K.In s₁.heap) (hns : s₁.heap.Ns mainGlobals mg) (hb : s₁.heap.Ns builtinsNs mb) (hbb : ∀ x : Str, x ≠ "__name__" → mb x = bootBuiltins x) (hlim : s₁.heap.NoLimit) (hg : s₁.gens = #[])
    (hwl : WellAll w.params s₁.heap vals ds) (hpl : plWs ds = true) (hwt : ∀ d ∈ ds, d.weight ≤ 1048576) (hr : Room k callerA)
    (F : ∀ base : Heap, K.In base → base.Ns mainGlobals mg → FnOk P w K mg base CX k fa fd ps sp) (hbind : ∀ (s : Shared) (us : List Value), us.length = ps.length → BindsTo s fd ⟨us, []⟩ (ps.zip us)) (hlen : ds.length = ps.length)
    (hsp : ∀ (H : Hp) (xs : List V), OnlyF H → DwAll K H xs ds → sp xs H (fun v H' => Dw K H' v d0) fun _ _ _ => False)
    (hCX : ∀ H e s', CX [] H s₁ (fun _ _ _ => False) e s' → False) :
    codeAny (model P w) callerA (.call (.ref fa) ⟨vals, []⟩) (fun r s' => ∃ u as, r = .ok (.ret u) ∧ ReadsW R cl s'.heap u d0 as ∧ OldK s₁.heap s'.heap ∧ s'.os = s₁.os ∧ AllBare s'.gens) s₁ := by
  obtain ⟨A, ho, ar⟩ := area_all ds vals hwl hpl hwt
  have hO : OnlyF (argH K s₁.heap A) := argH_only ar
  have hok : HOk P w (argH K s₁.heap A) s₁.heap := argH_ok ar
  have hS := dw_all KX ar ds vals hwl hpl ho
  have hV := vals_toV ho
  have hK : ∀ b u, argH K s₁.heap A b = some u → K.lookup b = none := fun b u q => (argH_is ar q).1
  have noA : ∀ {b : Addr} {o : Obj} {es : Array DictEntry} {ep : Nat}, s₁.heap.get? b = some o → o.data = .dict es ep → argH K s₁.heap A b = none := fun {b o es ep} e d => by
    cases q : argH K s₁.heap A b with
    | none => rfl
    | some u =>
      obtain ⟨_, vs, _, _, ⟨e2, _⟩ | ⟨e2, _⟩⟩ := argH_is ar q
      · rw [e2] at e
        cases e
        have d' : Data.seq vs.toArray _ = Data.dict es ep := d
        cases d'
      · rw [e2] at e
        cases e
        have d' : Data.seq vs.toArray _ = Data.dict es ep := d
        cases d'
  generalize argH K s₁.heap A = H at hO hok hS hK noA
  have base_of : ∀ {b : Addr} {o : Obj}, s₁.heap.get? b = some o → H b = none → (hidT s₁.heap H).get? b = some o := fun e n => hidT_get e n
  have nsK : ∀ {b : Addr} {m : Str → Option Value}, s₁.heap.Ns b m → (hidT s₁.heap H).Ns b m := fun {b m} ⟨o, es, ep, e, d, r⟩ => ⟨o, es, ep, base_of e (noA e d), d, r⟩
  have nK : ∀ b o, K.lookup b = some o → H b = none := fun b o e => by
    cases q : H b with
    | none => rfl
    | some u =>
      rw [hK b u q] at e
      cases e
  have hKb : K.In (hidT s₁.heap H) := fun b o e => base_of (KX b o e) (nK b o e)
  have hM : Mod K mg (hidT s₁.heap H) := ⟨hKb, nsK hns, ⟨mb, nsK hb, hbb⟩, let ⟨mc, h1, h2⟩ := hlim; ⟨mc, nsK h1, h2⟩⟩
  have e0 : Env0 P w K mg (hidT s₁.heap H) callerA [] s₁ H := ⟨rfl, hM, fun b o e => of_hidT e, Nat.le_of_eq (hidT_size _ _), trivial, fun b hb => absurd (show b ∈ ([] : List Addr) from hb) (by simp), hok, .of_eq hg⟩
  have hl : vals.length = ps.length := by rw [wellAll_len hwl]; exact hlen
  refine codeAny_mono ((F _ hKb (nsK hns)).run callerA [] s₁ H ⟨vals, []⟩ vals (vals.map toV) _ _ hr e0 (hbind s₁ vals hl) hV (hsp H _ hO hS)) fun r s' x => ?_
  cases r with
  | error e => exact (hCX H e s' x).elim
  | ok fl =>
    cases fl with
    | next => exact False.elim x
    | brk => exact False.elim x
    | cont => exact False.elim x
    | ret u =>
      obtain ⟨v, H', os, bare, un, hok', r', q⟩ := x
      have kept : ∀ b o, s₁.heap.get? b = some o → s'.heap.get? b = some o := fun b o e => by
        cases q2 : H b with
        | none => exact un.keep b o e q2 (by intro z; exact absurd (show b ∈ ([] : List Addr) from z) (by simp)) (by simp)
        | some u2 =>
          rcases hO b with z | ⟨ob, u3, z⟩
          · rw [q2] at z
            cases z
          · have z2 := un.frzs b ob _ z
            obtain ⟨e1, _⟩ := hok b _ z
            obtain ⟨e2, _⟩ := hok' b _ z2
            rw [e] at e1
            cases e1
            exact e2
      have KX' : K.In s'.heap := fun b o e => kept b o (KX b o e)
      obtain ⟨as, hrd⟩ := Dw.reads (R := R) (cl := cl) hok' KX' d0 v u q r'
      exact ⟨u, as, rfl, hrd, OldK.of_keep kept, os, bare⟩
theorem layable_weight {ds : List WData} (h : WData.layableAll ds = true) : ∀ d ∈ ds, d.weight ≤ 1048576 := fun d hd =>
  (PySem.W.layableW_iff.mp (List.all_eq_true.mp h d hd)).2.2
theorem encAll_len : ∀ (cs : List Codec) (a : Codec.denoteAll cs), (Codec.encAll cs a).length = cs.length
  | [], _ => rfl
  | c :: cs, a => by
    show (Codec.encAll cs a.2).length + 1 = cs.length + 1
    rw [encAll_len cs a.2]
theorem walk_spec {r : OpenSpec} {k : Nat} {q : Program} {loose : List Str} {XP : (Str → Option Value) → Heap → Prop} {YP : World → Heap → Prop} {d : DefRec} {K : Params → PySem.W.Frag} {CX : World → CXT} {ps : List Str} {sp : World → Sp}
    (hwell : r.wellSaid = true) (hdf : d.params.defaults = []) (hlen : r.args.length = ps.length) (hr : Room k callerA)
    (hY : ∀ (w : World) (h : Heap), YP w h → (K w.params).In h)
    (F : ∀ (w : World) (mg : Str → Option Value) (fa : Addr) (h : Heap), YP w h → (K w.params).In h → h.Ns mainGlobals mg → mg d.name = some (.ref fa) →
      ∃ fd : FuncData, (∀ (s : Shared) (us : List Value), us.length = ps.length → BindsTo s fd ⟨us, []⟩ (ps.zip us)) ∧
        ∀ base : Heap, (K w.params).In base → base.Ns mainGlobals mg → FnOk r.prog w (K w.params) mg base (CX w) k fa fd ps (sp w))
    (hsp : ∀ (w : World) (H : Hp) (xs : List V) (a : Codec.denoteAll r.args), OnlyF H → Codec.withinAll r.args a = true → Codec.app r.args r.asked a = true → DwAll (K w.params) H xs (Codec.encAll r.args a) →
      sp w xs H (fun v H' => Dw (K w.params) H' v (r.ret.enc (Codec.app r.args r.f a))) fun _ _ _ => False)
    (hCX : ∀ (w : World) (H : Hp) (s : Shared) (e : Value) (s' : Shared), CX w [] H s (fun _ _ _ => False) e s' → False) :
    PySem.W.WalkOS q loose XP YP r d [] (fun f vs => PySem.call f vs) := by
  intro w s_0 s₁ mg mb G Y fa o pm cd doc dV kV ho hd hcd hD hmg hg args vals as hpre hlay hrd hwl hlo
  obtain ⟨a, e1, e2⟩ := PySem.W.os_pre_some hpre
  obtain ⟨e3, hwi⟩ := Codec.encAll_of_decAll r.args args a e1
  subst e3
  have KX := hY w _ Y
  obtain ⟨fd, hb, hF⟩ := F w mg fa _ Y KX G.T.g hmg
  refine PySem.W.enter_call (codeAny_mono (spec_call (R := []) (cl := classAt s_0.heap) (d0 := r.ret.enc (Codec.app r.args r.f a)) KX G.T.g G.T.b G.T.builtins G.T.nolimit hg hwl (pl_encAll _ _) (layable_weight hlay) hr hF hb (by rw [encAll_len]; exact hlen)
    (fun H xs hO hS => hsp w H xs a hO hwi e2 hS) fun H e s' => hCX w H s₁ e s') fun r' s' hq => ?_)
  obtain ⟨u, as', rfl, h1, h2, h3, h4⟩ := hq
  exact ⟨.inl ⟨u, _, as', rfl, fun _ => rfl, h1, (OpenSpec.post_iff hwell hwi _ _).mpr rfl, fun z => Bool.noConfusion (show false = true from z)⟩, h2, h3, h4⟩
theorem walk_specK {r : OpenSpec} {k : Nat} {q : Program} {loose : List Str} {XP : (Str → Option Value) → Heap → Prop} {YP : World → Heap → Prop} {d : DefRec} {K : Params → PySem.W.Frag} {CX : CXT} {ps : List Str} {sp : PySem.W.Frag → Sp}
    (hwell : r.wellSaid = true) (hdf : d.params.defaults = []) (hlen : r.args.length = ps.length) (hr : Room k callerA)
    (hY : ∀ (w : World) (h : Heap), YP w h → (K w.params).In h)
    (F : ∀ (w : World) (mg : Str → Option Value) (fa : Addr) (h : Heap), YP w h → (K w.params).In h → h.Ns mainGlobals mg → mg d.name = some (.ref fa) →
      ∃ fd : FuncData, (∀ (s : Shared) (us : List Value), us.length = ps.length → BindsTo s fd ⟨us, []⟩ (ps.zip us)) ∧
        ∀ base : Heap, (K w.params).In base → base.Ns mainGlobals mg → FnOk r.prog w (K w.params) mg base CX k fa fd ps (sp (K w.params)))
    (hsp : ∀ (K : PySem.W.Frag) (H : Hp) (xs : List V) (a : Codec.denoteAll r.args), OnlyF H → Codec.withinAll r.args a = true → Codec.app r.args r.asked a = true → DwAll K H xs (Codec.encAll r.args a) →
      sp K xs H (fun v H' => Dw K H' v (r.ret.enc (Codec.app r.args r.f a))) fun _ _ _ => False)
    (hCX : ∀ (H : Hp) (s : Shared) (e : Value) (s' : Shared), CX [] H s (fun _ _ _ => False) e s' → False) :
    PySem.W.WalkOS q loose XP YP r d [] (fun f vs => PySem.call f vs) :=
  walk_spec (K := K) (CX := fun _ => CX) (sp := fun w => sp (K w.params)) hwell hdf hlen hr hY F (fun w H xs a h1 h2 h3 h4 => hsp (K w.params) H xs a h1 h2 h3 h4) fun _ H s e s' => hCX H s e s'
end L2
end
set_option Elab.async false
set_option linter.all false
set_option maxRecDepth 100000
set_option maxHeartbeats 2000000
namespace L2
open PySem PySem.Spec PyProof.Rows
theorem intsAre_idx : ∀ (vs : List Value) (ns : List Int), vs.length = ns.length → (∀ (j : Nat) (v : Value), vs[j]? = some v → ∃ (z : Int) (t : Tok), ns[j]? = some z ∧ v = Value.int z t) → IntsAre vs ns
  | [], [], _, _ => .nil
  | v :: vs, n :: ns, hl, h => by
    obtain ⟨z, t, e, ev⟩ := h 0 v rfl
    have e2 : n = z := Option.some.inj e
    subst e2 ev
    refine .cons n t (intsAre_idx vs ns (by simpa using hl) fun j u hu => ?_)
    exact h (j + 1) u hu
  | [], _ :: _, hl, _ => by simp at hl
  | _ :: _, [], hl, _ => by simp at hl
section
open PySem.W in
/-- what a walk collects; the heap has grown -/
theorem collect_grows {prog : Program} {w : World} {A : Around} {E : Value → Shared → Prop} {s : Shared} {T : String} {r d : Addr} {n : Nat} {B : Nat → Value → Prop} {OK : Heap → Prop} {R : List Value → Shared → Prop} (src : PySem.W.KdlSrc prog w T r d n B OK) (calm : A.handled = none) (ok : OK s.heap) (few : n ≤ sizeLine)
    (goal : ∀ (g : Heap) (tk : Nat) (got : Array Value), (∀ b o, s.heap.get? b = some o → g.get? b = some o) → s.heap.objs.size ≤ g.objs.size → ItemsOf B got n → R got.toList { s with heap := g, toks := tk }) :
    wpAny (model prog w) A (collect (.ref r)) R E s := by
  obtain ⟨lt1, lt2⟩ := src.there _ ok
  unfold collect
  refine wpAny_bind (wpAny_runValue (codeAny_builtin entry_proto_collect' ?_))
  rw [Around.under_plainId PySem.F.plain_proto_collect]
  refine wpAny_bind (m := newList []) (wpAny_newObj_type (wpAny_pure ⟨plainId_quiet PySem.F.plain_list_iadd _, ?_⟩))
  refine codeAny_builtin entry_list_iadd' ?_
  rw [Around.under_plainId PySem.F.plain_list_iadd]
  have at0 : (s.heap.push { cls := .type "list", data := .seq ([] : List Value).toArray }).get? s.heap.objs.size = some { cls := .type "list", data := .seq #[] } := Heap.get?_push_size _ rfl
  have old : ∀ b o, s.heap.get? b = some o → (s.heap.push { cls := .type "list", data := .seq ([] : List Value).toArray }).get? b = some o := fun b o q => Heap.get?_push_of_some _ q
  have run := kdl_extend (A := A) (s := { s with heap := s.heap.push { cls := .type "list", data := .seq ([] : List Value).toArray } })
    (R := fun (z : Result) (t : Shared) => ∃ (g : Heap) (tk : Nat) (got : Array Value) (c : Nat), z = .ok (.ret (.ref s.heap.objs.size)) ∧ t = { s with heap := g, toks := tk } ∧
      (∀ b o, s.heap.get? b = some o → g.get? b = some o) ∧ g.get? s.heap.objs.size = some { cls := .type "list", dict := none, data := .seq got c, slots := #[] } ∧ ItemsOf B got n)
    src calm (src.keep _ _ ok fun b _ o q => old b o q) s.heap.objs.size (Nat.ne_of_gt lt1) (Nat.ne_of_gt lt2) (.ref s.heap.objs.size) 0 at0
    (fun g tk got c kp here its => ⟨g, tk, got, c, rfl, rfl, fun b o q => kp b o (Nat.ne_of_lt (Heap.lt_size q)) (old b o q), here, its⟩) few
  have fin : ∀ (g : Heap) (tk : Nat) (got : Array Value) (c : Nat), (∀ b o, s.heap.get? b = some o → g.get? b = some o) → g.get? s.heap.objs.size = some { cls := .type "list", dict := none, data := .seq got c, slots := #[] } → ItemsOf B got n →
      R got.toList { s with heap := g, toks := tk } := fun g tk got c kp here its => goal g tk got kp (Nat.le_of_lt (Heap.lt_size here)) its
  refine wpAny_mono run (fun z t x => ?_) fun e t x => ?_
  · cases z with
    | done fl =>
      obtain ⟨g, tk, got, c, q, rfl, kp, here, its⟩ := x
      cases q
      exact wpAny_bind (m := load s.heap.objs.size) (wpAny_load here (wpAny_pure (fin g tk got c kp here its)))
    | again c1 =>
      refine ⟨x.1, codeAny_mono x.2 fun z t y => ?_⟩
      obtain ⟨g, tk, got, c, rfl, rfl, kp, here, its⟩ := y
      exact wpAny_bind (m := load s.heap.objs.size) (wpAny_load here (wpAny_pure (fin g tk got c kp here its)))
  · obtain ⟨_, _, _, _, q, _⟩ := x
    cases q
end
section
variable {X : Cx}
/-- the keys of a dict whose keys are ints, as they are collected -/
theorem keys_ints {P : Program} {w : World} {kvs : List (Key × V)} {rs : List (Key × Value)} {ns : List Int} {acc : Array Value} (rel : KV kvs rs) (hk : kvs.map (·.1) = ns.map Sum.inl)
    (hacc : ItemsOf (fun i v => ∃ k x, rs[i]? = some (k, x) ∧ (mixKind P w).is k v = true) acc rs.length) : IntsAre acc.toList ns := by
  have hkr : rs.map (·.1) = ns.map Sum.inl := by rw [← rel.keys]; exact hk
  have hl : rs.length = ns.length := by
    have := congrArg List.length hkr
    simpa using this
  refine intsAre_idx _ _ (by rw [Array.length_toList, hacc.1, hl]) fun j v hv => ?_
  obtain ⟨k, x, e, his⟩ := hacc.2 j v (by rw [← Array.getElem?_toList]; exact hv)
  have e1 : (rs.map (·.1))[j]? = some k := by rw [List.getElem?_map, e]; rfl
  rw [hkr, List.getElem?_map] at e1
  obtain ⟨z, ez, ek⟩ := Option.map_eq_some_iff.mp e1
  subst ek
  obtain ⟨i, t, e2, e3⟩ | ⟨_, _, e2, _⟩ := keyIs_shape (show keyIs (Sum.inl z) v = true from his)
  · cases e2
    exact ⟨z, t, ez, e3⟩
  · cases e2
/-- sorted(d): the keys, ints -/
theorem call_sortedD (hc : X.calm = true) : CallR X (.builtin "sorted") (fun vs H Q => ∃ (a : Addr) (kvs : List (Key × V)) (ns : List Int), vs = [V.ref a] ∧ Rd H a (.dK kvs) ∧ kvs.map (·.1) = ns.map Sum.inl ∧
    ∀ (ns' : List Int) (p : Addr), ns'.Perm ns → ns'.Pairwise (· ≤ ·) → H p = none → Q (.ref p) (upd H p (.lst (ns'.map V.int)))) := by
  intro pins s σ H vs us Q I r h
  obtain ⟨a, kvs, ns, rfl, hd, hk, q⟩ := h
  rw [Vals.ref1 r]
  obtain ⟨z, lo, rs, rel, dd⟩ := dk_rd I.hok hd
  obtain ⟨ep, hat⟩ := dd.dictAt
  have hz : rs.length ≤ sizeLine := by rw [← rel.length]; exact z
  refine Calls.call_function_entry kind_sorted plain_sorted entry_sorted (args_sorted1 _) ?_
  unfold Builtin.«sorted»
  refine wpAny_bind (m := checkCount "sorted" 1 1 _) (wpAny_pure ?_)
  refine wpAny_bind (collect_grows (A := X.A.in1) (PySem.W.kdl_dict (knd := mixKind X.prog X.w) (kvs := rs) (ep := ep) lo) (I.ok.hd hc) hat hz fun h' tk acc hkp hsz hacc => ?_)
  have hI : IntsAre acc.toList ns := keys_ints rel hk hacc
  have hl : acc.toList.length = rs.length := by rw [Array.length_toList]; exact hacc.1
  have hL : acc.toList.length ≤ sizeLine := by rw [hl]; exact hz
  refine wpAny_bind (wpAny_newList ?_ hL)
  have hoL : (h'.push (seqObj "list" acc.toList.toArray 0)).get? h'.objs.size = some (seqObj "list" acc.toList.toArray 0) := Heap.get?_push_size _ rfl
  show wpAny _ _ _ _ _ { s with heap := h'.push (seqObj "list" acc.toList.toArray 0), toks := tk }
  refine wpAny_bind (wpAny_holding (wpAny_call_entry slot_list_sort ⟨_, hoL, rfl⟩ entry_list_sort (list_sort_treeAny hoL hI hL fun out ns' h1 h2 h3 => ⟨_, rfl, ?_⟩) (args_list_sort _)))
  refine wpAny_pure ⟨_, rfl, ?_⟩
  obtain ⟨e2, hat2⟩ := sortedHeap_at (out := out) hoL
  have hlen : (ns'.map V.int).length ≤ sizeLine := by rw [List.length_map, h2.length_eq, ← hI.length]; exact hL
  refine ⟨.ref _, upd H h'.objs.size (.lst (ns'.map V.int)), I.laid (t' := tk) (fun b o e => ?_) hsz ⟨hlen, out.toList, e2, vals_of_ints h1, hat2⟩, rfl, q ns' _ h2 h3 (I.hok.fresh hsz)⟩
  have hb := hkp b o e
  have hlt := Heap.lt_size hb
  rw [sortedHeap_old (Nat.ne_of_lt hlt) (by rw [size_push']; exact Nat.lt_succ_of_lt hlt)]
  exact Heap.get?_push_of_some _ hb
/-- list(d): the keys -/
theorem call_listD (hc : X.calm = true) : CallR X (.type "list") (fun vs H Q => ∃ (a : Addr) (kvs : List (Key × V)) (ns : List Int), vs = [V.ref a] ∧ Rd H a (.dK kvs) ∧ kvs.map (·.1) = ns.map Sum.inl ∧
    ∀ (p : Addr), H p = none → Q (.ref p) (upd H p (.lst (ns.map V.int)))) := by
  intro pins s σ H vs us Q I r h
  obtain ⟨a, kvs, ns, rfl, hd, hk, q⟩ := h
  rw [Vals.ref1 r]
  obtain ⟨z, lo, rs, rel, dd⟩ := dk_rd I.hok hd
  obtain ⟨ep, hat⟩ := dd.dictAt
  have hz : rs.length ≤ sizeLine := by rw [← rel.length]; exact z
  refine PySem.W.kdl_call (PySem.W.kdl_dict (knd := mixKind X.prog X.w) (kvs := rs) (ep := ep) lo) (I.ok.hd hc) hat hz fun h' tk acc c hkp hS hacc => ?_
  have hI : IntsAre acc.toList ns := keys_ints rel hk hacc
  have hlen : (ns.map V.int).length ≤ sizeLine := by
    rw [List.length_map, ← hI.length, Array.length_toList, hacc.1]
    exact hz
  exact ⟨.ref _, upd H s.heap.objs.size (.lst (ns.map V.int)), I.laid (t' := tk) hkp (Nat.le_refl _) ⟨hlen, acc.toList, c, vals_of_ints hI, hS⟩, rfl, q _ I.fresh⟩
/-- dict(d) -/
theorem call_dictD : CallR X (.type "dict") (fun vs H Q => ∃ (a : Addr) (kvs : List (Key × V)), vs = [V.ref a] ∧ Rd H a (.dK kvs) ∧ ∀ p, H p = none → Q (.ref p) (upd H p (.dK kvs))) := by
  intro pins s σ H vs us Q I r h
  obtain ⟨a, kvs, rfl, hd, q⟩ := h
  rw [Vals.ref1 r]
  exact d_copyOf I hd fun p s' hp I' => ⟨.ref p, _, I', rfl, q p hp⟩
/-- d.setdefault(k, x) -/
theorem d_setdef {pins : List (Addr × Obj)} {σ : St} {H : Hp} {s : Shared} {a : Addr} {kvs : List (Key × V)} {k : Key} {u r : Value} {y : V} {A : Around} {E : Value → Shared → Prop} {Q : Value → Shared → Prop} (I : Inv X pins σ H s) (e : H a = some (.dK kvs))
    (hlen : kvs.length < sizeLine) (ry : RelV (kV k) u) (rr : RelV y r) (h1 : ∀ v w' s', valV kvs k = some v → RelV v w' → Inv X pins σ H s' → Q w' s') (h2 : ∀ s', valV kvs k = none → Inv X pins σ (upd H a (.dK (putK kvs k y))) s' → Q r s') :
    wpAny (model X.prog X.w) A (call (.builtin "dict.setdefault") [.ref a, u, r]) Q E s := by
  obtain ⟨z, hd, vs, rel, dd⟩ := dk_of I.hok e
  have hz : vs.length ≤ sizeLine := by rw [← rel.length]; exact z
  have hr := rel.val k
  refine call_meetsIn PySem.F.slot_dict_setdefault dd.typeIs PySem.F.entry_dict_setdefault (PySem.F.args_dict_setdefault_3 _ _ _) (kt_meets_setdefault (mixKind X.prog X.w) a (kV_is ry) hd r) ⟨vs, dd, hz, fun v hv => ?_, fun hn h' dd' hs => ?_⟩
  · rw [hv] at hr
    cases q : valV kvs k with
    | none => rw [q] at hr; exact hr.elim
    | some v0 =>
      rw [q] at hr
      exact h1 v0 v _ q hr (I.tok _)
  · rw [hn] at hr
    cases q : valV kvs k with
    | some v0 => rw [q] at hr; exact hr.elim
    | none =>
      refine h2 _ q ?_
      have hl : (putK kvs k y).length ≤ sizeLine := by have := length_putK kvs k y; omega
      have he : ∃ q, h'.get? a = some q := let ⟨q, _, _, hq, _⟩ := dd'; ⟨q, hq⟩
      exact d_write I (by rw [e]; exact True.intro) hs he (dk_new hl hd (rel.put k rr) dd')
def tDSetdef (td ty tx : TE) : TE := fun σ H Q => td σ H fun x H1 => ∃ a, x = .ref a ∧ IsD H1 a ∧ ty σ H1 fun y H2 => tx σ H2 fun z H3 => ∃ kvs k, H3 a = some (.dK kvs) ∧ kvs.length < sizeLine ∧ y = kV k ∧
  (∀ v, valV kvs k = some v → Q v H3) ∧ (valV kvs k = none → Q z (upd H3 a (.dK (putK kvs k z))))
theorem pe_dsetdef {o e f : Expr} {td ty tx : TE} {apos cpos : Pos} (ho : PE X o td) (he : PE X e ty) (hf : PE X f tx) (m : M2 X o "setdefault" apos e f cpos) : PE X (.Call (.Attribute o "setdefault" apos) [e, f] [] cpos) (tDSetdef td ty tx) := by
  intro pins s σ H Q I h
  refine wpAny_Call_method m.base m.few m.line PySem.F.plainAttrs_dict PySem.F.slot_dict_setdefault PySem.F.type_dict_setdefault (thn (ho pins s σ H _ I h) fun u s1 ⟨x, H1, I1, rx, a, ex, d, q1⟩ => ?_)
  subst ex
  obtain rfl : u = Value.ref a := rx
  obtain ⟨t1, t2, _⟩ := isD_at I1 d
  refine ⟨t1, t2, ?_⟩
  rw [m.trees]
  refine Calls.callWith_builtin rfl (Calls.evalArgs_plain (Calls.spliced_cons (thn (he pins s1 σ H1 _ I1 q1) fun iv s2 ⟨y, H2, I2, ry, q2⟩ =>
    Calls.spliced_cons (thn (hf pins s2 σ H2 _ I2 q2) fun fv s3 ⟨z, H3, I3, rz, kvs, k, ea, hl, ey, q3, q4⟩ => Calls.spliced_nil ?_))))
  subst ey
  exact d_setdef I3 ea hl ry rz (fun v w' s4 l rw' I4 => ⟨v, H3, I4, rw', q3 v l⟩) fun s4 l I4 => ⟨z, _, I4, rz, q4 l⟩
/-- a dict of the module -/
def KDict (K : PySem.W.Frag) (P : Program) (w : World) (a : Addr) (kvs : List (Key × V)) : Prop :=
  ∃ (o : Obj) (es : Array DictEntry) (ep : Nat) (vs : List (Key × Value)), K.lookup a = some o ∧ o.ExactDict ∧ o.data = .dict es ep ∧ PySem.KeysOf (mixKind P w) es ∧ Pairs (mixKind P w) es.toList vs ∧ (vs.map (·.1)).Nodup ∧ KV kvs vs
def tKGet (a : Addr) (kvs : List (Key × V)) (ty : TE) : TE := fun σ H Q => ty σ H fun y H1 => ∃ k v, y = kV k ∧ valV kvs k = some v ∧ Q v H1
/-- G[e], G a dict of the module -/
theorem pe_kget {x : Str} {e : Expr} {ty : TE} {a : Addr} {kvs : List (Key × V)} {p pos : Pos} (hg : Gl X x) (hm : X.mg x = some (.ref a)) (hk : KDict X.K X.prog X.w a kvs) (he : PE X e ty) (hs : NoSl e) (hd : (x == ("__debug__" : Str)) = false := by decide) : PE X (.Subscript (.Name x p) e pos) (tKGet a kvs ty) := by
  intro pins s σ H Q I h
  obtain ⟨o, es, ep, vs, lk, ex, da, ko, pr, nd, rel⟩ := hk
  have dd : ∀ {H' : Hp} {s' : Shared}, Inv X pins σ H' s' → s'.heap.DictOf (mixKind X.prog X.w) a vs := fun I' => ⟨o, es, ep, I'.kIn _ _ lk, ex, da, ko, pr, nd⟩
  refine subD_of PySem.F.slot_dict_getitem.lookup hs (ld_glob I hg hm (thn (he pins s σ H _ I h) fun iv s2 ⟨y, H2, I2, ry, k, v, ey, l, q2⟩ => ?_) hd)
  subst ey
  have d2 := dd I2
  obtain ⟨w', hw, rw'⟩ := RelO.some_of (v := v) (o := valueAt vs k) (by rw [← l]; exact rel.val k)
  exact ⟨d2.typeIs, wpAny_getItem_of (kV_is ry) d2.mapOf hw ⟨v, H2, I2.tok _, rw', q2⟩⟩
end
theorem for_items {d : Addr} {od : Obj} {kvs : List (Key × V)} {g : TG} {tb : TS} {D : Ends} {σ : St} {H : Hp} (Pv : Nat → St → Hp → Prop) (h0 : Pv 0 σ H) (hl : ∀ i σ H, i ≤ kvs.length → Pv i σ H → H d = some (.frz od (.dK kvs)))
    (hs : ∀ i k v T σ H, kvs[i]? = some (k, v) → H T = none → Pv i σ H → g (.ref T) σ (upd H T (.tup [kV k, v])) fun σ2 H2 => tb { D with nx := Pv (i + 1), ct := Pv (i + 1), bk := D.nx } σ2 H2) (hd : ∀ σ H, Pv kvs.length σ H → D.nx σ H) :
    ∃ W : Nat → Nat → St → Hp → Prop, (∃ m, W 0 m σ H) ∧ ∀ i m σ H, W i m σ H →
      ((Iti d od kvs).stop i H ∧ D.nx σ H) ∨ ((Iti d od kvs).go i H ∧ ∃ N : St → Hp → Prop, (∀ σ' H', N σ' H' → ∃ m', m' < m ∧ W (i + 1) m' σ' H') ∧ ∀ x H', (Iti d od kvs).yld i H x H' → g x σ H' fun σ2 H2 => tb { D with nx := N, ct := N, bk := D.nx } σ2 H2) := by
  refine ⟨fun i m σ H => m = kvs.length - i ∧ i ≤ kvs.length ∧ Pv i σ H, ⟨kvs.length, by simp, Nat.zero_le _, h0⟩, ?_⟩
  rintro i m σ H ⟨rfl, hi, p⟩
  have q := hl i σ H hi p
  by_cases hlt : i < kvs.length
  · refine .inr ⟨⟨q, hlt⟩, Pv (i + 1), fun σ' H' p' => ⟨kvs.length - (i + 1), by omega, rfl, hlt, p'⟩, fun x H' y => ?_⟩
    obtain ⟨T, k, v, e, ex, hT, eH⟩ := y
    subst ex eH
    exact hs i k v T σ H e hT p
  · have e : i = kvs.length := by omega
    subst e
    exact .inl ⟨⟨q, Nat.le_refl _⟩, hd σ H p⟩
structure Ok (P : Program) (w : World) (K : PySem.W.Frag) (mg : Str → Option Value) (base : Heap) (k : Nat) (x : Str) (ps : List Str) (sp : Sp) : Prop where
  ex : ∃ (f : Addr) (fd : FuncData), FnOk P w K mg base CX0 k f fd ps sp ∧ mg x = some (.ref f) ∧ PySem.W.keepIn K (.ref f) = true ∧ Binds K fd ps []
section
variable {X : Cx} {x : Str} {p pos : Pos} {e : Expr} {es : List Expr} {t : TA}
theorem pe_fn {k : Nat} {ps : List Str} {sp : Sp} (o : Ok X.prog X.w X.K X.mg X.base k x ps sp) (hr : Room k X.A) (hg : Gl X x) (ha : PA X (e :: es) t) (hdb : (x == ("__debug__" : Str)) = false := by decide)
    (he : starEach (e :: es) X.env = (false, eval e X.env) :: starEach es X.env := by rfl) (hpl : (backTo pos (starEach es X.env)).any (·.1) = false := by rfl) : PE X (.Call (.Name x p) (e :: es) [] pos) (tCall sp [] E0 t) := by
  obtain ⟨f, fd, F, hm, hk, hb⟩ := o.ex
  exact pe_call F hr hg hm hk hb .nil pass0 ha hdb he hpl
/-- a whole number of the module -/
theorem pe_const {z : Int} (hg : Gl X x) (hm : ∃ t, X.mg x = some (.int z t)) (hd : (x == ("__debug__" : Str)) = false := by decide) : PE X (.Name x pos) (tC (.int z)) := by
  obtain ⟨t, h⟩ := hm
  exact pe_glob hg h ⟨t, rfl⟩ hd
end
end L2
namespace Cu
open Sg
section
variable {α : Type} {f : α → Nat}
theorem nd_of_rise : ∀ {l : List α}, l.Pairwise (fun a b => f a < f b) → (l.map f).Nodup
  | [], _ => List.nodup_nil
  | a :: l, h => by
    rw [List.pairwise_cons] at h
    rw [List.map_cons, List.nodup_cons]
    refine ⟨fun hm => ?_, nd_of_rise h.2⟩
    obtain ⟨b, hb, e⟩ := List.mem_map.mp hm
    have := h.1 b hb
    omega
theorem find_some_iff {l : List α} (nd : (l.map f).Nodup) {x : Nat} {a : α} : l.find? (fun c => f c == x) = some a ↔ a ∈ l ∧ f a = x := by
  induction l with
  | nil => simp
  | cons b l ih =>
    rw [List.map_cons, List.nodup_cons] at nd
    rw [List.find?_cons]
    by_cases e : f b = x
    · have e' : (f b == x) = true := by simp [e]
      rw [e']
      constructor
      · intro h
        cases h
        exact ⟨List.mem_cons_self, e⟩
      · rintro ⟨hm, ha⟩
        rcases List.mem_cons.mp hm with rfl | hm
        · rfl
        · exact absurd (List.mem_map.mpr ⟨a, hm, ha.trans e.symm⟩) nd.1
    · have e' : (f b == x) = false := by simp [e]
      rw [e']
      constructor
      · intro h
        have := (ih nd.2).mp h
        exact ⟨List.mem_cons_of_mem _ this.1, this.2⟩
      · rintro ⟨hm, ha⟩
        rcases List.mem_cons.mp hm with rfl | hm
        · exact absurd ha e
        · exact (ih nd.2).mpr ⟨hm, ha⟩
theorem find_perm {l l' : List α} (p : l.Perm l') (nd : (l.map f).Nodup) (x : Nat) : l.find? (fun c => f c == x) = l'.find? (fun c => f c == x) := by
  have nd' : (l'.map f).Nodup := (p.map f).nodup_iff.mp nd
  cases h : l'.find? (fun c => f c == x) with
  | none =>
    rw [List.find?_eq_none] at h ⊢
    intro a ha
    exact h a (p.mem_iff.mp ha)
  | some a =>
    obtain ⟨h1, h2⟩ := (find_some_iff nd').mp h
    exact (find_some_iff nd).mpr ⟨p.mem_iff.mpr h1, h2⟩
theorem find_none_iff {l : List α} {x : Nat} : l.find? (fun c => f c == x) = none ↔ ∀ a ∈ l, f a ≠ x := by
  rw [List.find?_eq_none]
  constructor
  · intro h a ha e
    exact h a ha (by simp [e])
  · intro h a ha e
    exact h a ha (by simpa using e)
end
abbrev Ms := List (Nat × Nat)
/-- the level of the channel x -/
def mv (ms : Ms) (x : Nat) : Option Nat := (ms.find? fun m => m.1 == x).map (·.2)
structure MsOk (ms : Ms) : Prop where
  rise : ms.Pairwise (fun a b => a.1 < b.1)
  chan : ∀ m ∈ ms, 1 ≤ m.1 ∧ m.1 ≤ 64
theorem MsOk.nd {ms : Ms} (h : MsOk ms) : (ms.map (·.1)).Nodup := nd_of_rise h.rise
theorem MsOk.nil : MsOk [] := ⟨List.Pairwise.nil, by simp⟩
theorem mv_some_iff {ms : Ms} (nd : (ms.map (·.1)).Nodup) {x l : Nat} : mv ms x = some l ↔ (x, l) ∈ ms := by
  unfold mv
  constructor
  · intro h
    cases e : ms.find? (fun m => m.1 == x) with
    | none => rw [e] at h; cases h
    | some m =>
      rw [e] at h
      obtain ⟨h1, h2⟩ := (find_some_iff (f := Prod.fst) nd).mp e
      have h3 : m.2 = l := Option.some.inj h
      rw [← h2, ← h3]
      exact h1
  · intro h
    rw [(find_some_iff (f := Prod.fst) nd).mpr (⟨h, rfl⟩ : (x, l) ∈ ms ∧ (x, l).1 = x)]
    rfl
theorem mv_none_iff {ms : Ms} {x : Nat} : mv ms x = none ↔ x ∉ ms.map (·.1) := by
  unfold mv
  rw [Option.map_eq_none_iff, find_none_iff (f := Prod.fst)]
  simp only [List.mem_map, not_exists, not_and]
theorem mv_perm {d ms : Ms} (p : d.Perm ms) (nd : (d.map (·.1)).Nodup) (x : Nat) : mv d x = mv ms x := by
  unfold mv
  rw [find_perm (f := Prod.fst) p nd x]
/-- two tables that say the same are the same up to order -/
theorem perm_of_mv {d ms : Ms} (nd : (d.map (·.1)).Nodup) (nd' : (ms.map (·.1)).Nodup) (h : ∀ x, mv d x = mv ms x) : d.Perm ms := by
  have n1 : d.Nodup := List.Pairwise.of_map (·.1) (fun a b h e => h (by rw [e])) nd
  have n2 : ms.Nodup := List.Pairwise.of_map (·.1) (fun a b h e => h (by rw [e])) nd'
  refine (List.perm_ext_iff_of_nodup n1 n2).mpr fun a => ?_
  obtain ⟨x, l⟩ := a
  rw [← mv_some_iff nd, ← mv_some_iff nd', h x]
/-- d[x] = l -/
def nput (d : Ms) (x l : Nat) : Ms := if (d.any fun p => decide (p.1 = x)) = true then d.map (fun p => if p.1 = x then (p.1, l) else p) else d ++ [(x, l)]
theorem mv_nput (d : Ms) (x l y : Nat) : mv (nput d x l) y = if y = x then some l else mv d y := by
  have key : ∀ d : Ms, mv (d.map fun p => if p.1 = x then (p.1, l) else p) y = (mv d y).map fun z => if y = x then l else z := by
    intro d
    induction d with
    | nil => rfl
    | cons p r ih =>
      unfold mv at ih ⊢
      rw [List.map_cons, List.find?_cons, List.find?_cons]
      by_cases e : p.1 = x
      · rw [if_pos e]
        show Option.map _ (match (p.1 == y) with | true => _ | false => _) = _
        by_cases e2 : p.1 = y
        · have : y = x := by omega
          simp [e2, this]
        · have e3 : (p.1 == y) = false := by simp [e2]
          rw [e3]
          exact ih
      · rw [if_neg e]
        by_cases e2 : p.1 = y
        · have : ¬ y = x := by omega
          simp [e2, this]
        · have e3 : (p.1 == y) = false := by simp [e2]
          rw [e3]
          exact ih
  unfold nput
  split
  · rename_i h
    rw [key]
    by_cases e : y = x
    · subst e
      rw [if_pos rfl]
      obtain ⟨p, hp, e⟩ := List.any_eq_true.mp h
      cases e2 : mv d y with
      | none => exact absurd (List.mem_map.mpr ⟨p, hp, of_decide_eq_true e⟩) (mv_none_iff.mp e2)
      | some z => simp
    · rw [if_neg e]
      cases mv d y <;> simp [e]
  · rename_i h
    have hn : ∀ p ∈ d, p.1 ≠ x := fun p hp e => h (List.any_eq_true.mpr ⟨p, hp, decide_eq_true e⟩)
    unfold mv
    rw [List.find?_append]
    by_cases e : y = x
    · subst e
      rw [if_pos rfl]
      have : d.find? (fun m => m.1 == y) = none := (find_none_iff (f := Prod.fst)).mpr hn
      rw [this]
      simp
    · rw [if_neg e]
      have : ([(x, l)] : Ms).find? (fun m => m.1 == y) = none := by
        have e2 : (x == y) = false := by simp; omega
        rw [List.find?_cons]
        show (match (x == y) with | true => _ | false => _) = _
        rw [e2]
        rfl
      rw [this]
      simp
theorem nd_nput {d : Ms} (nd : (d.map (·.1)).Nodup) (x l : Nat) : ((nput d x l).map (·.1)).Nodup := by
  unfold nput
  split
  · have : (d.map fun p => if p.1 = x then (p.1, l) else p).map (·.1) = d.map (·.1) := by
      rw [List.map_map]
      apply List.map_congr_left
      intro p _
      show (if p.1 = x then (p.1, l) else p).1 = p.1
      split <;> rfl
    rw [this]
    exact nd
  · rename_i h
    rw [List.map_append, List.nodup_append]
    refine ⟨nd, by simp, ?_⟩
    intro a ha b hb e
    obtain ⟨p, hp, e2⟩ := List.mem_map.mp ha
    simp at hb
    exact h (List.any_eq_true.mpr ⟨p, hp, decide_eq_true (by omega)⟩)
theorem len_nput (d : Ms) (x l : Nat) : (nput d x l).length ≤ d.length + 1 := by
  unfold nput
  split <;> simp
theorem mem_putMove {x l : Nat} : ∀ {ms : Ms} {m : Nat × Nat}, m ∈ putMove x l ms → m = (x, l) ∨ m ∈ ms
  | [], m, h => by
    simp [putMove] at h
    exact .inl h
  | a :: r, m, h => by
    unfold putMove at h
    split at h
    · rcases List.mem_cons.mp h with h | h
      · exact .inl h
      · exact .inr h
    · split at h
      · rcases List.mem_cons.mp h with h | h
        · exact .inl h
        · exact .inr (List.mem_cons_of_mem _ h)
      · rcases List.mem_cons.mp h with h | h
        · exact .inr (by rw [h]; exact List.mem_cons_self)
        · rcases mem_putMove h with h | h
          · exact .inl h
          · exact .inr (List.mem_cons_of_mem _ h)
theorem rise_putMove {x l : Nat} : ∀ {ms : Ms}, ms.Pairwise (fun a b => a.1 < b.1) → (putMove x l ms).Pairwise (fun a b => a.1 < b.1)
  | [], _ => by simp [putMove]
  | a :: r, h => by
    have h' := List.pairwise_cons.mp h
    unfold putMove
    split
    · rename_i e
      refine List.pairwise_cons.mpr ⟨fun b hb => ?_, h⟩
      rcases List.mem_cons.mp hb with rfl | hb
      · exact e
      · exact Nat.lt_trans e (h'.1 b hb)
    · split
      · rename_i e1 e2
        refine List.pairwise_cons.mpr ⟨fun b hb => ?_, h'.2⟩
        show x < b.1
        rw [e2]
        exact h'.1 b hb
      · rename_i e1 e2
        refine List.pairwise_cons.mpr ⟨fun b hb => ?_, rise_putMove h'.2⟩
        rcases mem_putMove hb with rfl | hb
        · show a.1 < x
          omega
        · exact h'.1 b hb
theorem MsOk.put {ms : Ms} (h : MsOk ms) {x l : Nat} (h1 : 1 ≤ x) (h2 : x ≤ 64) : MsOk (putMove x l ms) :=
  ⟨rise_putMove h.rise, fun m hm => by
    rcases mem_putMove hm with rfl | hm
    · exact ⟨h1, h2⟩
    · exact h.chan m hm⟩
theorem mv_cons (m : Nat × Nat) (r : Ms) (y : Nat) : mv (m :: r) y = if m.1 = y then some m.2 else mv r y := by
  unfold mv
  rw [List.find?_cons]
  by_cases e : m.1 = y
  · simp [e]
  · have : (m.1 == y) = false := by simp [e]
    rw [this, if_neg e]
theorem mv_putMove {x l : Nat} (y : Nat) : ∀ {ms : Ms}, ms.Pairwise (fun a b => a.1 < b.1) → mv (putMove x l ms) y = if y = x then some l else mv ms y
  | [], _ => by
    show mv [(x, l)] y = _
    rw [mv_cons]
    by_cases e : y = x
    · simp [e]
    · rw [if_neg (fun h : x = y => e h.symm), if_neg e]
  | a :: r, h => by
    have h' := List.pairwise_cons.mp h
    unfold putMove
    split
    · rename_i e
      rw [mv_cons]
      by_cases e2 : y = x
      · simp [e2]
      · rw [if_neg (fun h : x = y => e2 h.symm), if_neg e2]
    · split
      · rename_i e1 e2
        rw [mv_cons, mv_cons]
        by_cases e3 : y = x
        · simp [e3]
        · rw [if_neg (fun h : x = y => e3 h.symm), if_neg e3, if_neg (fun h : a.1 = y => e3 (by omega))]
      · rename_i e1 e2
        rw [mv_cons, mv_cons, mv_putMove y h'.2]
        by_cases e3 : a.1 = y
        · rw [if_pos e3, if_pos e3, if_neg (by omega)]
        · rw [if_neg e3, if_neg e3]
theorem put_perm {d ms : Ms} (p : d.Perm ms) (ok : MsOk ms) (x l : Nat) : (nput d x l).Perm (putMove x l ms) := by
  have nd : (d.map (·.1)).Nodup := (p.map (·.1)).nodup_iff.mpr ok.nd
  refine perm_of_mv (nd_nput nd x l) (nd_of_rise (rise_putMove ok.rise)) fun y => ?_
  rw [mv_nput, mv_putMove y ok.rise, mv_perm p nd]
/-- d.pop(x) -/
def ndrop (d : Ms) (x : Nat) : Ms := d.filter fun p => decide (p.1 ≠ x)
theorem drop_perm {d ms : Ms} (p : d.Perm ms) (x : Nat) : (ndrop d x).Perm (ms.filter fun m => m.1 != x) := by
  have e : (fun p : Nat × Nat => decide (p.1 ≠ x)) = fun m => m.1 != x := by
    funext p
    by_cases h : p.1 = x <;> simp [h]
  unfold ndrop
  rw [e]
  exact p.filter _
theorem MsOk.filter {ms : Ms} (h : MsOk ms) (q : Nat × Nat → Bool) : MsOk (ms.filter q) :=
  ⟨h.rise.filter q, fun m hm => h.chan m (List.mem_filter.mp hm).1⟩
theorem len_rise : ∀ {ms : Ms} {a : Nat}, ms.Pairwise (fun a b => a.1 < b.1) → (∀ m ∈ ms, a ≤ m.1 ∧ m.1 ≤ 64) → ms.length ≤ 65 - a
  | [], _, _, _ => Nat.zero_le _
  | m :: r, a, h, k => by
    have h' := List.pairwise_cons.mp h
    have k0 := k m List.mem_cons_self
    have := len_rise (ms := r) (a := m.1 + 1) h'.2 fun b hb => ⟨h'.1 b hb, (k b (List.mem_cons_of_mem _ hb)).2⟩
    rw [List.length_cons]
    omega
theorem MsOk.len {ms : Ms} (h : MsOk ms) : ms.length ≤ 64 := len_rise h.rise h.chan
end Cu
namespace Cu
open Sg
theorem cons_set {α : Type} (a : α) (k : List α) {c : Nat} (h : 1 ≤ c) (l : α) : (a :: k).set c l = a :: k.set (c - 1) l := by
  obtain ⟨d, rfl⟩ : ∃ d, c = d + 1 := ⟨c - 1, by omega⟩
  rfl
def onMs (k : Look) (ms : Ms) : Look := ms.foldl (fun (a : Look) (m : Nat × Nat) => a.with_ m.1 m.2) k
theorem on_eq (c : Cue) (k : Look) : c.on k = onMs k c.moves := rfl
theorem len_onMs : ∀ (ms : Ms) (k : Look), (onMs k ms).length = k.length
  | [], _ => rfl
  | m :: r, k => by
    show (onMs (k.with_ m.1 m.2) r).length = _
    rw [len_onMs r]
    exact List.length_set
theorem onMs_perm {d ms : Ms} (p : d.Perm ms) (nd : (d.map (·.1)).Nodup) (ch : ∀ m ∈ d, 1 ≤ m.1) (k : Look) : onMs k d = onMs k ms := by
  unfold onMs
  refine p.foldl_eq' (fun x hx y hy z => ?_) k
  show (z.set (x.1 - 1) x.2).set (y.1 - 1) y.2 = (z.set (y.1 - 1) y.2).set (x.1 - 1) x.2
  by_cases e : x.1 = y.1
  · have e2 : x = y := by
      obtain ⟨x1, x2⟩ := x
      obtain ⟨y1, y2⟩ := y
      have e : x1 = y1 := e
      subst e
      have h1 := (mv_some_iff nd).mpr hx
      have h2 := (mv_some_iff nd).mpr hy
      rw [h1] at h2
      cases h2
      rfl
    rw [e2]
  · have a := ch x hx
    have b := ch y hy
    exact List.set_comm _ _ (by omega)
theorem len_lookUpTo (S : Sheet) (n : Nat) : (lookUpTo S n).length = 64 := by
  have key : ∀ (S : Sheet) (k : Look), (S.foldl (fun (a : Look) (c : Cue) => if c.number ≤ n then c.on a else a) k).length = k.length := by
    intro S
    induction S with
    | nil => intro k; rfl
    | cons c r ih =>
      intro k
      rw [List.foldl_cons, ih]
      split
      · exact len_onMs _ _
      · rfl
  unfold lookUpTo
  rw [key]
  exact List.length_replicate
theorem lookUpTo_snoc (S : Sheet) (c : Cue) (n : Nat) : lookUpTo (S ++ [c]) n = if c.number ≤ n then onMs (lookUpTo S n) c.moves else lookUpTo S n := by
  unfold lookUpTo
  rw [List.foldl_append]
  rfl
theorem lookUpTo_nil (n : Nat) : lookUpTo [] n = List.replicate 64 0 := rfl
theorem lookBefore_eq (S : Sheet) {n : Nat} (h : 1 ≤ n) : lookBefore S n = lookUpTo S (n - 1) := by
  unfold lookBefore lookUpTo
  congr 1
  funext a c
  by_cases e : c.number < n
  · rw [if_pos e, if_pos (by omega)]
  · rw [if_neg e, if_neg (by omega)]
section
variable {α : Type} (f : α → Nat)
def putBy (c : α) : List α → List α
  | [] => [c]
  | d :: r => if f c < f d then c :: d :: r else if f c = f d then c :: r else d :: putBy c r
variable {f : α → Nat}
theorem putBy_map {β : Type} {g : β → Nat} (t : α → β) (h : ∀ a, g (t a) = f a) (c : α) : ∀ l : List α, (putBy f c l).map t = putBy g (t c) (l.map t)
  | [] => rfl
  | d :: r => by
    rw [List.map_cons]
    unfold putBy
    rw [h, h]
    split
    · rfl
    · split
      · rfl
      · rw [List.map_cons, putBy_map t h c r]
theorem mem_putBy {c a : α} : ∀ {l : List α}, a ∈ putBy f c l → a = c ∨ (a ∈ l ∧ f a ≠ f c) ∨ (a ∈ l)
  | [], h => by simp [putBy] at h; exact .inl h
  | d :: r, h => by
    unfold putBy at h
    split at h
    · rcases List.mem_cons.mp h with h | h
      · exact .inl h
      · exact .inr (.inr h)
    · split at h
      · rcases List.mem_cons.mp h with h | h
        · exact .inl h
        · exact .inr (.inr (List.mem_cons_of_mem _ h))
      · rcases List.mem_cons.mp h with h | h
        · exact .inr (.inr (by rw [h]; exact List.mem_cons_self))
        · rcases mem_putBy h with h | h | h
          · exact .inl h
          · exact .inr (.inr (List.mem_cons_of_mem _ h.1))
          · exact .inr (.inr (List.mem_cons_of_mem _ h))
theorem rise_putBy {c : α} : ∀ {l : List α}, l.Pairwise (fun a b => f a < f b) → (putBy f c l).Pairwise (fun a b => f a < f b)
  | [], _ => by simp [putBy]
  | a :: r, h => by
    have h' := List.pairwise_cons.mp h
    unfold putBy
    split
    · rename_i e
      refine List.pairwise_cons.mpr ⟨fun b hb => ?_, h⟩
      rcases List.mem_cons.mp hb with rfl | hb
      · exact e
      · exact Nat.lt_trans e (h'.1 b hb)
    · split
      · rename_i e1 e2
        refine List.pairwise_cons.mpr ⟨fun b hb => ?_, h'.2⟩
        rw [e2]
        exact h'.1 b hb
      · rename_i e1 e2
        refine List.pairwise_cons.mpr ⟨fun b hb => ?_, rise_putBy h'.2⟩
        rcases mem_putBy hb with rfl | hb | hb
        · omega
        · exact h'.1 b hb.1
        · exact h'.1 b hb
theorem putBy_new {c : α} : ∀ {l : List α}, (∀ a ∈ l, f a ≠ f c) → (putBy f c l).Perm (l ++ [c])
  | [], _ => by simp [putBy]
  | d :: r, h => by
    unfold putBy
    split
    · exact (List.perm_append_singleton c (d :: r)).symm
    · split
      · rename_i e
        exact absurd e.symm (h d List.mem_cons_self)
      · exact (putBy_new fun a ha => h a (List.mem_cons_of_mem _ ha)).cons d
theorem putBy_there {c : α} : ∀ {l : List α}, l.Pairwise (fun a b => f a < f b) → (∃ a ∈ l, f a = f c) → putBy f c l = l.map fun d => if f d = f c then c else d
  | [], _, h => by
    obtain ⟨a, ha, _⟩ := h
    cases ha
  | d :: r, hr, h => by
    have h' := List.pairwise_cons.mp hr
    unfold putBy
    split
    · rename_i e
      obtain ⟨a, ha, ea⟩ := h
      rcases List.mem_cons.mp ha with rfl | ha
      · omega
      · have := h'.1 a ha
        omega
    · split
      · rename_i e
        rw [List.map_cons, if_pos e.symm]
        congr 1
        have : ∀ b ∈ r, (if f b = f c then c else b) = b := fun b hb => by
          have := h'.1 b hb
          rw [if_neg (by omega)]
        rw [List.map_congr_left this]
        simp
      · rename_i e1 e2
        rw [List.map_cons, if_neg (fun h => e2 h.symm)]
        congr 1
        refine putBy_there h'.2 ?_
        obtain ⟨a, ha, ea⟩ := h
        rcases List.mem_cons.mp ha with rfl | ha
        · omega
        · exact ⟨a, ha, ea⟩
end
theorem putCue_eq (c : Cue) : ∀ S : Sheet, putCue c S = putBy Cue.number c S
  | [] => rfl
  | d :: r => by
    unfold putCue putBy
    rw [putCue_eq c r]
theorem halt_put {c : Cue} {n : Nat} (h : c.number = n) (alone : Bool) : ∀ S : Sheet, halt_ (putCue c S) n alone = halt_ S n alone := by
  have hc : (decide (n < c.number) && (alone || c.block)) = false := by simp [h]
  intro S
  induction S with
  | nil =>
    show List.find? _ [c] = none
    rw [List.find?_cons, hc]
    rfl
  | cons d r ih =>
    unfold putCue
    unfold halt_ at ih ⊢
    split
    · rw [List.find?_cons, hc]
    · split
      · rename_i e
        rw [List.find?_cons, hc, List.find?_cons]
        have : (decide (n < d.number) && (alone || d.block)) = false := by
          have : d.number = n := by omega
          simp [this]
        rw [this]
      · rw [List.find?_cons, List.find?_cons, ih]
theorem halt_drop {n : Nat} (alone : Bool) : ∀ S : Sheet, halt_ (S.filter fun (c : Cue) => c.number != n) n alone = halt_ S n alone := by
  intro S
  induction S with
  | nil => rfl
  | cons d r ih =>
    unfold halt_ at ih ⊢
    rw [List.filter_cons]
    by_cases e : d.number = n
    · have e1 : (d.number != n) = false := by simp [e]
      have e2 : (decide (n < d.number) && (alone || d.block)) = false := by simp [e]
      rw [e1, if_neg (by simp), List.find?_cons, e2]
      exact ih
    · have e1 : (d.number != n) = true := by simp [e]
      rw [e1, if_pos rfl, List.find?_cons, List.find?_cons, ih]
/-- the moves that bring b to a -/
def heldMs (a b : Look) (m : Nat) (ms : Ms) : Ms := (List.range m).foldl (fun (ms : Ms) (i : Nat) => if a.getD i 0 = b.getD i 0 then ms else putMove (i + 1) (a.getD i 0) ms) ms
theorem heldMs_succ (a b : Look) (m : Nat) (ms : Ms) : heldMs a b (m + 1) ms = if a.getD m 0 = b.getD m 0 then heldMs a b m ms else putMove (m + 1) (a.getD m 0) (heldMs a b m ms) := by
  unfold heldMs
  rw [List.range_succ, List.foldl_append]
  rfl
theorem held_fold (a b : Look) (m : Nat) (c : Cue) : (List.range m).foldl (fun (d : Cue) (i : Nat) => if a.getD i 0 = b.getD i 0 then d else d.with_ (i + 1) (a.getD i 0)) c = { c with moves := heldMs a b m c.moves } := by
  induction m with
  | zero => rfl
  | succ m ih =>
    rw [List.range_succ, List.foldl_append, ih, heldMs_succ]
    show (if a.getD m 0 = b.getD m 0 then _ else _) = _
    split <;> rfl
theorem MsOk.held {ms : Ms} (h : MsOk ms) (a b : Look) : ∀ {m : Nat}, m ≤ 64 → MsOk (heldMs a b m ms)
  | 0, _ => h
  | m + 1, hm => by
    rw [heldMs_succ]
    split
    · exact h.held a b (by omega)
    · exact (h.held a b (m := m) (by omega)).put (by omega) (by omega)
theorem held_eq (old new : Sheet) (n : Nat) (alone : Bool) : held old new n alone = match halt_ new n alone with
    | none => new
    | some c => putBy Cue.number { c with moves := heldMs (lookUpTo old c.number) (lookUpTo new c.number) 64 c.moves } new := by
  unfold held
  cases halt_ new n alone with
  | none => rfl
  | some c =>
    show putCue _ new = _
    rw [putCue_eq]
    show putBy Cue.number ((List.range 64).foldl _ c) new = _
    rw [held_fold]
theorem halt_some {S : Sheet} {n : Nat} {alone : Bool} {c : Cue} (h : halt_ S n alone = some c) : c ∈ S ∧ n < c.number := by
  unfold halt_ at h
  refine ⟨List.mem_of_find?_eq_some h, ?_⟩
  have := List.find?_some h
  simp at this
  exact this.1
def blkMs (s : Sheet) (k : Look) (m : Nat) (ms : Ms) : Ms := (List.range m).foldl (fun (ms : Ms) (i : Nat) => if moved s (i + 1) = true ∧ (mv ms (i + 1)).isNone = true then putMove (i + 1) (k.getD i 0) ms else ms) ms
theorem blkMs_succ (s : Sheet) (k : Look) (m : Nat) (ms : Ms) : blkMs s k (m + 1) ms = if moved s (m + 1) = true ∧ (mv (blkMs s k m ms) (m + 1)).isNone = true then putMove (m + 1) (k.getD m 0) (blkMs s k m ms) else blkMs s k m ms := by
  unfold blkMs
  rw [List.range_succ, List.foldl_append]
  rfl
theorem blk_fold (s : Sheet) (k : Look) (m : Nat) (c : Cue) : (List.range m).foldl (fun (d : Cue) (i : Nat) => if moved s (i + 1) = true ∧ (d.move (i + 1)).isNone = true then d.with_ (i + 1) (k.getD i 0) else d) c = { c with moves := blkMs s k m c.moves } := by
  induction m with
  | zero => rfl
  | succ m ih =>
    rw [List.range_succ, List.foldl_append, ih, blkMs_succ]
    show (if moved s (m + 1) = true ∧ (mv (blkMs s k m c.moves) (m + 1)).isNone = true then _ else _) = _
    split <;> rfl
theorem MsOk.blk {ms : Ms} (h : MsOk ms) (s : Sheet) (k : Look) : ∀ {m : Nat}, m ≤ 64 → MsOk (blkMs s k m ms)
  | 0, _ => h
  | m + 1, hm => by
    rw [blkMs_succ]
    split
    · exact (h.blk s k (m := m) (by omega)).put (by omega) (by omega)
    · exact h.blk s k (by omega)
theorem mv_blk {ms : Ms} (h : MsOk ms) (s : Sheet) (k : Look) (x : Nat) : ∀ {m : Nat}, m ≤ 64 →
    mv (blkMs s k m ms) x = match mv ms x with
      | some l => some l
      | none => if 1 ≤ x ∧ x ≤ m ∧ moved s x = true then some (k.getD (x - 1) 0) else none
  | 0, _ => by
    show mv ms x = _
    cases mv ms x with
    | some l => rfl
    | none =>
      show none = if _ then _ else _
      rw [if_neg (by omega)]
  | m + 1, hm => by
    have ih := mv_blk h s k x (m := m) (by omega)
    rw [blkMs_succ]
    split
    · rename_i e
      rw [mv_putMove x (h.blk s k (m := m) (by omega)).rise]
      by_cases ex : x = m + 1
      · subst ex
        rw [if_pos rfl]
        have e2 := e.2
        rw [ih] at e2
        cases q : mv ms (m + 1) with
        | some l => rw [q] at e2; cases e2
        | none =>
          show _ = if _ then _ else _
          rw [if_pos ⟨by omega, by omega, e.1⟩]
          rfl
      · rw [if_neg ex, ih]
        cases mv ms x with
        | some l => rfl
        | none =>
          show (if _ then _ else _) = if _ then _ else _
          by_cases c : 1 ≤ x ∧ x ≤ m ∧ moved s x = true
          · rw [if_pos c, if_pos ⟨c.1, by omega, c.2.2⟩]
          · rw [if_neg c, if_neg (fun z => c ⟨z.1, by omega, z.2.2⟩)]
    · rename_i e
      rw [ih]
      cases q : mv ms x with
      | some l => rfl
      | none =>
        show (if _ then _ else _) = if _ then _ else _
        by_cases ex : x = m + 1
        · subst ex
          rw [if_neg (by omega), if_neg]
          intro z
          refine e ⟨z.2.2, ?_⟩
          rw [ih, q]
          show (if _ then _ else _ : Option Nat).isNone = true
          rw [if_neg (by omega)]
          rfl
        · by_cases c : 1 ≤ x ∧ x ≤ m ∧ moved s x = true
          · rw [if_pos c, if_pos ⟨c.1, by omega, c.2.2⟩]
          · rw [if_neg c, if_neg (fun z => c ⟨z.1, by omega, z.2.2⟩)]
theorem moved_iff {s : Sheet} {x : Nat} : moved s x = true ↔ ∃ c ∈ s, x ∈ c.moves.map (·.1) := by
  unfold moved
  rw [List.any_eq_true]
  constructor
  · rintro ⟨c, hc, h⟩
    refine ⟨c, hc, ?_⟩
    by_cases z : x ∈ c.moves.map (·.1)
    · exact z
    · have : c.move x = none := mv_none_iff.mpr z
      rw [this] at h
      cases h
  · rintro ⟨c, hc, h⟩
    refine ⟨c, hc, ?_⟩
    cases q : c.move x with
    | none => exact absurd h (mv_none_iff.mp q)
    | some l => rfl
end Cu
namespace Cu
open Sg
theorem whole_eq (c : List (List Int)) : PyWqatdt.whole c = c := by
  unfold PyWqatdt.whole
  split <;> rfl
theorem map_whole (cs : List (List (List Int))) : cs.map PyWqatdt.whole = cs := by
  have : PyWqatdt.whole = id := funext whole_eq
  rw [this, List.map_id]
/-- how many numbers stand behind a call's own -/
def behind (p : Int) : Option Nat := (PyWqatdt.shape p).map (·.1)
theorem shape_inv {p : Int} {q : Nat × Nat} (h : PyWqatdt.shape p = some q) : (p = 0 ∧ q = (4, 0)) ∨ (p = 1 ∧ q = (3, 0)) ∨ (p = 2 ∧ q = (2, 0)) ∨ (p = 3 ∧ q = (3, 0)) ∨ (p = 4 ∧ q = (1, 0)) ∨ (p = 5 ∧ q = (1, 0)) ∨ (p = 6 ∧ q = (0, 0)) ∨ (p = 7 ∧ q = (0, 0)) ∨ (p = 8 ∧ q = (1, 0)) ∨ (p = 9 ∧ q = (1, 0)) ∨ (p = 10 ∧ q = (1, 0)) ∨ (p = 11 ∧ q = (2, 0)) := by
  unfold PyWqatdt.shape at h
  by_cases h0 : p = 0
  · rw [if_pos h0] at h
    exact .inl ⟨h0, (Option.some.inj h).symm⟩
  rw [if_neg h0] at h
  by_cases h1 : p = 1
  · rw [if_pos h1] at h
    exact .inr (.inl ⟨h1, (Option.some.inj h).symm⟩)
  rw [if_neg h1] at h
  by_cases h2 : p = 2
  · rw [if_pos h2] at h
    exact .inr (.inr (.inl ⟨h2, (Option.some.inj h).symm⟩))
  rw [if_neg h2] at h
  by_cases h3 : p = 3
  · rw [if_pos h3] at h
    exact .inr (.inr (.inr (.inl ⟨h3, (Option.some.inj h).symm⟩)))
  rw [if_neg h3] at h
  by_cases h4 : p = 4
  · rw [if_pos h4] at h
    exact .inr (.inr (.inr (.inr (.inl ⟨h4, (Option.some.inj h).symm⟩))))
  rw [if_neg h4] at h
  by_cases h5 : p = 5
  · rw [if_pos h5] at h
    exact .inr (.inr (.inr (.inr (.inr (.inl ⟨h5, (Option.some.inj h).symm⟩)))))
  rw [if_neg h5] at h
  by_cases h6 : p = 6
  · rw [if_pos h6] at h
    exact .inr (.inr (.inr (.inr (.inr (.inr (.inl ⟨h6, (Option.some.inj h).symm⟩))))))
  rw [if_neg h6] at h
  by_cases h7 : p = 7
  · rw [if_pos h7] at h
    exact .inr (.inr (.inr (.inr (.inr (.inr (.inr (.inl ⟨h7, (Option.some.inj h).symm⟩)))))))
  rw [if_neg h7] at h
  by_cases h8 : p = 8
  · rw [if_pos h8] at h
    exact .inr (.inr (.inr (.inr (.inr (.inr (.inr (.inr (.inl ⟨h8, (Option.some.inj h).symm⟩))))))))
  rw [if_neg h8] at h
  by_cases h9 : p = 9
  · rw [if_pos h9] at h
    exact .inr (.inr (.inr (.inr (.inr (.inr (.inr (.inr (.inr (.inl ⟨h9, (Option.some.inj h).symm⟩)))))))))
  rw [if_neg h9] at h
  by_cases h10 : p = 10
  · rw [if_pos h10] at h
    exact .inr (.inr (.inr (.inr (.inr (.inr (.inr (.inr (.inr (.inr (.inl ⟨h10, (Option.some.inj h).symm⟩))))))))))
  rw [if_neg h10] at h
  by_cases h11 : p = 11
  · rw [if_pos h11] at h
    exact .inr (.inr (.inr (.inr (.inr (.inr (.inr (.inr (.inr (.inr (.inr (⟨h11, (Option.some.inj h).symm⟩)))))))))))
  rw [if_neg h11] at h
  cases h
theorem shape_zero {p : Int} {n k : Nat} (h : PyWqatdt.shape p = some (n, k)) : k = 0 := by
  rcases shape_inv h with h | h | h | h | h | h | h | h | h | h | h | h
  all_goals
    have h2 := congrArg Prod.snd h.2
    exact h2
theorem calls_cons {f : Nat} {p : Int} {r : List Int} {cs : List (List (List Int))} (h : PyFlat.calls PyWqatdt.shape (f + 1) (p :: r) = some cs) :
    ∃ (n : Nat) (t : List (List (List Int))), PyWqatdt.shape p = some (n, 0) ∧ n ≤ r.length ∧ PyFlat.calls PyWqatdt.shape f (r.drop n) = some t ∧ cs = [p :: r.take n] :: t := by
  unfold PyFlat.calls at h
  unfold PyFlat.call at h
  dsimp only at h
  cases e : PyWqatdt.shape p with
  | none => rw [e] at h; cases h
  | some q =>
    obtain ⟨n, k⟩ := q
    have e0 := shape_zero e
    subst e0
    rw [e] at h
    dsimp only at h
    by_cases hl : r.length < n
    · rw [if_pos hl] at h
      cases h
    · rw [if_neg hl] at h
      have e1 : PyFlat.rows 0 (r.drop n) = some ([], r.drop n) := rfl
      rw [e1] at h
      dsimp only at h
      cases e2 : PyFlat.calls PyWqatdt.shape f (r.drop n) with
      | none => rw [e2] at h; cases h
      | some t =>
        rw [e2] at h
        exact ⟨n, t, rfl, by omega, e2, (Option.some.inj h).symm⟩
theorem calls_nil {f : Nat} : PyFlat.calls PyWqatdt.shape f [] = some [] := by
  unfold PyFlat.calls
  rfl
theorem calls_zero {p : Int} {r : List Int} : PyFlat.calls PyWqatdt.shape 0 (p :: r) = none := by
  unfold PyFlat.calls
  rfl
abbrev nstep := WqatdtNeutral.step
/-- what is answered from a sheet on -/
def outOf (s : Sheet) (cs : List (List (List Int))) : List Int := PyFlat.told (PyFlat.played nstep s cs)
theorem outOf_nil (s : Sheet) : outOf s [] = [] := rfl
theorem outOf_cons (s : Sheet) (c : List (List Int)) (r : List (List (List Int))) : outOf s (c :: r) = ((nstep s c).2.length : Int) :: (nstep s c).2 ++ outOf (nstep s c).1 r := by
  unfold outOf PyFlat.told
  show List.flatMap _ ((nstep s c).2 :: PyFlat.played nstep (nstep s c).1 r) = _
  rw [List.flatMap_cons]
theorem asked_open {l : List Int} (h : PyWqatdt.answers_asked l = true) : ∃ cs, PyFlat.calls PyWqatdt.shape l.length l = some cs ∧ cs.length ≤ 400 ∧ (∀ c ∈ cs, WqatdtNeutral.asked1 c = true) ∧ PyWqatdt.answers l = outOf [] cs := by
  unfold PyWqatdt.answers_asked at h
  unfold PyWqatdt.answers
  have e : PyWqatdt.calls l = PyFlat.calls PyWqatdt.shape l.length l := by
    unfold PyWqatdt.calls
    cases PyFlat.calls PyWqatdt.shape l.length l with
    | none => rfl
    | some cs =>
      show some (cs.map PyWqatdt.whole) = _
      rw [map_whole]
  rw [e] at h ⊢
  cases q : PyFlat.calls PyWqatdt.shape l.length l with
  | none => rw [q] at h; cases h
  | some cs =>
    rw [q] at h
    dsimp only at h
    rw [Bool.and_eq_true] at h
    have h1 := of_decide_eq_true h.1
    have h2 := h.2
    unfold WqatdtNeutral.asked at h2
    rw [Bool.and_eq_true, Bool.and_eq_true, Bool.and_eq_true] at h2
    exact ⟨cs, rfl, h1, fun c hc => List.all_eq_true.mp h2.1.1.1 c hc, rfl⟩
end Cu
namespace Cu
open Sg Wqatdt
theorem within_iff {lo hi n : Nat} : within lo hi n = true ↔ lo ≤ n ∧ n ≤ hi := by
  unfold within
  rw [Bool.and_eq_true, decide_eq_true_iff, decide_eq_true_iff]
theorem within_false {lo hi n : Nat} : within lo hi n = false ↔ ¬ (lo ≤ n ∧ n ≤ hi) := by
  rw [← within_iff, Bool.not_eq_true]
theorem bad_iff {n a : Nat} : badNumber n a = true ↔ ¬ ((1 ≤ n ∧ n ≤ 9999) ∧ a ≤ 1) := by
  unfold badNumber
  rw [Bool.or_eq_true, Bool.not_eq_true', within_false, decide_eq_true_iff]
  show ¬ (1 ≤ n ∧ n ≤ 9999) ∨ 1 < a ↔ _
  omega
theorem full_iff {s : Sheet} {n : Nat} : full s n = true ↔ Sg.find s n = none ∧ 24 ≤ s.length := by
  unfold full isCue
  rw [Bool.and_eq_true, decide_eq_true_iff, Bool.not_eq_true']
  show _ ∧ 24 ≤ s.length ↔ _
  cases Sg.find s n <;> simp
variable {S : Sheet}
theorem record_bad {n x l a : Nat} (h : ¬ ((1 ≤ n ∧ n ≤ 9999) ∧ (1 ≤ x ∧ x ≤ 64) ∧ l ≤ 100 ∧ a ≤ 1)) : Wqatdt.step S (.record n x l a) = (S, says (-1)) := by
  show (if badNumber n a = true ∨ within 1 CHANNELS x = false ∨ FULL < l then (S, BAD) else _) = _
  rw [if_pos]
  · rfl
  · rw [bad_iff, within_false]
    show _ ∨ ¬ (1 ≤ x ∧ x ≤ 64) ∨ 100 < l
    omega
theorem record_full {n x l a : Nat} (h : (1 ≤ n ∧ n ≤ 9999) ∧ (1 ≤ x ∧ x ≤ 64) ∧ l ≤ 100 ∧ a ≤ 1) (hf : Sg.find S n = none ∧ 24 ≤ S.length) : Wqatdt.step S (.record n x l a) = (S, says (-5)) := by
  show (if badNumber n a = true ∨ within 1 CHANNELS x = false ∨ FULL < l then (S, BAD) else if full S n = true then (S, says (-5)) else _) = _
  rw [if_neg, if_pos (full_iff.mpr hf)]
  rw [bad_iff, within_false]
  show ¬ (_ ∨ ¬ (1 ≤ x ∧ x ≤ 64) ∨ 100 < l)
  omega
theorem record_ok {n x l a : Nat} (h : (1 ≤ n ∧ n ≤ 9999) ∧ (1 ≤ x ∧ x ≤ 64) ∧ l ≤ 100 ∧ a ≤ 1) (hf : ¬ (Sg.find S n = none ∧ 24 ≤ S.length)) : Wqatdt.step S (.record n x l a) = Wqatdt.now (held S (putBy Cue.number { cueOr S n with moves := putMove x l (cueOr S n).moves } S) n (a == 1)) := by
  show (if badNumber n a = true ∨ within 1 CHANNELS x = false ∨ FULL < l then (S, BAD) else if full S n = true then (S, says (-5)) else _) = _
  rw [if_neg, if_neg (fun z => hf (full_iff.mp z))]
  · unfold recorded
    rw [putCue_eq]
    rfl
  · rw [bad_iff, within_false]
    show ¬ (_ ∨ ¬ (1 ≤ x ∧ x ≤ 64) ∨ 100 < l)
    omega
theorem release_bad {n x a : Nat} (h : ¬ ((1 ≤ n ∧ n ≤ 9999) ∧ (1 ≤ x ∧ x ≤ 64) ∧ a ≤ 1)) : Wqatdt.step S (.release n x a) = (S, says (-1)) := by
  show (if badNumber n a = true ∨ within 1 CHANNELS x = false then (S, BAD) else _) = _
  rw [if_pos]
  · rfl
  · rw [bad_iff, within_false]
    show _ ∨ ¬ (1 ≤ x ∧ x ≤ 64)
    omega
theorem release_go {n x a : Nat} (h : (1 ≤ n ∧ n ≤ 9999) ∧ (1 ≤ x ∧ x ≤ 64) ∧ a ≤ 1) : Wqatdt.step S (.release n x a) = match Sg.find S n with
    | none => (S, says (-4))
    | some c => if mv c.moves x = none then (S, says (-3)) else Wqatdt.now (held S (putBy Cue.number { cueOr S n with moves := (cueOr S n).moves.filter fun m => m.1 != x } S) n (a == 1)) := by
  show (if badNumber n a = true ∨ within 1 CHANNELS x = false then (S, BAD) else _) = _
  rw [if_neg]
  · show (match Sg.find S n with | none => _ | some c => _) = _
    cases e : Sg.find S n with
    | none => rfl
    | some c =>
      show (if (mv c.moves x).isNone = true then _ else _) = if _ then _ else _
      by_cases q : mv c.moves x = none
      · rw [if_pos q, if_pos (by rw [q]; rfl)]
        rfl
      · rw [if_neg q, if_neg (by rw [Option.isNone_iff_eq_none]; exact q)]
        unfold released
        rw [putCue_eq]
        rfl
  · rw [bad_iff, within_false]
    show ¬ (_ ∨ ¬ (1 ≤ x ∧ x ≤ 64))
    omega
theorem delete_bad {n a : Nat} (h : ¬ ((1 ≤ n ∧ n ≤ 9999) ∧ a ≤ 1)) : Wqatdt.step S (.delete n a) = (S, says (-1)) := by
  show (if badNumber n a = true then (S, BAD) else _) = _
  rw [if_pos (bad_iff.mpr h)]
  rfl
theorem isCue_false {n : Nat} : isCue S n = false ↔ Sg.find S n = none := by
  unfold isCue
  cases Sg.find S n <;> simp
theorem delete_none {n a : Nat} (h : (1 ≤ n ∧ n ≤ 9999) ∧ a ≤ 1) (q : Sg.find S n = none) : Wqatdt.step S (.delete n a) = (S, says (-4)) := by
  show (if badNumber n a = true then (S, BAD) else if isCue S n = false then (S, NONE) else _) = _
  rw [if_neg (fun z => bad_iff.mp z h), if_pos (isCue_false.mpr q)]
  rfl
theorem delete_ok {n a : Nat} (h : (1 ≤ n ∧ n ≤ 9999) ∧ a ≤ 1) (q : Sg.find S n ≠ none) : Wqatdt.step S (.delete n a) = Wqatdt.now (held S (S.filter fun (c : Cue) => c.number != n) n (a == 1)) := by
  show (if badNumber n a = true then (S, BAD) else if isCue S n = false then (S, NONE) else _) = _
  rw [if_neg (fun z => bad_iff.mp z h), if_neg (fun z => q (isCue_false.mp z))]
  rfl
theorem copy_bad {m n a : Nat} (h : ¬ ((1 ≤ n ∧ n ≤ 9999) ∧ a ≤ 1)) : Wqatdt.step S (.copy m n a) = (S, says (-1)) := by
  show (if badNumber n a = true then (S, BAD) else _) = _
  rw [if_pos (bad_iff.mpr h)]
  rfl
theorem copy_none {m n a : Nat} (h : (1 ≤ n ∧ n ≤ 9999) ∧ a ≤ 1) (q : Sg.find S m = none) : Wqatdt.step S (.copy m n a) = (S, says (-4)) := by
  show (if badNumber n a = true then (S, BAD) else if isCue S m = false then (S, NONE) else _) = _
  rw [if_neg (fun z => bad_iff.mp z h), if_pos (isCue_false.mpr q)]
  rfl
theorem copy_full {m n a : Nat} (h : (1 ≤ n ∧ n ≤ 9999) ∧ a ≤ 1) (q : Sg.find S m ≠ none) (hf : Sg.find S n = none ∧ 24 ≤ S.length) : Wqatdt.step S (.copy m n a) = (S, says (-5)) := by
  show (if badNumber n a = true then (S, BAD) else if isCue S m = false then (S, NONE) else if full S n = true then _ else _) = _
  rw [if_neg (fun z => bad_iff.mp z h), if_neg (fun z => q (isCue_false.mp z)), if_pos (full_iff.mpr hf)]
theorem copy_ok {m n a : Nat} (h : (1 ≤ n ∧ n ≤ 9999) ∧ a ≤ 1) (q : Sg.find S m ≠ none) (hf : ¬ (Sg.find S n = none ∧ 24 ≤ S.length)) :
    Wqatdt.step S (.copy m n a) = Wqatdt.now (held S (putBy Cue.number { cueOr S n with moves := heldMs (lookUpTo S m) (lookUpTo S n) 64 (cueOr S n).moves } S) n (a == 1)) := by
  show (if badNumber n a = true then (S, BAD) else if isCue S m = false then (S, NONE) else if full S n = true then _ else _) = _
  rw [if_neg (fun z => bad_iff.mp z h), if_neg (fun z => q (isCue_false.mp z)), if_neg (fun z => hf (full_iff.mp z))]
  unfold copied
  dsimp only
  rw [putCue_eq]
  show Wqatdt.now (held S (putBy Cue.number ((List.range 64).foldl _ _) S) n _) = _
  rw [held_fold]
theorem block_none {n : Nat} (q : Sg.find S n = none) : Wqatdt.step S (.block n) = (S, says (-4)) := by
  show (if isCue S n = false then (S, NONE) else _) = _
  rw [if_pos (isCue_false.mpr q)]
  rfl
theorem block_ok {n : Nat} (q : Sg.find S n ≠ none) : Wqatdt.step S (.block n) = Wqatdt.now (putBy Cue.number { cueOr S n with block := true, moves := blkMs S (lookUpTo S n) 64 (cueOr S n).moves } S) := by
  show (if isCue S n = false then (S, NONE) else _) = _
  rw [if_neg (fun z => q (isCue_false.mp z))]
  unfold blocked
  dsimp only
  rw [putCue_eq]
  have e := blk_fold S (lookUpTo S n) 64 (cueOr S n)
  show Wqatdt.now (putBy Cue.number { ((List.range 64).foldl (fun (d : Cue) (i : Nat) => if moved S (i + 1) = true ∧ (d.move (i + 1)).isNone = true then d.with_ (i + 1) ((lookUpTo S n).getD i 0) else d) (cueOr S n) : Cue) with block := true } S) = _
  rw [e]
theorem unblock_none {n : Nat} (q : Sg.find S n = none) : Wqatdt.step S (.unblock n) = (S, says (-4)) := by
  show (match Sg.find S n with | none => (S, NONE) | some c => _) = _
  rw [q]
  rfl
theorem unblock_not {n : Nat} {c : Cue} (q : Sg.find S n = some c) (h : c.block = false) : Wqatdt.step S (.unblock n) = (S, says (-3)) := by
  show (match Sg.find S n with | none => (S, NONE) | some c => if c.block = false then (S, NO) else _) = _
  rw [q]
  show (if c.block = false then (S, NO) else _) = _
  rw [if_pos h]
  rfl
theorem unblock_ok {n : Nat} {c : Cue} (q : Sg.find S n = some c) (h : c.block = true) : Wqatdt.step S (.unblock n) = Wqatdt.now (putBy Cue.number { c with block := false, moves := c.moves.filter fun m => (lookBefore S n).of m.1 != m.2 } S) := by
  show (match Sg.find S n with | none => (S, NONE) | some c => if c.block = false then (S, NO) else Wqatdt.now (unblocked S n)) = _
  rw [q]
  show (if c.block = false then (S, NO) else _) = _
  rw [if_neg (by rw [h]; simp)]
  unfold unblocked cueOr
  rw [q, putCue_eq]
  rfl
end Cu
namespace Cu
open Sg
theorem with_self {k : Look} {x l : Nat} (h1 : 1 ≤ x) (h2 : x ≤ k.length) (e : k.of x = l) : k.with_ x l = k := by
  unfold Look.of at e
  unfold Look.with_
  apply List.ext_getElem?
  intro i
  rw [List.getElem?_set]
  by_cases c : x - 1 = i
  · subst c
    rw [if_pos rfl, if_pos (by omega)]
    rw [List.getD_eq_getElem?_getD] at e
    rw [List.getElem?_eq_getElem (by omega)] at e ⊢
    rw [← e]
    rfl
  · rw [if_neg c]
theorem of_with {k : Look} {x y l : Nat} (h1 : 1 ≤ x) (h2 : x ≤ k.length) (h3 : 1 ≤ y) : (k.with_ x l).of y = if y = x then l else k.of y := by
  unfold Look.of Look.with_
  rw [List.getD_eq_getElem?_getD, List.getElem?_set, List.getD_eq_getElem?_getD]
  by_cases c : y = x
  · subst c
    rw [if_pos rfl, if_pos rfl, if_pos (by omega)]
    rfl
  · rw [if_neg c, if_neg (by omega)]
/-- the channel x behind a cue's moves -/
theorem of_onMs {x : Nat} (hx : 1 ≤ x) : ∀ {ms : Ms} {k : Look}, (ms.map (·.1)).Nodup → (∀ m ∈ ms, 1 ≤ m.1 ∧ m.1 ≤ k.length) → (onMs k ms).of x = (mv ms x).getD (k.of x)
  | [], k, _, _ => rfl
  | m :: r, k, nd, h => by
    rw [List.map_cons, List.nodup_cons] at nd
    have hm := h m List.mem_cons_self
    show (onMs (k.with_ m.1 m.2) r).of x = _
    rw [of_onMs hx nd.2 (fun q hq => by
      have := h q (List.mem_cons_of_mem _ hq)
      unfold Look.with_
      rw [List.length_set]
      exact this), mv_cons, of_with hm.1 hm.2 hx]
    by_cases c : m.1 = x
    · subst c
      rw [if_pos rfl, if_pos rfl, mv_none_iff.mpr nd.1]
      rfl
    · rw [if_neg c, if_neg (fun z => c z.symm)]
/-- needless moves change no look -/
theorem onMs_needed {k : Look} : ∀ {ms : Ms} {k' : Look}, (ms.map (·.1)).Nodup → (∀ m ∈ ms, 1 ≤ m.1 ∧ m.1 ≤ k'.length) → (∀ m ∈ ms, k'.of m.1 = k.of m.1) → onMs k' (ms.filter fun m => k.of m.1 != m.2) = onMs k' ms
  | [], _, _, _, _ => rfl
  | m :: r, k', nd, h, a => by
    rw [List.map_cons, List.nodup_cons] at nd
    have hm := h m List.mem_cons_self
    have am := a m List.mem_cons_self
    rw [List.filter_cons]
    by_cases c : k.of m.1 = m.2
    · rw [if_neg (by simp [c])]
      show _ = onMs (k'.with_ m.1 m.2) r
      rw [with_self hm.1 hm.2 (by rw [am]; exact c)]
      exact onMs_needed nd.2 (fun q hq => h q (List.mem_cons_of_mem _ hq)) fun q hq => a q (List.mem_cons_of_mem _ hq)
    · rw [if_pos (by simp [c])]
      show onMs (k'.with_ m.1 m.2) (r.filter _) = onMs (k'.with_ m.1 m.2) r
      refine onMs_needed nd.2 (fun q hq => ?_) fun q hq => ?_
      · unfold Look.with_
        rw [List.length_set]
        exact h q (List.mem_cons_of_mem _ hq)
      · have hq' := h q (List.mem_cons_of_mem _ hq)
        rw [of_with hm.1 hm.2 hq'.1, if_neg]
        · exact a q (List.mem_cons_of_mem _ hq)
        · intro e
          exact nd.1 (List.mem_map.mpr ⟨q, hq, e⟩)
def lookOf (S : Sheet) (k : Look) : Look := S.foldl (fun (a : Look) (c : Cue) => c.on a) k
theorem lookOf_snoc (S : Sheet) (c : Cue) (k : Look) : lookOf (S ++ [c]) k = onMs (lookOf S k) c.moves := by
  unfold lookOf
  rw [List.foldl_append]
  rfl
theorem len_lookOf : ∀ (S : Sheet) (k : Look), (lookOf S k).length = k.length
  | [], _ => rfl
  | c :: S, k => by
    show (lookOf S (c.on k)).length = _
    rw [len_lookOf S]
    exact len_onMs _ _
theorem upTo_low {n : Nat} : ∀ {S : Sheet} (k : Look), (∀ c ∈ S, c.number ≤ n) → S.foldl (fun (a : Look) (c : Cue) => if c.number ≤ n then c.on a else a) k = lookOf S k
  | [], _, _ => rfl
  | c :: S, k, h => by
    show S.foldl _ (if c.number ≤ n then c.on k else k) = lookOf S (c.on k)
    rw [if_pos (h c List.mem_cons_self)]
    exact upTo_low _ fun d hd => h d (List.mem_cons_of_mem _ hd)
theorem upTo_high {n : Nat} : ∀ {S : Sheet} (k : Look), (∀ c ∈ S, n < c.number) → S.foldl (fun (a : Look) (c : Cue) => if c.number ≤ n then c.on a else a) k = k
  | [], _, _ => rfl
  | c :: S, k, h => by
    show S.foldl _ (if c.number ≤ n then c.on k else k) = k
    have := h c List.mem_cons_self
    rw [if_neg (by omega)]
    exact upTo_high _ fun d hd => h d (List.mem_cons_of_mem _ hd)
theorem upTo_split {A B : Sheet} {n : Nat} (hA : ∀ c ∈ A, c.number ≤ n) (hB : ∀ c ∈ B, n < c.number) : lookUpTo (A ++ B) n = lookOf A dark := by
  unfold lookUpTo
  rw [List.foldl_append, upTo_low _ hA, upTo_high _ hB]
def clOne (k : Look) (c : Cue) : Cue := if c.block = true then c else needed k c
theorem clean_snoc (c : Cue) : ∀ (S : Sheet) (k : Look), cleanFrom k (S ++ [c]) = cleanFrom k S ++ [clOne (lookOf S k) c]
  | [], _ => rfl
  | d :: S, k => by
    show (if d.block = true then d else needed k d) :: cleanFrom (d.on k) (S ++ [c]) = _
    rw [clean_snoc c S]
    rfl
theorem clOne_number (k : Look) (c : Cue) : (clOne k c).number = c.number := by
  unfold clOne
  split <;> rfl
theorem lookOf_clean : ∀ {S : Sheet} {k : Look}, (∀ c ∈ S, MsOk c.moves) → k.length = 64 → lookOf (cleanFrom k S) k = lookOf S k
  | [], _, _, _ => rfl
  | c :: S, k, h, hk => by
    have hc := h c List.mem_cons_self
    have e : (clOne k c).on k = c.on k := by
      unfold clOne
      split
      · rfl
      · exact onMs_needed (k := k) hc.nd (fun m hm => by rw [hk]; exact hc.chan m hm) fun _ _ => rfl
    show lookOf (cleanFrom (c.on k) S) ((clOne k c).on k) = lookOf S (c.on k)
    rw [e]
    exact lookOf_clean (fun d hd => h d (List.mem_cons_of_mem _ hd)) (by rw [← hk]; exact len_onMs _ _)
variable {S : Sheet}
theorem clean_ok : Wqatdt.step S .clean = (cleaned S, Wqatdt.says (movesIn (cleaned S) : Nat)) := rfl
theorem cues_ok : Wqatdt.step S .cues = (S, Wqatdt.tells (S.length : Nat) (S.flatMap fun (c : Cue) => [c.number, c.block.toNat])) := rfl
theorem moves_none {n : Nat} (q : Sg.find S n = none) : Wqatdt.step S (.moves n) = (S, Wqatdt.says (-4)) := by
  show (S, (match Sg.find S n with | none => Wqatdt.NONE | some c => _ : Wqatdt.Ans)) = _
  rw [q]
  rfl
theorem moves_ok {n : Nat} {c : Cue} (q : Sg.find S n = some c) : Wqatdt.step S (.moves n) = (S, Wqatdt.tells (c.moves.length : Nat) (c.moves.flatMap fun (m : Nat × Nat) => [m.1, m.2])) := by
  show (S, (match Sg.find S n with | none => Wqatdt.NONE | some c => _ : Wqatdt.Ans)) = _
  rw [q]
theorem look_none {n : Nat} (q : Sg.find S n = none) : Wqatdt.step S (.look n) = (S, Wqatdt.says (-4)) := by
  show (S, (if Wqatdt.isCue S n = false then Wqatdt.NONE else _ : Wqatdt.Ans)) = _
  rw [if_pos (isCue_false.mpr q)]
  rfl
theorem look_ok {n : Nat} (q : Sg.find S n ≠ none) : Wqatdt.step S (.look n) = (S, Wqatdt.tells 0 (lookUpTo S n)) := by
  show (S, (if Wqatdt.isCue S n = false then Wqatdt.NONE else _ : Wqatdt.Ans)) = _
  rw [if_neg (fun z => q (isCue_false.mp z))]
theorem track_bad {x : Nat} (h : ¬ (1 ≤ x ∧ x ≤ 64)) : Wqatdt.step S (.track x) = (S, Wqatdt.says (-1)) := by
  show (S, (if within 1 CHANNELS x = false then Wqatdt.BAD else _ : Wqatdt.Ans)) = _
  rw [if_pos (show within 1 CHANNELS x = false from within_false.mpr h)]
  rfl
theorem track_ok {x : Nat} (h : 1 ≤ x ∧ x ≤ 64) : Wqatdt.step S (.track x) = (S, Wqatdt.tells (S.length : Nat) (S.flatMap fun (c : Cue) => [(lookUpTo S c.number).of x, (c.move x).isSome.toNat])) := by
  show (S, (if within 1 CHANNELS x = false then Wqatdt.BAD else _ : Wqatdt.Ans)) = _
  rw [if_neg (show ¬ within 1 CHANNELS x = false from fun z => within_false.mp z h)]
theorem differ_none {m n : Nat} (q : Sg.find S m = none ∨ Sg.find S n = none) : Wqatdt.step S (.differ m n) = (S, Wqatdt.says (-4)) := by
  show (S, (if Wqatdt.isCue S m = false ∨ Wqatdt.isCue S n = false then Wqatdt.NONE else _ : Wqatdt.Ans)) = _
  rw [if_pos (q.imp isCue_false.mpr isCue_false.mpr)]
  rfl
/-- the channels, less one, at which two looks part -/
def parts (a b : Look) (m : Nat) : List Nat := (List.range m).filter fun (i : Nat) => a.getD i 0 != b.getD i 0
theorem parts_succ (a b : Look) (m : Nat) : parts a b (m + 1) = parts a b m ++ (if a.getD m 0 = b.getD m 0 then [] else [m]) := by
  unfold parts
  rw [List.range_succ, List.filter_append, List.filter_cons, List.filter_nil]
  by_cases e : a.getD m 0 = b.getD m 0
  · rw [if_pos e, if_neg (by rw [e]; simp)]
  · rw [if_neg e, if_pos (bne_iff_ne.mpr e)]
theorem parts_lt {a b : Look} {m i : Nat} (h : i ∈ parts a b m) : i < m := by
  have := (List.mem_filter.mp h).1
  exact List.mem_range.mp this
theorem len_parts (a b : Look) (m : Nat) : (parts a b m).length ≤ m := by
  have := List.length_filter_le (fun (i : Nat) => a.getD i 0 != b.getD i 0) (List.range m)
  rw [List.length_range] at this
  exact this
theorem differ_ok {m n : Nat} (q : Sg.find S m ≠ none) (q2 : Sg.find S n ≠ none) : Wqatdt.step S (.differ m n) = (S, Wqatdt.tells ((parts (lookUpTo S m) (lookUpTo S n) 64).length : Nat) ((parts (lookUpTo S m) (lookUpTo S n) 64).flatMap fun (i : Nat) => [i + 1, (lookUpTo S m).getD i 0, (lookUpTo S n).getD i 0])) := by
  show (S, (if Wqatdt.isCue S m = false ∨ Wqatdt.isCue S n = false then Wqatdt.NONE else _ : Wqatdt.Ans)) = _
  rw [if_neg (by
    intro z
    rcases z with z | z
    · exact q (isCue_false.mp z)
    · exact q2 (isCue_false.mp z))]
  rfl
theorem sum_len : ∀ (S : Sheet), ((movesIn S : Nat) : Int) = (S.map fun (c : Cue) => (c.moves.length : Int)).sum
  | [] => rfl
  | c :: S => by
    have ih := sum_len S
    unfold movesIn at ih ⊢
    rw [List.map_cons, List.sum_cons, List.map_cons, List.sum_cons, ← ih]
    omega
end Cu
set_option Elab.async false
set_option linter.all false
set_option maxRecDepth 100000
set_option maxHeartbeats 2000000
namespace Cu
open PySem PySem.Spec PyProof.Rows L2 Sg
def enc (d : Ms) : List (Key × V) := d.map fun m => (Sum.inl (m.1 : Int), V.int (m.2 : Int))
theorem key_eq {x y : Nat} : (Sum.inl (x : Int) : Key) = Sum.inl (y : Int) ↔ x = y := by
  constructor
  · intro h
    have := Sum.inl.inj h
    omega
  · intro h
    rw [h]
theorem valV_enc (x : Nat) : ∀ d : Ms, valV (enc d) (Sum.inl (x : Int) : Key) = (mv d x).map fun l : Nat => V.int (l : Int)
  | [] => rfl
  | m :: r => by
    have ih := valV_enc x r
    unfold valV enc at ih ⊢
    rw [List.map_cons, List.find?_cons, mv_cons]
    by_cases e : m.1 = x
    · have e1 : decide ((Sum.inl (m.1 : Int) : Key) = Sum.inl (x : Int)) = true := decide_eq_true (key_eq.mpr e)
      rw [e1, if_pos e]
      rfl
    · have e1 : decide ((Sum.inl (m.1 : Int) : Key) = Sum.inl (x : Int)) = false := decide_eq_false fun h => e (key_eq.mp h)
      rw [e1, if_neg e]
      exact ih
theorem any_enc (x : Nat) (d : Ms) : ((enc d).any fun kv => decide (kv.1 = (Sum.inl (x : Int) : Key))) = d.any fun p => decide (p.1 = x) := by
  unfold enc
  rw [List.any_map]
  congr 1
  funext p
  by_cases e : p.1 = x
  · rw [decide_eq_true e]
    exact decide_eq_true (key_eq.mpr e)
  · rw [decide_eq_false e]
    exact decide_eq_false fun h => e (key_eq.mp h)
theorem putK_enc (d : Ms) (x l : Nat) : putK (enc d) (Sum.inl (x : Int) : Key) (V.int (l : Int)) = enc (nput d x l) := by
  unfold putK nput
  rw [any_enc]
  split
  · unfold enc
    rw [List.map_map, List.map_map]
    apply List.map_congr_left
    intro p _
    show (if (Sum.inl (p.1 : Int) : Key) = Sum.inl (x : Int) then _ else _) = _
    by_cases e : p.1 = x
    · rw [if_pos (key_eq.mpr e)]
      show _ = (fun m : Nat × Nat => ((Sum.inl (m.1 : Int) : Key), V.int (m.2 : Int))) (if p.1 = x then (p.1, l) else p)
      rw [if_pos e]
    · rw [if_neg fun h => e (key_eq.mp h)]
      show _ = (fun m : Nat × Nat => ((Sum.inl (m.1 : Int) : Key), V.int (m.2 : Int))) (if p.1 = x then (p.1, l) else p)
      rw [if_neg e]
  · unfold enc
    rw [List.map_append]
    rfl
theorem dropK_enc (d : Ms) (x : Nat) : dropK (enc d) (Sum.inl (x : Int) : Key) = enc (ndrop d x) := by
  unfold dropK ndrop enc
  rw [List.filter_map]
  congr 1
  apply List.filter_congr
  intro p _
  show decide ((Sum.inl (p.1 : Int) : Key) ≠ Sum.inl (x : Int)) = decide (p.1 ≠ x)
  by_cases e : p.1 = x
  · rw [decide_eq_false fun h => h (key_eq.mpr e), decide_eq_false fun h => h e]
  · rw [decide_eq_true (show (Sum.inl (p.1 : Int) : Key) ≠ Sum.inl (x : Int) from fun h => e (key_eq.mp h)), decide_eq_true e]
theorem keys_enc (d : Ms) : (enc d).map (·.1) = (d.map fun m => (m.1 : Int)).map Sum.inl := by
  unfold enc
  rw [List.map_map, List.map_map]
  rfl
theorem len_enc (d : Ms) : (enc d).length = d.length := List.length_map ..
structure PC where
  n : Nat
  a : Addr
  m : Addr
  b : Bool
  ms : Ms
def PC.cue (c : PC) : Cue := ⟨c.n, c.b, c.ms⟩
def key (c : PC) : Key × V := (Sum.inl (c.n : Int), V.ref c.a)
def shOf (cs : List PC) : Sheet := cs.map PC.cue
theorem len_shOf (cs : List PC) : (shOf cs).length = cs.length := List.length_map ..
def fnd (ks : List PC) (n : Nat) : Option PC := ks.find? fun c => c.n == n
theorem valV_key (n : Nat) : ∀ ks : List PC, valV (ks.map key) (Sum.inl (n : Int) : Key) = (fnd ks n).map fun c => V.ref c.a
  | [] => rfl
  | c :: r => by
    have ih := valV_key n r
    unfold valV fnd at ih ⊢
    rw [List.map_cons, List.find?_cons, List.find?_cons]
    by_cases e : c.n = n
    · have e1 : decide ((key c).1 = (Sum.inl (n : Int) : Key)) = true := decide_eq_true (key_eq.mpr e)
      have e2 : (c.n == n) = true := by simp [e]
      rw [e1, e2]
      rfl
    · have e1 : decide ((key c).1 = (Sum.inl (n : Int) : Key)) = false := decide_eq_false fun h => e (key_eq.mp h)
      have e2 : (c.n == n) = false := by simp [e]
      rw [e1, e2]
      exact ih
theorem keys_key (ks : List PC) : (ks.map key).map (·.1) = (ks.map fun c => (c.n : Int)).map Sum.inl := by
  rw [List.map_map, List.map_map]
  rfl
theorem find_shOf (cs : List PC) (n : Nat) : Sg.find (shOf cs) n = (fnd cs n).map PC.cue := by
  unfold Sg.find shOf fnd
  rw [List.find?_map]
  rfl
/-- the attributes of a cue -/
theorem mb : ¬ (("moves" : Str) = "blocked") := by decide +kernel
def cf (m : Addr) (b : Bool) : List (Str × V) := putF "blocked" (.bl b) (putF "moves" (.ref m) [])
theorem cf_eq (m : Addr) (b : Bool) : cf m b = ([("moves", V.ref m), ("blocked", V.bl b)] : List (Str × V)) := by
  show (if ("moves" : Str) = "blocked" then [(("moves" : Str), V.bl b)] else (("moves" : Str), V.ref m) :: putF "blocked" (V.bl b) []) = ([("moves", V.ref m), ("blocked", V.bl b)] : List (Str × V))
  rw [if_neg mb]
  all_goals rfl
theorem cf_moves (m : Addr) (b : Bool) : (cf m b).lookup ("moves" : Str) = some (.ref m) := by
  unfold cf
  rw [lookup_putF, if_neg mb, lookup_putF, if_pos rfl]
theorem cf_blocked (m : Addr) (b : Bool) : (cf m b).lookup ("blocked" : Str) = some (.bl b) := by
  unfold cf
  rw [lookup_putF, if_pos rfl]
theorem cf_putB (m : Addr) (b c : Bool) : putF "blocked" (.bl c) (cf m b) = cf m c := by
  rw [cf_eq, cf_eq]
  show (if ("moves" : Str) = "blocked" then _ else (("moves" : Str), V.ref m) :: (if ("blocked" : Str) = "blocked" then [(("blocked" : Str), V.bl c)] else _)) = ([("moves", V.ref m), ("blocked", V.bl c)] : List (Str × V))
  rw [if_neg mb, if_pos rfl]
theorem cf_putM (m : Addr) (b : Bool) (q : Addr) : putF "moves" (.ref q) (cf m b) = cf q b := by
  rw [cf_eq, cf_eq]
  show (if ("moves" : Str) = "moves" then (("moves" : Str), V.ref q) :: [(("blocked" : Str), V.bl b)] else _) = ([("moves", V.ref q), ("blocked", V.bl b)] : List (Str × V))
  rw [if_pos rfl]
theorem cf_len (m : Addr) (b : Bool) : (cf m b).length < 1000 := by
  rw [cf_eq]
  show 2 < 1000
  decide
structure CueAt (C : Addr) (H : Hp) (c : PC) : Prop where
  ob : ∃ dx, H c.a = some (.ins C dx (cf c.m c.b))
  mo : ∃ d : Ms, d.Perm c.ms ∧ H c.m = some (.dK (enc d))
structure SheetAt (C : Addr) (H : Hp) (sh : Addr) (cs : List PC) : Prop where
  dc : ∃ ks : List PC, ks.Perm cs ∧ H sh = some (.dK (ks.map key))
  cue : ∀ c ∈ cs, CueAt C H c
  rise : cs.Pairwise (fun a b => a.n < b.n)
  ndA : ∀ c ∈ cs, ∀ c' ∈ cs, c.a = c'.a → c = c'
  ndM : ∀ c ∈ cs, ∀ c' ∈ cs, c.m = c'.m → c = c'
  shM : ∀ c ∈ cs, c.m ≠ sh
  num : ∀ c ∈ cs, 1 ≤ c.n ∧ c.n ≤ 9999
  ok : ∀ c ∈ cs, MsOk c.ms
  len : cs.length ≤ 24
section
variable {C : Addr} {H H' : Hp} {sh : Addr} {cs : List PC}
theorem CueAt.same {c : PC} (h : CueAt C H c) (e : Same H H') : CueAt C H' c :=
  let ⟨⟨dx, h1⟩, ⟨d, p, h2⟩⟩ := h
  ⟨⟨dx, e _ _ h1⟩, ⟨d, p, e _ _ h2⟩⟩
theorem SheetAt.same (S : SheetAt C H sh cs) (e : Same H H') : SheetAt C H' sh cs :=
  ⟨let ⟨ks, p, h⟩ := S.dc; ⟨ks, p, e _ _ h⟩, fun c hc => (S.cue c hc).same e, S.rise, S.ndA, S.ndM, S.shM, S.num, S.ok, S.len⟩
theorem SheetAt.nd (S : SheetAt C H sh cs) : (cs.map PC.n).Nodup := nd_of_rise S.rise
theorem SheetAt.inj (S : SheetAt C H sh cs) {c c' : PC} (h : c ∈ cs) (h' : c' ∈ cs) (e : c.n = c'.n) : c = c' := by
  have h1 := (find_some_iff (f := PC.n) S.nd).mpr ⟨h, rfl⟩
  have h2 := (find_some_iff (f := PC.n) S.nd).mpr ⟨h', rfl⟩
  rw [e, h2] at h1
  exact (Option.some.inj h1).symm
/-- what stands at a number, in the program's own order too -/
theorem SheetAt.fnd (S : SheetAt C H sh cs) {ks : List PC} (p : ks.Perm cs) (n : Nat) : fnd ks n = fnd cs n :=
  find_perm (f := PC.n) p ((p.map PC.n).nodup_iff.mpr S.nd) n
theorem fnd_some (S : SheetAt C H sh cs) {n : Nat} {c : PC} : fnd cs n = some c ↔ c ∈ cs ∧ c.n = n := find_some_iff (f := PC.n) S.nd
theorem fnd_none {n : Nat} : fnd cs n = none ↔ ∀ c ∈ cs, c.n ≠ n := find_none_iff (f := PC.n)
/-- the cue's object is no dict of moves, no sheet -/
theorem SheetAt.aM (S : SheetAt C H sh cs) {c c' : PC} (h : c ∈ cs) (h' : c' ∈ cs) : c.a ≠ c'.m := by
  obtain ⟨dx, h1⟩ := (S.cue c h).ob
  obtain ⟨d, _, h2⟩ := (S.cue c' h').mo
  exact ne_of h1 h2 (by intro z; cases z)
theorem SheetAt.aS (S : SheetAt C H sh cs) {c : PC} (h : c ∈ cs) : c.a ≠ sh := by
  obtain ⟨dx, h1⟩ := (S.cue c h).ob
  obtain ⟨ks, _, h2⟩ := S.dc
  exact ne_of h1 h2 (by intro z; cases z)
/-- one cue given other moves, its flag changed; the objects stay -/
def chg (cs : List PC) (n : Nat) (b : Bool) (ms : Ms) : List PC := cs.map fun c => if c.n = n then { c with b := b, ms := ms } else c
theorem chg_n (cs : List PC) (n : Nat) (b : Bool) (ms : Ms) {f : PC → Nat} (hf : ∀ (c : PC) (b : Bool) (ms : Ms), f { c with b := b, ms := ms } = f c) : (chg cs n b ms).map f = cs.map f := by
  unfold chg
  rw [List.map_map]
  apply List.map_congr_left
  intro c _
  show f (if c.n = n then _ else c) = f c
  split
  · exact hf c b ms
  · rfl
theorem chg_key (ks : List PC) (n : Nat) (b : Bool) (ms : Ms) : (chg ks n b ms).map key = ks.map key := by
  unfold chg
  rw [List.map_map]
  apply List.map_congr_left
  intro c _
  show key (if c.n = n then _ else c) = key c
  split <;> rfl
theorem mem_chg {n : Nat} {b : Bool} {ms : Ms} {c : PC} (h : c ∈ chg cs n b ms) : ∃ c0 ∈ cs, (c0.n = n ∧ c = { c0 with b := b, ms := ms }) ∨ (c0.n ≠ n ∧ c = c0) := by
  obtain ⟨c0, h0, e⟩ := List.mem_map.mp h
  refine ⟨c0, h0, ?_⟩
  by_cases z : c0.n = n
  · rw [if_pos z] at e
    exact .inl ⟨z, e.symm⟩
  · rw [if_neg z] at e
    exact .inr ⟨z, e.symm⟩
theorem SheetAt.chg (S : SheetAt C H sh cs) {c0 : PC} (h0 : c0 ∈ cs) {b : Bool} {d : Ms} {ms : Ms} (p : d.Perm ms) (ok : MsOk ms)
    (h1 : ∃ dx, H' c0.a = some (.ins C dx (cf c0.m b))) (h2 : H' c0.m = some (.dK (enc d)))
    (kp : ∀ q o, H q = some o → q ≠ c0.a → q ≠ c0.m → H' q = some o) : SheetAt C H' sh (Cu.chg cs c0.n b ms) := by
  have hm : ∀ {c}, c ∈ Cu.chg cs c0.n b ms → ∃ c1 ∈ cs, (c1 = c0 ∧ c = { c0 with b := b, ms := ms }) ∨ (c1.n ≠ c0.n ∧ c = c1) := fun {c} h => by
    obtain ⟨c1, hc1, h⟩ := mem_chg h
    refine ⟨c1, hc1, ?_⟩
    rcases h with ⟨e, ec⟩ | ec
    · have ei := S.inj hc1 h0 e
      exact .inl ⟨ei, by rw [← ei]; exact ec⟩
    · exact .inr ec
  have aEq : ∀ {c c1 : PC}, ((c1 = c0 ∧ c = { c0 with b := b, ms := ms }) ∨ (c1.n ≠ c0.n ∧ c = c1)) → c.a = c1.a ∧ c.m = c1.m ∧ c.n = c1.n := fun {c c1} h => by
    rcases h with ⟨rfl, rfl⟩ | ⟨_, rfl⟩
    · exact ⟨rfl, rfl, rfl⟩
    · exact ⟨rfl, rfl, rfl⟩
  have same : ∀ {c c1 c' c1' : PC}, ((c1 = c0 ∧ c = { c0 with b := b, ms := ms }) ∨ (c1.n ≠ c0.n ∧ c = c1)) → ((c1' = c0 ∧ c' = { c0 with b := b, ms := ms }) ∨ (c1'.n ≠ c0.n ∧ c' = c1')) → c1 = c1' → c = c' := fun {c c1 c' c1'} h h' e => by
    subst e
    rcases h with ⟨rfl, rfl⟩ | ⟨hn, rfl⟩
    · rcases h' with ⟨_, rfl⟩ | ⟨hn, _⟩
      · rfl
      · exact absurd rfl hn
    · rcases h' with ⟨rfl, _⟩ | ⟨_, rfl⟩
      · exact absurd rfl hn
      · rfl
  refine ⟨?_, fun c hc => ?_, ?_, fun c hc c' hc' e => ?_, fun c hc c' hc' e => ?_, fun c hc => ?_, fun c hc => ?_, fun c hc => ?_, ?_⟩
  · obtain ⟨ks, q, e⟩ := S.dc
    refine ⟨Cu.chg ks c0.n b ms, q.map _, ?_⟩
    rw [chg_key]
    exact kp _ _ e (Ne.symm (S.aS h0)) (Ne.symm (S.shM c0 h0))
  · obtain ⟨c1, hc1, h⟩ := hm hc
    rcases h with ⟨rfl, rfl⟩ | ⟨hn, rfl⟩
    · exact ⟨h1, ⟨d, p, h2⟩⟩
    · obtain ⟨⟨dx, e1⟩, ⟨d', p', e2⟩⟩ := S.cue c hc1
      refine ⟨⟨dx, kp _ _ e1 (fun z => hn (by rw [S.ndA c hc1 c0 h0 z])) (S.aM hc1 h0)⟩, ⟨d', p', kp _ _ e2 (Ne.symm (S.aM h0 hc1)) (fun z => hn (by rw [S.ndM c hc1 c0 h0 z]))⟩⟩
  · have r := S.rise
    unfold Cu.chg
    rw [List.pairwise_map]
    refine r.imp fun {x y} hxy => ?_
    have e : ∀ z : PC, (if z.n = c0.n then ({ z with b := b, ms := ms } : PC) else z).n = z.n := fun z => by split <;> rfl
    rw [e, e]
    exact hxy
  · obtain ⟨c1, hc1, h⟩ := hm hc
    obtain ⟨c1', hc1', h'⟩ := hm hc'
    exact same h h' (S.ndA c1 hc1 c1' hc1' (by rw [← (aEq h).1, ← (aEq h').1]; exact e))
  · obtain ⟨c1, hc1, h⟩ := hm hc
    obtain ⟨c1', hc1', h'⟩ := hm hc'
    exact same h h' (S.ndM c1 hc1 c1' hc1' (by rw [← (aEq h).2.1, ← (aEq h').2.1]; exact e))
  · obtain ⟨c1, hc1, h⟩ := hm hc
    rw [(aEq h).2.1]
    exact S.shM c1 hc1
  · obtain ⟨c1, hc1, h⟩ := hm hc
    rw [(aEq h).2.2]
    exact S.num c1 hc1
  · obtain ⟨c1, hc1, h⟩ := hm hc
    rcases h with ⟨_, rfl⟩ | ⟨_, rfl⟩
    · exact ok
    · exact S.ok c hc1
  · unfold Cu.chg
    rw [List.length_map]
    exact S.len
theorem shOf_chg (S : SheetAt C H sh cs) {c0 : PC} (h0 : c0 ∈ cs) (b : Bool) (ms : Ms) : shOf (chg cs c0.n b ms) = putBy Cue.number ⟨c0.n, b, ms⟩ (shOf cs) := by
  have r : (shOf cs).Pairwise (fun a b => a.number < b.number) := by
    unfold shOf
    rw [List.pairwise_map]
    exact S.rise
  rw [putBy_there (c := ⟨c0.n, b, ms⟩) r ⟨c0.cue, List.mem_map.mpr ⟨c0, h0, rfl⟩, rfl⟩]
  unfold shOf Cu.chg
  rw [List.map_map, List.map_map]
  apply List.map_congr_left
  intro c hc
  show PC.cue (if c.n = c0.n then _ else c) = if c.n = c0.n then _ else PC.cue c
  split
  · rename_i e
    show (⟨c.n, b, ms⟩ : Cue) = _
    rw [e]
  · rfl
/-- a cue taken away -/
theorem SheetAt.drop (S : SheetAt C H sh cs) (n : Nat) (kp : ∀ q o, H q = some o → q ≠ sh → H' q = some o)
    (h : ∀ ks : List PC, H sh = some (.dK (ks.map key)) → H' sh = some (.dK ((ks.filter fun c => c.n != n).map key))) : SheetAt C H' sh (cs.filter fun c => c.n != n) := by
  have mem : ∀ {c}, c ∈ cs.filter (fun c => c.n != n) → c ∈ cs := fun h => (List.mem_filter.mp h).1
  refine ⟨?_, fun c hc => ?_, S.rise.filter _, fun c hc c' hc' => S.ndA c (mem hc) c' (mem hc'), fun c hc c' hc' => S.ndM c (mem hc) c' (mem hc'), fun c hc => S.shM c (mem hc), fun c hc => S.num c (mem hc), fun c hc => S.ok c (mem hc), Nat.le_trans (List.length_filter_le _ _) S.len⟩
  · obtain ⟨ks, q, e⟩ := S.dc
    exact ⟨_, q.filter _, h ks e⟩
  · obtain ⟨⟨dx, e1⟩, ⟨d, p, e2⟩⟩ := S.cue c (mem hc)
    exact ⟨⟨dx, kp _ _ e1 (S.aS (mem hc))⟩, ⟨d, p, kp _ _ e2 (S.shM c (mem hc))⟩⟩
theorem shOf_drop (cs : List PC) (n : Nat) : shOf (cs.filter fun c => c.n != n) = (shOf cs).filter fun (c : Cue) => c.number != n := by
  unfold shOf
  rw [List.filter_map]
  rfl
theorem dropK_key (ks : List PC) (n : Nat) : dropK (ks.map key) (Sum.inl (n : Int) : Key) = (ks.filter fun c => c.n != n).map key := by
  unfold dropK
  rw [List.filter_map]
  congr 1
  apply List.filter_congr
  intro c _
  show decide ((Sum.inl (c.n : Int) : Key) ≠ Sum.inl (n : Int)) = (c.n != n)
  by_cases e : c.n = n
  · rw [decide_eq_false fun h => h (key_eq.mpr e)]
    simp [e]
  · rw [decide_eq_true (show (Sum.inl (c.n : Int) : Key) ≠ Sum.inl (n : Int) from fun h => e (key_eq.mp h))]
    simp [e]
/-- a cue that is new -/
theorem SheetAt.more (S : SheetAt C H sh cs) {c0 : PC} (hn : ∀ c ∈ cs, c.n ≠ c0.n) (hl : cs.length < 24) (hnum : 1 ≤ c0.n ∧ c0.n ≤ 9999) (ok : MsOk c0.ms) (at0 : CueAt C H' c0) (hm : c0.m ≠ sh)
    (hA : ∀ c ∈ cs, c.a ≠ c0.a) (hM : ∀ c ∈ cs, c.m ≠ c0.m) (kp : ∀ q o, H q = some o → q ≠ sh → q ≠ c0.a → q ≠ c0.m → H' q = some o)
    (h : ∀ ks : List PC, H sh = some (.dK (ks.map key)) → H' sh = some (.dK ((ks ++ [c0]).map key)))
    (hA2 : ∀ c ∈ cs, c.a ≠ c0.m) (hM2 : ∀ c ∈ cs, c.m ≠ c0.a) : SheetAt C H' sh (putBy PC.n c0 cs) := by
  have pm : (putBy PC.n c0 cs).Perm (cs ++ [c0]) := putBy_new hn
  have mem : ∀ {c}, c ∈ putBy PC.n c0 cs → c ∈ cs ∨ c = c0 := fun {c} hc => by
    have := pm.mem_iff.mp hc
    rcases List.mem_append.mp this with h | h
    · exact .inl h
    · exact .inr (by simpa using h)
  refine ⟨?_, fun c hc => ?_, rise_putBy S.rise, fun c hc c' hc' e => ?_, fun c hc c' hc' e => ?_, fun c hc => ?_, fun c hc => ?_, fun c hc => ?_, ?_⟩
  · obtain ⟨ks, q, e⟩ := S.dc
    exact ⟨ks ++ [c0], (q.append_right _).trans pm.symm, h ks e⟩
  · rcases mem hc with hc | rfl
    · obtain ⟨⟨dx, e1⟩, ⟨d, p, e2⟩⟩ := S.cue c hc
      exact ⟨⟨dx, kp _ _ e1 (S.aS hc) (hA c hc) (hA2 c hc)⟩, ⟨d, p, kp _ _ e2 (S.shM c hc) (hM2 c hc) (hM c hc)⟩⟩
    · exact at0
  · rcases mem hc with k1 | k1
    · rcases mem hc' with k2 | k2
      · exact S.ndA c k1 c' k2 e
      · exact absurd (by rw [e, k2]) (hA c k1)
    · rcases mem hc' with k2 | k2
      · exact absurd (by rw [← e, k1]) (hA c' k2)
      · rw [k1, k2]
  · rcases mem hc with k1 | k1
    · rcases mem hc' with k2 | k2
      · exact S.ndM c k1 c' k2 e
      · exact absurd (by rw [e, k2]) (hM c k1)
    · rcases mem hc' with k2 | k2
      · exact absurd (by rw [← e, k1]) (hM c' k2)
      · rw [k1, k2]
  · rcases mem hc with hc | rfl
    · exact S.shM c hc
    · exact hm
  · rcases mem hc with hc | rfl
    · exact S.num c hc
    · exact hnum
  · rcases mem hc with hc | rfl
    · exact S.ok c hc
    · exact ok
  · rw [pm.length_eq, List.length_append]
    show cs.length + 1 ≤ 24
    omega
theorem shOf_put (c0 : PC) (cs : List PC) : shOf (putBy PC.n c0 cs) = putBy Cue.number c0.cue (shOf cs) := putBy_map (f := PC.n) (g := Cue.number) PC.cue (fun _ => rfl) c0 cs
/-- a cue whose dict of moves is another one -/
def swp (cs : List PC) (n : Nat) (m : Addr) (ms : Ms) : List PC := cs.map fun c => if c.n = n then { c with m := m, ms := ms } else c
theorem SheetAt.swp (S : SheetAt C H sh cs) {c0 : PC} (h0 : c0 ∈ cs) {m : Addr} {d : Ms} {ms : Ms} (p : d.Perm ms) (ok : MsOk ms) (hm : m ≠ sh) (hM : ∀ c ∈ cs, c.m ≠ m)
    (h1 : ∃ dx, H' c0.a = some (.ins C dx (cf m c0.b))) (h2 : H' m = some (.dK (enc d)))
    (kp : ∀ q o, H q = some o → q ≠ c0.a → H' q = some o) : SheetAt C H' sh (Cu.swp cs c0.n m ms) := by
  have hmm : ∀ {c}, c ∈ Cu.swp cs c0.n m ms → ∃ c1 ∈ cs, (c1 = c0 ∧ c = { c0 with m := m, ms := ms }) ∨ (c1.n ≠ c0.n ∧ c = c1) := fun {c} h => by
    obtain ⟨c1, hc1, e⟩ := List.mem_map.mp h
    refine ⟨c1, hc1, ?_⟩
    by_cases z : c1.n = c0.n
    · rw [if_pos z] at e
      have := S.inj hc1 h0 z
      subst this
      exact .inl ⟨rfl, e.symm⟩
    · rw [if_neg z] at e
      exact .inr ⟨z, e.symm⟩
  refine ⟨?_, fun c hc => ?_, ?_, fun c hc c' hc' e => ?_, fun c hc c' hc' e => ?_, fun c hc => ?_, fun c hc => ?_, fun c hc => ?_, ?_⟩
  · obtain ⟨ks, q, e⟩ := S.dc
    refine ⟨Cu.swp ks c0.n m ms, q.map _, ?_⟩
    have : (Cu.swp ks c0.n m ms).map key = ks.map key := by
      unfold Cu.swp
      rw [List.map_map]
      apply List.map_congr_left
      intro c _
      show key (if c.n = c0.n then _ else c) = key c
      split <;> rfl
    rw [this]
    exact kp _ _ e (Ne.symm (S.aS h0))
  · obtain ⟨c1, hc1, h⟩ := hmm hc
    rcases h with ⟨rfl, rfl⟩ | ⟨hn, rfl⟩
    · exact ⟨h1, ⟨d, p, h2⟩⟩
    · obtain ⟨⟨dx, e1⟩, ⟨d', p', e2⟩⟩ := S.cue c hc1
      exact ⟨⟨dx, kp _ _ e1 (fun z => hn (by rw [S.ndA c hc1 c0 h0 z]))⟩, ⟨d', p', kp _ _ e2 (Ne.symm (S.aM h0 hc1))⟩⟩
  · have r := S.rise
    unfold Cu.swp
    rw [List.pairwise_map]
    refine r.imp fun {x y} hxy => ?_
    have e : ∀ z : PC, (if z.n = c0.n then ({ z with m := m, ms := ms } : PC) else z).n = z.n := fun z => by split <;> rfl
    rw [e, e]
    exact hxy
  · obtain ⟨c1, hc1, h⟩ := hmm hc
    obtain ⟨c1', hc1', h'⟩ := hmm hc'
    rcases h with ⟨rfl, rfl⟩ | ⟨hn, rfl⟩
    · rcases h' with ⟨rfl, rfl⟩ | ⟨hn, rfl⟩
      · rfl
      · exact absurd (by rw [S.ndA c' hc1' c1 h0 e.symm]) hn
    · rcases h' with ⟨rfl, rfl⟩ | ⟨hn', rfl⟩
      · exact absurd (by rw [S.ndA c hc1 c1' h0 e]) hn
      · exact S.ndA c hc1 c' hc1' e
  · obtain ⟨c1, hc1, h⟩ := hmm hc
    obtain ⟨c1', hc1', h'⟩ := hmm hc'
    rcases h with ⟨rfl, rfl⟩ | ⟨hn, rfl⟩
    · rcases h' with ⟨rfl, rfl⟩ | ⟨hn, rfl⟩
      · rfl
      · exact absurd e.symm (hM c' hc1')
    · rcases h' with ⟨rfl, rfl⟩ | ⟨hn', rfl⟩
      · exact absurd e (hM c hc1)
      · exact S.ndM c hc1 c' hc1' e
  · obtain ⟨c1, hc1, h⟩ := hmm hc
    rcases h with ⟨rfl, rfl⟩ | ⟨hn, rfl⟩
    · exact hm
    · exact S.shM c hc1
  · obtain ⟨c1, hc1, h⟩ := hmm hc
    rcases h with ⟨rfl, rfl⟩ | ⟨hn, rfl⟩
    · exact S.num c1 hc1
    · exact S.num c hc1
  · obtain ⟨c1, hc1, h⟩ := hmm hc
    rcases h with ⟨rfl, rfl⟩ | ⟨hn, rfl⟩
    · exact ok
    · exact S.ok c hc1
  · unfold Cu.swp
    rw [List.length_map]
    exact S.len
theorem shOf_swp (S : SheetAt C H sh cs) {c0 : PC} (h0 : c0 ∈ cs) (m : Addr) (ms : Ms) : shOf (swp cs c0.n m ms) = putBy Cue.number ⟨c0.n, c0.b, ms⟩ (shOf cs) := by
  have r : (shOf cs).Pairwise (fun a b => a.number < b.number) := by
    unfold shOf
    rw [List.pairwise_map]
    exact S.rise
  rw [putBy_there (c := ⟨c0.n, c0.b, ms⟩) r ⟨c0.cue, List.mem_map.mpr ⟨c0, h0, rfl⟩, rfl⟩]
  unfold shOf Cu.swp
  rw [List.map_map, List.map_map]
  apply List.map_congr_left
  intro c hc
  show PC.cue (if c.n = c0.n then _ else c) = if c.n = c0.n then _ else PC.cue c
  split
  · rename_i e
    have := S.inj hc h0 e
    subst this
    rfl
  · rfl
end
/-- the lists, and what is locked, stay -/
structure KeepL (H H' : Hp) : Prop where
  l : ∀ q xs, H q = some (.lst xs) → H' q = some (.lst xs)
  f : ∀ q o u, H q = some (.frz o u) → H' q = some (.frz o u)
theorem KeepL.trans {H H1 H2 : Hp} (a : KeepL H H1) (b : KeepL H1 H2) : KeepL H H2 := ⟨fun q xs h => b.l q xs (a.l q xs h), fun q o u h => b.f q o u (a.f q o u h)⟩
theorem KeepL.of {H H' : Hp} (a : Same H H') : KeepL H H' := ⟨fun q xs h => a q _ h, fun q o u h => a q _ h⟩
theorem KeepL.refl (H : Hp) : KeepL H H := ⟨fun _ _ h => h, fun _ _ _ h => h⟩
/-- a look as the program holds it: place 0 for no channel -/
def lookV (k : Look) : List V := V.int 0 :: k.map fun l : Nat => V.int (l : Int)
theorem len_lookV (k : Look) : (lookV k).length = k.length + 1 := by
  unfold lookV
  rw [List.length_cons, List.length_map]
theorem lookV_get {k : Look} {i : Nat} (h : i < k.length) : (lookV k)[i + 1]? = some (V.int (k.getD i 0 : Nat)) := by
  unfold lookV
  rw [List.getElem?_cons_succ, List.getElem?_map, List.getElem?_eq_getElem h]
  show some (V.int ((k[i] : Nat) : Int)) = some (V.int ((k.getD i 0 : Nat) : Int))
  rw [List.getD_eq_getElem?_getD, List.getElem?_eq_getElem h]
  rfl
theorem lookV_set (k : Look) {c : Nat} (h : 1 ≤ c) (l : Nat) : (lookV k).set c (V.int (l : Int)) = lookV (k.with_ c l) := by
  unfold lookV
  rw [cons_set _ _ h]
  show _ :: (k.map _).set (c - 1) _ = _ :: (k.set (c - 1) l).map _
  rw [List.map_set]
end Cu
set_option Elab.async false
set_option linter.all false
set_option maxRecDepth 100000
set_option maxHeartbeats 2000000
namespace Cu
open PySem PySem.Spec PyProof.Rows L2 Sg
def top (i : Nat) : Stmt := PySem.Challenge.pw_cuesheets_s01_answers.main.body.getD i (.Pass ⟨0, 0, 0, 0⟩)
abbrev s_Cue_init : Stmt := inClass (top 22) 0
abbrev s_is_number : Stmt := top 23
abbrev s_is_channel : Stmt := top 24
abbrev s_is_level : Stmt := top 25
abbrev s_is_how : Stmt := top 26
abbrev s_lacks_room : Stmt := top 27
abbrev s_look_at : Stmt := top 28
abbrev s_look_before : Stmt := top 29
abbrev s_moves_of : Stmt := top 30
abbrev s_add_moves : Stmt := top 31
abbrev s_drop_needless : Stmt := top 32
abbrev s_held_number : Stmt := top 33
abbrev s_replace_cue : Stmt := top 34
abbrev s_edit : Stmt := top 35
abbrev s_record_move : Stmt := top 36
abbrev s_release_move : Stmt := top 37
abbrev s_delete_cue : Stmt := top 38
abbrev s_copy_cue : Stmt := top 39
abbrev s_block_cue : Stmt := top 40
abbrev s_unblock_cue : Stmt := top 41
abbrev s_clean_sheet : Stmt := top 42
abbrev s_told_cues : Stmt := top 43
abbrev s_told_moves : Stmt := top 44
abbrev s_told_look : Stmt := top 45
abbrev s_told_track : Stmt := top 46
abbrev s_told_differences : Stmt := top 47
abbrev s_changed : Stmt := top 48
abbrev s_asked : Stmt := top 49
abbrev s_answer_to : Stmt := top 50
abbrev s_answers : Stmt := top 51
structure Txt (K : PySem.W.Frag) (mg : Str → Option Value) (C : Addr) : Prop where
  cl : Cls K C
  nM : NoAttr K C "moves"
  nB : NoAttr K C "blocked"
  mgC : mg "Cue" = some (.ref C)
  lastN : ∃ t, mg "LAST_NUMBER" = some (.int 9999 t)
  lastC : ∃ t, mg "LAST_CHANNEL" = some (.int 64 t)
  topL : ∃ t, mg "TOP_LEVEL" = some (.int 100 t)
  most : ∃ t, mg "MOST_CUES" = some (.int 24 t)
  alone : ∃ t, mg "ALONE" = some (.int 1 t)
  imp : ∃ t, mg "IMPOSSIBLE" = some (.int (-1) t)
  notSo : ∃ t, mg "NOT_SO" = some (.int (-3) t)
  noCue : ∃ t, mg "NO_CUE" = some (.int (-4) t)
  noRoom : ∃ t, mg "NO_ROOM" = some (.int (-5) t)
  len : mg "len" = none
  sorted : mg "sorted" = none
  range : mg "range" = none
  list : mg "list" = none
  dict : mg "dict" = none
  sum : mg "sum" = none
/-- a def of the text, as the top has left it -/
structure Has (K : PySem.W.Frag) (mg : Str → Option Value) (x : Str) (st : Stmt) (ps : List Str) : Prop where
  ex : ∃ (f : Addr) (fd : FuncData), Fun K x x st f fd ∧ mg x = some (.ref f) ∧ Binds K fd ps []
section
variable {P : Program} {w : World} {K : PySem.W.Frag} {mg : Str → Option Value} {base : Heap} {C : Addr}
/-- THE RULE for a def of the text -/
theorem Has.ok {x : Str} {st : Stmt} {N ps : List Str} {k : Nat} {sp : Sp} (F : Has K mg x st ps) (S : FnScope N ps (defScope st)) (len : ∀ vs H Q E, sp vs H Q E → vs.length = ps.length)
    (hbody : ∀ (f : Addr) (cdv : Value) (A : Around) (outer : List Env) (s : Shared) (H : Hp) (vs : List V) (Q : VK) (E : XK), Room k (A.deeper (envOfC x (defScope st) s.heap.objs.size f cdv)) → sp vs H Q E →
      ∃ t, PSs (cxOf CX0 P w K mg base N x (defScope st) f cdv A outer s H E).nox (defBody st) t ∧ t { nx := fun _ H' => Q .non H', rt := Q } (start N vs) H) : Ok P w K mg base (k + 1) x ps sp := by
  obtain ⟨f, fd, F, hm, hb⟩ := F.ex
  exact ⟨f, fd, F.ok S len fun cdv A outer s H vs Q E hr h => hbody f cdv A outer s H vs Q E hr h, hm, F.kp, hb⟩
theorem _root_.L2.Ok.mono {j k : Nat} {x : Str} {ps : List Str} {sp : Sp} (o : Ok P w K mg base j x ps sp) (h : j ≤ k) : Ok P w K mg base k x ps sp := by
  obtain ⟨f, fd, F, r⟩ := o.ex
  exact ⟨f, fd, F.mono h, r⟩
def spB (q : Int → Bool) : Sp := fun vs H Q _ => ∃ z : Int, vs = [.int z] ∧ Q (.bl (q z)) H
theorem sc_is_number : FnScope ["number"] ["number"] (defScope s_is_number) := ⟨rfl, rfl, rfl, by decide +kernel, rfl, by decide +kernel, by decide +kernel⟩
theorem ok_is_number (F : Has K mg "is_number" s_is_number ["number"]) (T : Txt K mg C) : Ok P w K mg base 1 "is_number" ["number"] (spB fun z => decide (1 ≤ z ∧ z ≤ 9999)) := by
  refine F.ok sc_is_number (fun vs H Q E h => ?_) (fun f cdv A outer s H vs Q E hr h => ?_)
  · obtain ⟨z, rfl, _⟩ := h
    rfl
  · obtain ⟨z, rfl, k⟩ := h
    refine ⟨_, pss_one (ps_ret (pe_chain op_le op_le pe_int (pv 0) (pe_const rfl T.lastN))), ?_⟩
    refine ⟨_, rfl, _, _, rfl, rfl, _, rfl, ?_⟩
    refine ite2 (fun h => ⟨_, _, rfl, rfl, ?_⟩) (fun h => ?_)
    · have h := of_decide_eq_true h
      have e : decide (1 ≤ z ∧ z ≤ 9999) = decide (z ≤ 9999) := by simp [h]
      have k : Q (.bl (decide (1 ≤ z ∧ z ≤ 9999))) H := k
      rw [e] at k
      exact k
    · have e : decide (1 ≤ z ∧ z ≤ 9999) = false := decide_eq_false fun q => h (decide_eq_true q.1)
      have k : Q (.bl (decide (1 ≤ z ∧ z ≤ 9999))) H := k
      rw [e] at k
      exact k
theorem sc_is_channel : FnScope ["channel"] ["channel"] (defScope s_is_channel) := ⟨rfl, rfl, rfl, by decide +kernel, rfl, by decide +kernel, by decide +kernel⟩
theorem ok_is_channel (F : Has K mg "is_channel" s_is_channel ["channel"]) (T : Txt K mg C) : Ok P w K mg base 1 "is_channel" ["channel"] (spB fun z => decide (1 ≤ z ∧ z ≤ 64)) := by
  refine F.ok sc_is_channel (fun vs H Q E h => ?_) (fun f cdv A outer s H vs Q E hr h => ?_)
  · obtain ⟨z, rfl, _⟩ := h
    rfl
  · obtain ⟨z, rfl, k⟩ := h
    refine ⟨_, pss_one (ps_ret (pe_chain op_le op_le pe_int (pv 0) (pe_const rfl T.lastC))), ?_⟩
    refine ⟨_, rfl, _, _, rfl, rfl, _, rfl, ?_⟩
    refine ite2 (fun h => ⟨_, _, rfl, rfl, ?_⟩) (fun h => ?_)
    · have h := of_decide_eq_true h
      have e : decide (1 ≤ z ∧ z ≤ 64) = decide (z ≤ 64) := by simp [h]
      have k : Q (.bl (decide (1 ≤ z ∧ z ≤ 64))) H := k
      rw [e] at k
      exact k
    · have e : decide (1 ≤ z ∧ z ≤ 64) = false := decide_eq_false fun q => h (decide_eq_true q.1)
      have k : Q (.bl (decide (1 ≤ z ∧ z ≤ 64))) H := k
      rw [e] at k
      exact k
theorem sc_is_level : FnScope ["level"] ["level"] (defScope s_is_level) := ⟨rfl, rfl, rfl, by decide +kernel, rfl, by decide +kernel, by decide +kernel⟩
theorem ok_is_level (F : Has K mg "is_level" s_is_level ["level"]) (T : Txt K mg C) : Ok P w K mg base 1 "is_level" ["level"] (spB fun z => decide (0 ≤ z ∧ z ≤ 100)) := by
  refine F.ok sc_is_level (fun vs H Q E h => ?_) (fun f cdv A outer s H vs Q E hr h => ?_)
  · obtain ⟨z, rfl, _⟩ := h
    rfl
  · obtain ⟨z, rfl, k⟩ := h
    refine ⟨_, pss_one (ps_ret (pe_chain op_le op_le pe_int (pv 0) (pe_const rfl T.topL))), ?_⟩
    refine ⟨_, rfl, _, _, rfl, rfl, _, rfl, ?_⟩
    refine ite2 (fun h => ⟨_, _, rfl, rfl, ?_⟩) (fun h => ?_)
    · have h := of_decide_eq_true h
      have e : decide (0 ≤ z ∧ z ≤ 100) = decide (z ≤ 100) := by simp [h]
      have k : Q (.bl (decide (0 ≤ z ∧ z ≤ 100))) H := k
      rw [e] at k
      exact k
    · have e : decide (0 ≤ z ∧ z ≤ 100) = false := decide_eq_false fun q => h (decide_eq_true q.1)
      have k : Q (.bl (decide (0 ≤ z ∧ z ≤ 100))) H := k
      rw [e] at k
      exact k
theorem sc_is_how : FnScope ["how"] ["how"] (defScope s_is_how) := ⟨rfl, rfl, rfl, by decide +kernel, rfl, by decide +kernel, by decide +kernel⟩
theorem ok_is_how (F : Has K mg "is_how" s_is_how ["how"]) (T : Txt K mg C) : Ok P w K mg base 1 "is_how" ["how"] (spB fun z => decide (0 ≤ z ∧ z ≤ 1)) := by
  refine F.ok sc_is_how (fun vs H Q E h => ?_) (fun f cdv A outer s H vs Q E hr h => ?_)
  · obtain ⟨z, rfl, _⟩ := h
    rfl
  · obtain ⟨z, rfl, k⟩ := h
    refine ⟨_, pss_one (ps_ret (pe_chain op_le op_le pe_int (pv 0) (pe_const rfl T.alone))), ?_⟩
    refine ⟨_, rfl, _, _, rfl, rfl, _, rfl, ?_⟩
    refine ite2 (fun h => ⟨_, _, rfl, rfl, ?_⟩) (fun h => ?_)
    · have h := of_decide_eq_true h
      have e : decide (0 ≤ z ∧ z ≤ 1) = decide (z ≤ 1) := by simp [h]
      have k : Q (.bl (decide (0 ≤ z ∧ z ≤ 1))) H := k
      rw [e] at k
      exact k
    · have e : decide (0 ≤ z ∧ z ≤ 1) = false := decide_eq_false fun q => h (decide_eq_true q.1)
      have k : Q (.bl (decide (0 ≤ z ∧ z ≤ 1))) H := k
      rw [e] at k
      exact k
theorem nums_eq {cs ks : List PC} {ns : List Int} (r : cs.Pairwise (fun a b => a.n < b.n)) (p : ks.Perm cs) (q : ns.Perm (ks.map fun c => (c.n : Int))) (s : ns.Pairwise (· ≤ ·)) : ns = cs.map fun c => (c.n : Int) := by
  refine PySem.W.ksm_same (q.trans (p.map _)) s ?_
  rw [List.pairwise_map]
  exact r.imp fun {x y} h => by
    show (x.n : Int) ≤ (y.n : Int)
    omega
theorem take_snoc {α : Type} : ∀ {l : List α} {i : Nat} {x : α}, l[i]? = some x → l.take (i + 1) = l.take i ++ [x]
  | [], i, x, h => by simp at h
  | a :: l, 0, x, h => by
    have e : a = x := Option.some.inj h
    subst e
    rfl
  | a :: l, i + 1, x, h => by
    have ih := take_snoc (l := l) (i := i) (x := x) h
    show a :: l.take (i + 1) = a :: l.take i ++ [x]
    rw [ih]
    rfl
theorem of_map_get {α β : Type} {f : α → β} {l : List α} {i : Nat} {y : β} (h : (l.map f)[i]? = some y) : ∃ x, l[i]? = some x ∧ y = f x := by
  rw [List.getElem?_map] at h
  obtain ⟨x, h1, h2⟩ := Option.map_eq_some_iff.mp h
  exact ⟨x, h1, h2.symm⟩
/-- what the sheet's dict holds at the number of one of its cues -/
theorem SheetAt.get {H : Hp} {sh : Addr} {cs : List PC} (S : SheetAt C H sh cs) {H' : Hp} {ks : List PC} (p : ks.Perm cs) (h : H' sh = some (.dK (ks.map key))) {c : PC} (hc : c ∈ cs) : DGet H' sh (.int (c.n : Int)) (some (.ref c.a)) := by
  have g := DGet.k (k := (Sum.inl (c.n : Int) : Key)) h
  rw [valV_key, S.fnd p, (fnd_some S).mpr ⟨hc, rfl⟩] at g
  exact g
theorem SheetAt.getO {H : Hp} {sh : Addr} {cs : List PC} (S : SheetAt C H sh cs) (n : Nat) : DGet H sh (.int (n : Int)) ((Cu.fnd cs n).map fun c => V.ref c.a) := by
  obtain ⟨ks, p, h⟩ := S.dc
  have g := DGet.k (k := (Sum.inl (n : Int) : Key)) h
  rw [valV_key, S.fnd p] at g
  exact g
def spLook (C : Addr) : Sp := fun vs H Q _ => ∃ (sh : Addr) (cs : List PC) (n : Nat), vs = [.ref sh, .int (n : Int)] ∧ SheetAt C H sh cs ∧
  ∀ (p : Addr) (H' : Hp), H p = none → Same H H' → H' p = some (.lst (lookV (lookUpTo (shOf cs) n))) → Q (.ref p) H'
theorem ixN_nat {n k : Nat} (h : k < n) : ixN n (k : Int) = some k := by
  unfold ixN
  rw [if_pos (by omega), if_pos (by omega)]
  simp
theorem rep65 : (List.replicate ((64 : Int) + 1).toNat [V.int 0]).flatten = lookV (lookUpTo [] 0) := by
  rfl
theorem look_nil (n : Nat) : lookUpTo [] n = lookUpTo [] 0 := rfl
theorem sc_look_at : FnScope ["sheet", "number", "levels", "other", "channel", "level"] ["sheet", "number"] (defScope s_look_at) := ⟨rfl, rfl, rfl, by decide +kernel, rfl, by decide +kernel, by decide +kernel⟩
theorem ok_look_at (F : Has K mg "look_at" s_look_at ["sheet", "number"]) (T : Txt K mg C) : Ok P w K mg base 1 "look_at" ["sheet", "number"] (spLook C) := by
  refine F.ok sc_look_at (fun vs H Q E h => ?_) (fun f cdv A outer s H vs Q E hr h => ?_)
  · obtain ⟨sh, cs, n, rfl, _⟩ := h
    rfl
  · obtain ⟨sh, cs, n, rfl, S, k⟩ := h
    have hu := hu_of hr
    obtain ⟨ks, pk, hsh⟩ := S.dc
    refine ⟨_, pss_cons (ps_set (i := 2) sc_look_at.nd rfl (Or.inl rfl) (pe_op op_rep (pe_lst (pa_cons pe_int pa_nil)) (pe_op op_add (pe_const rfl T.lastC) pe_int)))
      (pss_cons (ps_for PassesOwn.never rfl (pi_list (pe_callB (call_sortedD rfl) (by rfl) T.sorted PyProof.Rows.boot_sorted (pa_cons (pv 0) pa_nil))) (pg_name (i := 3) sc_look_at.nd rfl (Or.inl rfl))
        (pss_one (ps_if (pt_cmpR op_le (pv 3) (pv 1) (nomark _))
          (pss_one (ps_lock (ps_for PassesOwn.never rfl (pi_items (pe_fld (pe_dget hu (pv 0) (pv 3) (fun _ _ => rfl)) rfl)) (pg_tup rfl (pgs_cons (pg_name (i := 4) sc_look_at.nd rfl (Or.inl rfl)) (pgs_cons (pg_name (i := 5) sc_look_at.nd rfl (Or.inl rfl)) pgs_nil)))
            (pss_one (ps_asg (pv 5) (pg_sub (pv 2) (pv 4) set_list))))))
          pss_nil)))
      (pss_one (ps_ret (pv 2)))), ?_⟩
    -- levels = [0] * (LAST_CHANNEL + 1)
    refine ⟨(by show 1 ≤ sizeLine; decide), fun l0 hl0 => ?_⟩
    refine ⟨_, _, rfl, rfl, l0, _, _, rfl, rfl, upd_same, (by decide), (by decide), (by show 1 * 65 ≤ sizeLine; decide), fun p hp => ?_⟩
    have np : H p = none := by
      by_cases e : p = l0
      · rw [e]; exact hl0
      · rw [upd_ne e] at hp; exact hp
    have s1 : Same H (upd (upd H l0 (.lst [.int 0])) p (.lst (List.replicate ((64 : Int) + 1).toNat [V.int 0]).flatten)) := fun b o e => by
      rw [upd_ne (ne_of_none e np), upd_ne (ne_of_none e hl0)]
      exact e
    -- for other in sorted(sheet)
    refine ⟨_, rfl, sh, _, _, rfl, .inl (s1 _ _ hsh), keys_key ks, fun ns q hpm hpw hq => ⟨q, rfl, ⟨_, SqL.of upd_same⟩, ?_⟩⟩
    have ens := nums_eq S.rise pk hpm hpw
    subst ens
    have npq : p ≠ q := ne_of_none upd_same hq
    generalize hH2 : upd (upd (upd H l0 (.lst [.int 0])) p (.lst (List.replicate ((64 : Int) + 1).toNat [V.int 0]).flatten)) q (.lst ((cs.map fun c => (c.n : Int)).map V.int)) = H2
    have s2 : Same H H2 := fun b o e => by
      rw [← hH2, upd_ne (ne_of_none (s1 b o e) hq)]
      exact s1 b o e
    have h2p : H2 p = some (.lst (lookV (lookUpTo [] n))) := by
      rw [← hH2, upd_ne npq, upd_same, rep65]
      rfl
    have h2q : H2 q = some (.lst ((cs.map fun c => (c.n : Int)).map V.int)) := by
      rw [← hH2, upd_same]
    have S2 := S.same s2
    refine for_list (K := K) (a := q) (xs := (cs.map fun c => (c.n : Int)).map V.int) (fun i σ H' => ∃ v3 v4 v5 : Option V, σ = [some (.ref sh), some (.int (n : Int)), some (.ref p), v3, v4, v5] ∧
        H' p = some (.lst (lookV (lookUpTo (shOf (cs.take i)) n))) ∧ ∀ b o, H2 b = some o → b ≠ p → H' b = some o)
      ⟨none, none, none, rfl, h2p, fun b o e _ => e⟩ (fun i σ H' _ ⟨_, _, _, _, _, kp⟩ => SqL.of (kp _ _ h2q (Ne.symm npq))) ?_ ?_
    · rintro i y σ H' hi ⟨v3, v4, v5, rfl, hp', kp⟩
      obtain ⟨z, hz, rfl⟩ := of_map_get hi
      obtain ⟨c, hc, rfl⟩ := of_map_get hz
      have mc : c ∈ cs := List.mem_of_getElem? hc
      have et : shOf (cs.take (i + 1)) = shOf (cs.take i) ++ [c.cue] := by
        rw [take_snoc hc]
        unfold shOf
        rw [List.map_append]
        rfl
      refine ⟨_, rfl, _, rfl, _, _, rfl, rfl, _, rfl, ?_⟩
      refine ite2 (fun hle => ?_) (fun hle => ?_)
      · have hle : c.n ≤ n := by
          have := of_decide_eq_true hle
          omega
        obtain ⟨⟨dx, h1⟩, ⟨d, pd, h2⟩⟩ := S2.cue c mc
        have nmp : c.m ≠ p := ne_of h2 h2p (by intro z; cases z)
        have nap : c.a ≠ p := ne_of h1 h2p (by intro z; cases z)
        have nsp : sh ≠ p := ne_of (s2 _ _ hsh) h2p (by intro z; cases z)
        have nsm : sh ≠ c.m := Ne.symm (S.shM c mc)
        have nam : c.a ≠ c.m := S.aM mc mc
        refine ⟨c.m, .dK (enc d), kp _ _ h2 nmp, True.intro, fun od => ?_⟩
        have hs3 : (upd H' c.m (.frz od (.dK (enc d)))) sh = some (.dK (ks.map key)) := by
          rw [upd_ne nsm]
          exact kp _ _ (s2 _ _ hsh) nsp
        have ha3 : (upd H' c.m (.frz od (.dK (enc d)))) c.a = some (.ins C dx (cf c.m c.b)) := by
          rw [upd_ne nam]
          exact kp _ _ h1 nap
        refine ⟨_, rfl, _, rfl, sh, _, rfl, S.get pk hs3 mc, c.a, C, dx, _, _, rfl, ha3, T.cl, T.nM, cf_moves _ _, c.m, od, enc d, rfl, upd_same, ?_⟩
        have okd : (d.map (·.1)).Nodup := (pd.map (·.1)).nodup_iff.mpr (S.ok c mc).nd
        have chd : ∀ m ∈ d, 1 ≤ m.1 ∧ m.1 ≤ 64 := fun m hm => (S.ok c mc).chan m (pd.mem_iff.mp hm)
        refine for_items (d := c.m) (od := od) (kvs := enc d) (fun j σ H3 => ∃ v4 v5 : Option V, σ = [some (.ref sh), some (.int (n : Int)), some (.ref p), some (.int (c.n : Int)), v4, v5] ∧
            H3 p = some (.lst (lookV (onMs (lookUpTo (shOf (cs.take i)) n) (d.take j)))) ∧ (∀ b o, (upd H' c.m (.frz od (.dK (enc d)))) b = some o → b ≠ p → H3 b = some o))
          ⟨v4, v5, rfl, by rw [upd_ne (Ne.symm nmp)]; exact hp', fun b o e _ => e⟩ (fun j σ H3 _ ⟨_, _, _, _, kp3⟩ => kp3 _ _ upd_same nmp) ?_ ?_
        · rintro j kk v T' σ H3 hj hT ⟨v4, v5, rfl, hp3, kp3⟩
          obtain ⟨m, hm, em⟩ := of_map_get hj
          cases em
          have mm : m ∈ d := List.mem_of_getElem? hm
          have npT : p ≠ T' := ne_of_none hp3 hT
          have hlen : (lookV (onMs (lookUpTo (shOf (cs.take i)) n) (d.take j))).length = 65 := by
            rw [len_lookV, len_onMs, len_lookUpTo]
          refine ⟨T', _, rfl, SqT.of upd_same, rfl, _, _, rfl, _, _, rfl, rfl, ?_⟩
          refine ⟨_, rfl, _, rfl, _, rfl, p, _, _, m.1, rfl, rfl, (by rw [upd_ne npT]; exact hp3), (by rw [hlen]; exact ixN_nat (by have := chd m mm; omega)), ?_⟩
          refine ⟨_, _, rfl, ?_, fun b o e hb => ?_⟩
          · rw [upd_same, lookV_set _ (chd m mm).1, take_snoc hm]
            unfold onMs
            rw [List.foldl_append]
            rfl
          · rw [upd_ne hb, upd_ne (ne_of_none (kp3 b o e hb) hT)]
            exact kp3 b o e hb
        · rintro σ H3 ⟨v4, v5, rfl, hp3, kp3⟩
          refine ⟨kp3 _ _ upd_same nmp, _, _, _, rfl, ?_, fun b o e hb => ?_⟩
          · rw [upd_ne (Ne.symm nmp), hp3, len_enc, List.take_length, et, lookUpTo_snoc, if_pos (show c.cue.number ≤ n from hle), onMs_perm pd okd (fun m hm => (chd m hm).1)]
            rfl
          · by_cases eb : b = c.m
            · subst eb
              rw [upd_same]
              rw [h2] at e
              exact e
            · rw [upd_ne eb]
              exact kp3 b o (by rw [upd_ne eb]; exact kp b o e hb) hb
      · have hle : ¬ c.n ≤ n := fun z => hle (decide_eq_true (by omega))
        refine ⟨_, _, _, rfl, ?_, kp⟩
        rw [hp', et, lookUpTo_snoc, if_neg (show ¬ c.cue.number ≤ n from hle)]
    · rintro σ H' ⟨v3, v4, v5, rfl, hp', kp⟩
      refine ⟨_, rfl, ?_⟩
      rw [List.length_map, List.length_map, List.take_length] at hp'
      exact k p H' np (fun b o e => kp b o (s2 b o e) (ne_of_none e np)) hp'
theorem sc_look_before : FnScope ["sheet", "number"] ["sheet", "number"] (defScope s_look_before) := ⟨rfl, rfl, rfl, by decide +kernel, rfl, by decide +kernel, by decide +kernel⟩
def spBefore (C : Addr) : Sp := fun vs H Q _ => ∃ (sh : Addr) (cs : List PC) (n : Nat), vs = [.ref sh, .int (n : Int)] ∧ 1 ≤ n ∧ SheetAt C H sh cs ∧
  ∀ (p : Addr) (H' : Hp), H p = none → Same H H' → H' p = some (.lst (lookV (lookBefore (shOf cs) n))) → Q (.ref p) H'
theorem ok_look_before (F : Has K mg "look_before" s_look_before ["sheet", "number"]) (T : Txt K mg C) (L : Ok P w K mg base 1 "look_at" ["sheet", "number"] (spLook C)) : Ok P w K mg base 2 "look_before" ["sheet", "number"] (spBefore C) := by
  refine F.ok sc_look_before (fun vs H Q E h => ?_) (fun f cdv A outer s H vs Q E hr h => ?_)
  · obtain ⟨sh, cs, n, rfl, _⟩ := h
    rfl
  · obtain ⟨sh, cs, n, rfl, hn, S, k⟩ := h
    refine ⟨_, pss_one (ps_ret (pe_fn L hr rfl (pa_cons (pv 0) (pa_cons (pe_op op_sub (pv 1) pe_int) pa_nil)))), ?_⟩
    refine ⟨_, rfl, _, rfl, _, _, rfl, rfl, sh, cs, n - 1, ?_, S, fun p H' hp hs hl => ?_⟩
    · have e : ((n - 1 : Nat) : Int) = (n : Int) - 1 := by omega
      rw [e]
      rfl
    · rw [← lookBefore_eq _ hn] at hl
      exact k p H' hp hs hl
theorem sc_moves_of : FnScope ["sheet", "number"] ["sheet", "number"] (defScope s_moves_of) := ⟨rfl, rfl, rfl, by decide +kernel, rfl, by decide +kernel, by decide +kernel⟩
def spMoves (C : Addr) : Sp := fun vs H Q _ => ∃ (sh : Addr) (cs : List PC) (n : Nat), vs = [.ref sh, .int (n : Int)] ∧ SheetAt C H sh cs ∧
  ∀ (p : Addr) (d : Ms) (H' : Hp), H p = none → Same H H' → d.Perm (cueOr (shOf cs) n).moves → H' p = some (.dK (enc d)) → Q (.ref p) H'
theorem cueOr_some {cs : List PC} {n : Nat} {c : PC} (h : fnd cs n = some c) : cueOr (shOf cs) n = c.cue := by
  unfold cueOr
  rw [find_shOf, h]
  rfl
theorem cueOr_none {cs : List PC} {n : Nat} (h : fnd cs n = none) : cueOr (shOf cs) n = ⟨n, false, []⟩ := by
  unfold cueOr
  rw [find_shOf, h]
  rfl
theorem ok_moves_of (F : Has K mg "moves_of" s_moves_of ["sheet", "number"]) (T : Txt K mg C) : Ok P w K mg base 1 "moves_of" ["sheet", "number"] (spMoves C) := by
  refine F.ok sc_moves_of (fun vs H Q E h => ?_) (fun f cdv A outer s H vs Q E hr h => ?_)
  · obtain ⟨sh, cs, n, rfl, _⟩ := h
    rfl
  · obtain ⟨sh, cs, n, rfl, S, k⟩ := h
    have hu := hu_of hr
    refine ⟨_, pss_cons (ps_if (pt_cmp (pc_din hu (pv 1) (pv 0))) (pss_one (ps_ret (pe_callTy call_dictD (by rfl) T.dict PyProof.Rows.boot_dict (pa_cons (pe_fld (pe_dget hu (pv 0) (pv 1) (fun _ _ => rfl)) rfl) pa_nil)))) pss_nil)
      (pss_one (ps_ret pe_dnewK)), ?_⟩
    refine ⟨_, rfl, _, rfl, sh, _, rfl, S.getO n, _, rfl, ?_⟩
    cases e : fnd cs n with
    | some c =>
      refine iteT ?_
      obtain ⟨mc, ec⟩ := (fnd_some S).mp e
      obtain ⟨ks, pk, hsh⟩ := S.dc
      obtain ⟨⟨dx, h1⟩, ⟨d, pd, h2⟩⟩ := S.cue c mc
      subst ec
      refine ⟨_, rfl, _, rfl, sh, _, rfl, S.get pk hsh mc, c.a, C, dx, _, _, rfl, h1, T.cl, T.nM, cf_moves _ _, c.m, _, rfl, .inl h2, fun p hp => ?_⟩
      refine k p d _ hp (fun b o z => by rw [upd_ne (ne_of_none z hp)]; exact z) ?_ upd_same
      rw [cueOr_some e]
      exact pd
    | none =>
      refine iteF ?_
      intro p hp
      refine k p [] _ hp (fun b o z => by rw [upd_ne (ne_of_none z hp)]; exact z) ?_ upd_same
      rw [cueOr_none e]
theorem dput_enc {H : Hp} {m : Addr} {d : Ms} {z : Int} {x l : Nat} (h : H m = some (.dK (enc d))) (hl : d.length ≤ 1000) (e : z = (x : Int)) : DPut H m (.int z) (.int (l : Int)) (upd H m (.dK (enc (nput d x l)))) := by
  subst e
  have g := DPut.k (k := (Sum.inl (x : Int) : Key)) (v := V.int (l : Int)) h (by rw [len_enc]; exact small1000 hl)
  rw [putK_enc] at g
  exact g
theorem dget_enc {H : Hp} {m : Addr} {d : Ms} {z : Int} {x : Nat} (h : H m = some (.dK (enc d))) (e : z = (x : Int)) : DGet H m (.int z) ((mv d x).map fun l : Nat => V.int (l : Int)) := by
  subst e
  have g := DGet.k (k := (Sum.inl (x : Int) : Key)) h
  rw [valV_enc] at g
  exact g
theorem len_perm {d ms : Ms} (p : d.Perm ms) (ok : MsOk ms) : d.length ≤ 1000 := by
  have := ok.len
  rw [p.length_eq]
  omega
theorem sc_add_moves : FnScope ["moves", "look", "wanted", "channel"] ["moves", "look", "wanted"] (defScope s_add_moves) := ⟨rfl, rfl, rfl, by decide +kernel, rfl, by decide +kernel, by decide +kernel⟩
def spAdd : Sp := fun vs H Q _ => ∃ (m lk wt : Addr) (d ms : Ms) (a b : Look), vs = [.ref m, .ref lk, .ref wt] ∧ H m = some (.dK (enc d)) ∧ d.Perm ms ∧ MsOk ms ∧ H lk = some (.lst (lookV b)) ∧ H wt = some (.lst (lookV a)) ∧ a.length = 64 ∧ b.length = 64 ∧
  ∀ (d' : Ms) (H' : Hp), d'.Perm (heldMs a b 64 ms) → H' m = some (.dK (enc d')) → (∀ q o, H q = some o → q ≠ m → H' q = some o) → Q .non H'
theorem ok_add_moves (F : Has K mg "add_moves" s_add_moves ["moves", "look", "wanted"]) (T : Txt K mg C) : Ok P w K mg base 1 "add_moves" ["moves", "look", "wanted"] spAdd := by
  refine F.ok sc_add_moves (fun vs H Q E h => ?_) (fun f cdv A outer s H vs Q E hr h => ?_)
  · obtain ⟨m, lk, wt, d, ms, a, b, rfl, _⟩ := h
    rfl
  · obtain ⟨m, lk, wt, d, ms, a, b, rfl, hm, pd, ok, hlk, hwt, la, lb, k⟩ := h
    have hu := hu_of hr
    have n1 : lk ≠ m := ne_of hlk hm (by intro z; cases z)
    have n2 : wt ≠ m := ne_of hwt hm (by intro z; cases z)
    refine ⟨_, pss_one (ps_for PassesOwn.never rfl (pi_range2 (by rfl) T.range (pa_cons pe_int (pa_cons (pe_op op_add (pe_const rfl T.lastC) pe_int) pa_nil))) (pg_name (i := 3) sc_add_moves.nd rfl (Or.inl rfl))
      (pss_one (ps_if (pt_cmpR op_ne (pe_ix ix_list (pv 1) (pv 3) (fun _ _ => rfl)) (pe_ix ix_list (pv 2) (pv 3) (fun _ _ => rfl)) (nomark _))
        (pss_one (ps_dput hu (pv 0) (pv 3) (pe_ix ix_list (pv 2) (pv 3) (fun _ _ => rfl)) rfl)) pss_nil))), ?_⟩
    refine ⟨_, _, rfl, rfl, _, _, rfl, ⟨by decide, by decide, by decide, by decide⟩, for_range (lo := 1) (n := 64) (fun i σ H' => ∃ (v : Option V) (d' : Ms), σ = [some (.ref m), some (.ref lk), some (.ref wt), v] ∧
        d'.Perm (heldMs a b i ms) ∧ H' m = some (.dK (enc d')) ∧ ∀ q o, H q = some o → q ≠ m → H' q = some o)
      ⟨none, d, rfl, pd, hm, fun q o e _ => e⟩ ?_ ?_⟩
    · rintro i σ H' hi ⟨v, d', rfl, pd', hm', kp⟩
      have gb : atI (lookV b) (1 + (i : Int)) = some (V.int (b.getD i 0 : Nat)) := at_of (j := i + 1) (by omega) (lookV_get (by omega))
      have ga : atI (lookV a) (1 + (i : Int)) = some (V.int (a.getD i 0 : Nat)) := at_of (j := i + 1) (by omega) (lookV_get (by omega))
      have hb' := kp _ _ hlk n1
      have ha' := kp _ _ hwt n2
      refine ⟨_, rfl, _, rfl, lk, _, _, _, rfl, rfl, SqL.of hb', gb, _, rfl, _, rfl, wt, _, _, _, rfl, rfl, SqL.of ha', ga, rfl, _, rfl, ?_⟩
      have okh := ok.held a b (m := i) (by omega)
      by_cases e : a.getD i 0 = b.getD i 0
      · have e2 : (!decide (V.int ((b.getD i 0 : Nat) : Int) = V.int ((a.getD i 0 : Nat) : Int))) = false := by rw [e]; simp
        rw [e2]
        refine iteF ?_
        refine ⟨_, d', rfl, ?_, hm', kp⟩
        rw [heldMs_succ, if_pos e]
        exact pd'
      · have e2 : (!decide (V.int ((b.getD i 0 : Nat) : Int) = V.int ((a.getD i 0 : Nat) : Int))) = true := by
          rw [decide_eq_false]
          · rfl
          · intro z
            have z := V.int.inj z
            omega
        rw [e2]
        refine iteT ?_
        refine ⟨_, rfl, _, rfl, wt, _, _, _, rfl, rfl, SqL.of ha', ga, _, rfl, _, rfl, m, _, rfl, dput_enc (x := i + 1) hm' (len_perm pd' okh) (by omega), ?_⟩
        refine ⟨_, nput d' (i + 1) (a.getD i 0), rfl, ?_, upd_same, fun q o z hq => by rw [upd_ne hq]; exact kp q o z hq⟩
        rw [heldMs_succ, if_neg e]
        exact put_perm pd' okh _ _
    · rintro σ H' ⟨v, d', rfl, pd', hm', kp⟩
      exact k d' H' pd' hm' kp
theorem ndrop_mid {A B : Ms} {m : Nat × Nat} (nd : ((A ++ m :: B).map (·.1)).Nodup) : ndrop (A ++ m :: B) m.1 = A ++ B := by
  rw [List.map_append, List.nodup_append] at nd
  obtain ⟨_, nd2, nd3⟩ := nd
  rw [List.map_cons, List.nodup_cons] at nd2
  have hA : ∀ p ∈ A, p.1 ≠ m.1 := fun p hp e => nd3 p.1 (List.mem_map.mpr ⟨p, hp, rfl⟩) m.1 List.mem_cons_self e
  have hB : ∀ p ∈ B, p.1 ≠ m.1 := fun p hp e => nd2.1 (by rw [← e]; exact List.mem_map.mpr ⟨p, hp, rfl⟩)
  unfold ndrop
  rw [List.filter_append, List.filter_cons, if_neg (by simp), List.filter_eq_self.mpr (fun p hp => decide_eq_true (hA p hp)), List.filter_eq_self.mpr (fun p hp => decide_eq_true (hB p hp))]
theorem sc_drop_needless : FnScope ["sheet", "number", "before", "moves", "channel"] ["sheet", "number"] (defScope s_drop_needless) := ⟨rfl, rfl, rfl, by decide +kernel, rfl, by decide +kernel, by decide +kernel⟩
def spDrop (C : Addr) : Sp := fun vs H Q _ => ∃ (sh : Addr) (cs : List PC) (c : PC), vs = [.ref sh, .int (c.n : Int)] ∧ c ∈ cs ∧ SheetAt C H sh cs ∧
  ∀ (d : Ms) (H' : Hp), d.Perm (c.ms.filter fun m => (lookBefore (shOf cs) c.n).of m.1 != m.2) → H' c.m = some (.dK (enc d)) → (∀ q o, H q = some o → q ≠ c.m → H' q = some o) → Q .non H'
theorem ok_drop_needless (F : Has K mg "drop_needless" s_drop_needless ["sheet", "number"]) (T : Txt K mg C) (L : Ok P w K mg base 2 "look_before" ["sheet", "number"] (spBefore C)) : Ok P w K mg base 3 "drop_needless" ["sheet", "number"] (spDrop C) := by
  refine F.ok sc_drop_needless (fun vs H Q E h => ?_) (fun f cdv A outer s H vs Q E hr h => ?_)
  · obtain ⟨sh, cs, c, rfl, _⟩ := h
    rfl
  · obtain ⟨sh, cs, c, rfl, mc, S, k⟩ := h
    have hu := hu_of hr
    refine ⟨_, pss_cons (ps_set (i := 2) sc_drop_needless.nd rfl (Or.inl rfl) (pe_fn L hr rfl (pa_cons (pv 0) (pa_cons (pv 1) pa_nil))))
      (pss_cons (ps_set (i := 3) sc_drop_needless.nd rfl (Or.inl rfl) (pe_fld (pe_dget hu (pv 0) (pv 1) (fun _ _ => rfl)) rfl))
      (pss_one (ps_for PassesOwn.never rfl (pi_list (pe_callTy (call_listD rfl) (by rfl) T.list PyProof.Rows.boot_list (pa_cons (pv 3) pa_nil))) (pg_name (i := 4) sc_drop_needless.nd rfl (Or.inl rfl))
        (pss_one (ps_if (pt_cmpR op_eq (pe_dget hu (pv 3) (pv 4) (fun _ _ => rfl)) (pe_ix ix_list (pv 2) (pv 4) (fun _ _ => rfl)) (nomark _))
          (pss_one (ps_expr (pe_dpop1 (pv 3) (pv 4) ⟨rfl, rfl, rfl, rfl⟩))) pss_nil))))), ?_⟩
    -- before = look_before(sheet, number)
    refine ⟨_, rfl, _, rfl, sh, cs, c.n, rfl, (S.num c mc).1, S, fun p H1 hp s1 hl => ?_⟩
    have S1 := S.same s1
    obtain ⟨ks, pk, hsh⟩ := S1.dc
    obtain ⟨⟨dx, h1⟩, ⟨d, pd, h2⟩⟩ := S1.cue c mc
    -- moves = sheet[number].moves
    refine ⟨_, rfl, _, rfl, sh, _, rfl, S1.get pk hsh mc, c.a, C, dx, _, _, rfl, h1, T.cl, T.nM, cf_moves _ _, ?_⟩
    -- for channel in list(moves)
    refine ⟨_, rfl, c.m, _, _, rfl, .inl h2, keys_enc d, fun q hq => ⟨q, rfl, ⟨_, SqL.of upd_same⟩, ?_⟩⟩
    have nmq : c.m ≠ q := ne_of_none h2 hq
    have npm : p ≠ c.m := ne_of hl h2 (by intro z; cases z)
    have nd : (d.map (·.1)).Nodup := (pd.map (·.1)).nodup_iff.mpr (S.ok c mc).nd
    have ch : ∀ m ∈ d, 1 ≤ m.1 ∧ m.1 ≤ 64 := fun m hm => (S.ok c mc).chan m (pd.mem_iff.mp hm)
    have lk : (lookBefore (shOf cs) c.n).length = 64 := by rw [lookBefore_eq _ (S.num c mc).1, len_lookUpTo]
    generalize lookBefore (shOf cs) c.n = kk at hl k lk
    have kp0 : ∀ b o, H b = some o → b ≠ c.m → (upd H1 q (.lst ((d.map fun m => (m.1 : Int)).map V.int))) b = some o := fun b o e _ => by
      rw [upd_ne (ne_of_none (s1 b o e) hq)]
      exact s1 b o e
    have kpp : (upd H1 q (.lst ((d.map fun m => (m.1 : Int)).map V.int))) p = some (.lst (lookV kk)) := by
      rw [upd_ne (ne_of_none hl hq)]
      exact hl
    refine for_list (K := K) (a := q) (xs := (d.map fun m => (m.1 : Int)).map V.int) (fun i σ H' => ∃ v : Option V, σ = [some (.ref sh), some (.int (c.n : Int)), some (.ref p), some (.ref c.m), v] ∧
        H' c.m = some (.dK (enc ((d.take i).filter (fun m => kk.of m.1 != m.2) ++ d.drop i))) ∧ H' p = some (.lst (lookV kk)) ∧ H' q = some (.lst ((d.map fun m => (m.1 : Int)).map V.int)) ∧ ∀ b o, H b = some o → b ≠ c.m → H' b = some o)
      ⟨none, rfl, by rw [upd_ne nmq]; exact h2, kpp, upd_same, kp0⟩ (fun i σ H' _ ⟨_, _, _, _, hq', _⟩ => SqL.of hq') ?_ ?_
    · rintro i y σ H' hi ⟨v, rfl, hm', hp', hq', kp⟩
      obtain ⟨z, hz, rfl⟩ := of_map_get hi
      obtain ⟨m, hm, rfl⟩ := of_map_get hz
      have mm : m ∈ d := List.mem_of_getElem? hm
      have hlt : i < d.length := (List.getElem?_eq_some_iff.mp hm).1
      have ed : d.drop i = m :: d.drop (i + 1) := by
        rw [List.drop_eq_getElem_cons hlt]
        congr 1
        exact (List.getElem?_eq_some_iff.mp hm).2
      rw [ed] at hm'
      have sub : ((d.take i).filter (fun m => kk.of m.1 != m.2) ++ m :: d.drop (i + 1)).Sublist d := by
        have := (List.filter_sublist (l := d.take i) (p := fun m => kk.of m.1 != m.2)).append (List.Sublist.refl (d.drop i))
        rw [List.take_append_drop] at this
        rw [← ed]
        exact this
      have nd' : (((d.take i).filter (fun m => kk.of m.1 != m.2) ++ m :: d.drop (i + 1)).map (·.1)).Nodup := (sub.map (·.1)).nodup nd
      have ev : mv ((d.take i).filter (fun m => kk.of m.1 != m.2) ++ m :: d.drop (i + 1)) m.1 = some m.2 := (mv_some_iff nd').mpr (List.mem_append_right _ List.mem_cons_self)
      have g := dget_enc (x := m.1) hm' rfl
      rw [ev] at g
      have gk : atI (lookV kk) (m.1 : Int) = some (V.int (kk.of m.1 : Nat)) := by
        have := ch m mm
        refine at_of (j := m.1 - 1 + 1) (by omega) ?_
        exact lookV_get (by omega)
      refine ⟨_, rfl, _, rfl, c.m, _, rfl, g, _, rfl, _, rfl, p, _, _, _, rfl, rfl, SqL.of hp', gk, rfl, _, rfl, ?_⟩
      have et : (d.take (i + 1)).filter (fun m => kk.of m.1 != m.2) = (d.take i).filter (fun m => kk.of m.1 != m.2) ++ (if (kk.of m.1 != m.2) = true then [m] else []) := by
        rw [take_snoc hm, List.filter_append, List.filter_cons, List.filter_nil]
      by_cases e : kk.of m.1 = m.2
      · have e1 : decide (V.int (m.2 : Int) = V.int ((kk.of m.1 : Nat) : Int)) = true := decide_eq_true (by rw [e])
        rw [e1]
        refine iteT ?_
        refine ⟨_, rfl, c.m, rfl, .inl ⟨_, .inl hm'⟩, _, rfl, _, Sum.inl (m.1 : Int), _, hm', rfl, (by rw [valV_enc, ev]; rfl), ?_⟩
        refine ⟨_, rfl, ?_, by rw [upd_ne npm]; exact hp', ?_, fun b o z hb => by rw [upd_ne hb]; exact kp b o z hb⟩
        · rw [upd_same, dropK_enc, ndrop_mid nd', et, if_neg (by simp [e]), List.append_nil]
        · rw [upd_ne (Ne.symm nmq)]
          exact hq'
      · have e1 : decide (V.int (m.2 : Int) = V.int ((kk.of m.1 : Nat) : Int)) = false := decide_eq_false fun z => e (by have z := V.int.inj z; omega)
        rw [e1]
        refine iteF ?_
        refine ⟨_, rfl, ?_, hp', hq', kp⟩
        rw [hm', et, if_pos (by simp [e]), List.append_assoc]
        rfl
    · rintro σ H' ⟨v, rfl, hm', hp', hq', kp⟩
      rw [List.length_map, List.length_map, List.take_length, List.drop_length, List.append_nil] at hm'
      exact k _ H' (pd.filter _) hm' kp
def numV : Option Cue → V
  | none => .non
  | some c => .int (c.number : Int)
def spHeld (C : Addr) : Sp := fun vs H Q _ => ∃ (sh : Addr) (cs : List PC) (n a : Nat), vs = [.ref sh, .int (n : Int), .int (a : Int)] ∧ SheetAt C H sh cs ∧
  ∀ H' : Hp, Same H H' → Q (numV (halt_ (shOf cs) n (a == 1))) H'
theorem sc_held_number : FnScope ["sheet", "number", "how", "other"] ["sheet", "number", "how"] (defScope s_held_number) := ⟨rfl, rfl, rfl, by decide +kernel, rfl, by decide +kernel, by decide +kernel⟩
theorem ok_held_number (F : Has K mg "held_number" s_held_number ["sheet", "number", "how"]) (T : Txt K mg C) : Ok P w K mg base 1 "held_number" ["sheet", "number", "how"] (spHeld C) := by
  refine F.ok sc_held_number (fun vs H Q E h => ?_) (fun f cdv A outer s H vs Q E hr h => ?_)
  · obtain ⟨sh, cs, n, a, rfl, _⟩ := h
    rfl
  · obtain ⟨sh, cs, n, a, rfl, S, k⟩ := h
    have hu := hu_of hr
    obtain ⟨ks, pk, hsh⟩ := S.dc
    refine ⟨_, pss_cons (ps_for PassesOwn.never rfl (pi_list (pe_callB (call_sortedD rfl) (by rfl) T.sorted PyProof.Rows.boot_sorted (pa_cons (pv 0) pa_nil))) (pg_name (i := 3) sc_held_number.nd rfl (Or.inl rfl))
        (pss_one (ps_if (PW.pt (pw_and (pt_cmpR op_gt (pv 3) (pv 1) (nomark _)) (pw_and1 (PW.pt (pw_or (pt_cmpR op_eq (pv 2) (pe_const rfl T.alone) (nomark _)) (pw_or1 (pt_val (pe_fld (pe_dget hu (pv 0) (pv 3) (fun _ _ => rfl)) rfl))))))))
          (pss_one (ps_ret (pv 3))) pss_nil)))
      (pss_one (ps_ret pe_non)), ?_⟩
    refine ⟨_, rfl, sh, _, _, rfl, .inl hsh, keys_key ks, fun ns q hpm hpw hq => ⟨q, rfl, ⟨_, SqL.of upd_same⟩, ?_⟩⟩
    have ens := nums_eq S.rise pk hpm hpw
    subst ens
    have s1 : Same H (upd H q (.lst ((cs.map fun c => (c.n : Int)).map V.int))) := fun b o e => by rw [upd_ne (ne_of_none e hq)]; exact e
    refine for_list (K := K) (a := q) (xs := (cs.map fun c => (c.n : Int)).map V.int) (fun i σ H' => ∃ v : Option V, σ = [some (.ref sh), some (.int (n : Int)), some (.int (a : Int)), v] ∧
        H' = upd H q (.lst ((cs.map fun c => (c.n : Int)).map V.int)) ∧ halt_ (shOf cs) n (a == 1) = halt_ (shOf (cs.drop i)) n (a == 1))
      ⟨none, rfl, rfl, rfl⟩ (fun i σ H' _ ⟨_, _, e, _⟩ => by rw [e]; exact SqL.of upd_same) ?_ ?_
    · rintro i y σ H' hi ⟨v, rfl, rfl, eh⟩
      obtain ⟨z, hz, rfl⟩ := of_map_get hi
      obtain ⟨c, hc, rfl⟩ := of_map_get hz
      have mc : c ∈ cs := List.mem_of_getElem? hc
      have hlt : i < cs.length := (List.getElem?_eq_some_iff.mp hc).1
      have ed : cs.drop i = c :: cs.drop (i + 1) := by
        rw [List.drop_eq_getElem_cons hlt]
        congr 1
        exact (List.getElem?_eq_some_iff.mp hc).2
      have ef : halt_ (shOf (cs.drop i)) n (a == 1) = if (decide (n < c.n) && ((a == 1) || c.b)) = true then some c.cue else halt_ (shOf (cs.drop (i + 1))) n (a == 1) := by
        rw [ed]
        unfold halt_ shOf
        rw [List.map_cons, List.find?_cons]
        show (match (decide (n < c.n) && ((a == 1) || c.b)) with | true => _ | false => _) = _
        cases (decide (n < c.n) && ((a == 1) || c.b)) <;> rfl
      have fin_t : (decide (n < c.n) && ((a == 1) || c.b)) = true → Q (.int (c.n : Int)) (upd H q (.lst ((cs.map fun c => (c.n : Int)).map V.int))) := fun h => by
        have := k _ s1
        rw [eh, ef, if_pos h] at this
        exact this
      have fin_f : (decide (n < c.n) && ((a == 1) || c.b)) = false → halt_ (shOf cs) n (a == 1) = halt_ (shOf (cs.drop (i + 1))) n (a == 1) := fun h => by
        rw [eh, ef, if_neg (by rw [h]; simp)]
      obtain ⟨⟨dx, h1⟩, _⟩ := S.cue c mc
      refine ⟨_, rfl, _, rfl, _, _, rfl, rfl, _, rfl, ?_⟩
      refine ite2 (fun g1 => ?_) (fun g1 => ?_)
      · have g1 : n < c.n := by
          have := of_decide_eq_true g1
          omega
        refine ⟨_, rfl, rfl, _, rfl, ?_⟩
        by_cases g2 : a = 1
        · have e2 : decide (V.int (a : Int) = V.int 1) = true := decide_eq_true (by rw [g2]; rfl)
          rw [e2]
          refine iteT (iteT ?_)
          exact ⟨_, rfl, fin_t (by simp [g1, g2])⟩
        · have e2 : decide (V.int (a : Int) = V.int 1) = false := decide_eq_false fun z => g2 (by have z := V.int.inj z; omega)
          rw [e2]
          refine iteF ?_
          refine ⟨_, rfl, _, rfl, sh, _, rfl, S.get pk (s1 _ _ hsh) mc, c.a, C, dx, _, _, rfl, s1 _ _ h1, T.cl, T.nB, cf_blocked _ _, _, rfl, ?_⟩
          cases g3 : c.b with
          | true =>
            refine iteT ?_
            exact ⟨_, rfl, fin_t (by simp [g1, g3])⟩
          | false =>
            refine iteF ?_
            exact ⟨_, rfl, rfl, fin_f (by simp [g2, g3])⟩
      · refine iteF ?_
        have g1 : ¬ n < c.n := fun z => g1 (decide_eq_true (by omega))
        exact ⟨_, rfl, rfl, fin_f (by simp [g1])⟩
    · rintro σ H' ⟨v, rfl, rfl, eh⟩
      have := k _ s1
      rw [eh, List.length_map, List.length_map, List.drop_length] at this
      exact this
def spInit (C : Addr) : Sp := fun vs H Q _ => ∃ (p dx : Addr), vs = [.ref p] ∧ H p = some (.ins C dx []) ∧ ∀ (m : Addr) (H' : Hp), H m = none → H' p = some (.ins C dx (cf m false)) → H' m = some (.dK (enc [])) → (∀ b o, H b = some o → b ≠ p → H' b = some o) → Q .non H'
theorem sc_init : FnScope ["self"] ["self"] (defScope s_Cue_init) := ⟨rfl, rfl, rfl, by decide +kernel, rfl, by decide +kernel, by decide +kernel⟩
theorem ok_init {f : Addr} {fd : FuncData} (F : Fun K "__init__" "Cue.__init__" s_Cue_init f fd) (T : Txt K mg C) : FnOk P w K mg base CX0 1 f fd ["self"] (spInit C) := by
  refine F.ok sc_init (fun vs H Q E h => ?_) (fun cdv A outer s H vs Q E hr h => ?_)
  · obtain ⟨p, dx, rfl, _⟩ := h
    rfl
  · obtain ⟨p, dx, rfl, hp, k⟩ := h
    refine ⟨_, pss_cons (ps_fld (pv 0) pe_dnewK rfl) (pss_one (ps_fld (pv 0) pe_bl rfl)), ?_⟩
    intro d hd
    have npd : p ≠ d := ne_of_none hp hd
    refine ⟨_, rfl, p, C, dx, [], rfl, (by rw [upd_ne npd]; exact hp), T.cl, T.nM, (by show 0 < 1000; decide), _, rfl, p, C, dx, _, rfl, upd_same, T.cl, T.nB, (by show 1 < 1000; decide), ?_⟩
    refine k d _ hd upd_same (by rw [upd_ne npd.symm, upd_ne npd.symm, upd_same]; rfl) fun b o e hb => ?_
    rw [upd_ne hb, upd_ne hb, upd_ne (ne_of_none e hd)]
    exact e
structure OkMake (P : Program) (w : World) (K : PySem.W.Frag) (mg : Str → Option Value) (base : Heap) (C : Addr) : Prop where
  ex : ∃ (fI : Addr) (fdI : FuncData), Mk K C fI ∧ FnOk P w K mg base CX0 1 fI fdI ["self"] (spInit C) ∧ Binds K fdI ["self"] []
theorem putBy_twice {α : Type} {f : α → Nat} {c c' : α} (h : f c = f c') : ∀ l : List α, putBy f c (putBy f c' l) = putBy f c l
  | [] => by
    show (if f c < f c' then _ else if f c = f c' then _ else _) = _
    rw [if_neg (by omega), if_pos h]
    rfl
  | d :: r => by
    have ih := putBy_twice h r
    show putBy f c (if f c' < f d then c' :: d :: r else if f c' = f d then c' :: r else d :: putBy f c' r) = if f c < f d then c :: d :: r else if f c = f d then c :: r else d :: putBy f c r
    by_cases e1 : f c' < f d
    · rw [if_pos e1, if_pos (by omega : f c < f d)]
      show (if f c < f c' then _ else if f c = f c' then _ else _) = _
      rw [if_neg (by omega), if_pos h]
    · rw [if_neg e1, if_neg (by omega : ¬ f c < f d)]
      by_cases e2 : f c' = f d
      · rw [if_pos e2, if_pos (by omega : f c = f d)]
        show (if f c < f c' then _ else if f c = f c' then _ else _) = _
        rw [if_neg (by omega), if_pos h]
      · rw [if_neg e2, if_neg (by omega : ¬ f c = f d)]
        show (if f c < f d then _ else if f c = f d then _ else _) = _
        rw [if_neg (by omega), if_neg (by omega), ih]
/-- what replace_cue and edit are handed: no moves (the cue goes), or a dict of moves that is no cue's -/
inductive Repl (C : Addr) (H : Hp) (sh : Addr) (cs : List PC) (n : Nat) : V → Sheet → Prop
  | gone (c : PC) : c ∈ cs → c.n = n → Repl C H sh cs n .non ((shOf cs).filter fun (c : Cue) => c.number != n)
  | put (m : Addr) (d ms : Ms) : H m = some (.dK (enc d)) → d.Perm ms → MsOk ms → m ≠ sh → (∀ c ∈ cs, c.m ≠ m) → (1 ≤ n ∧ n ≤ 9999) → (fnd cs n ≠ none ∨ cs.length < 24) → Repl C H sh cs n (.ref m) (putBy Cue.number { cueOr (shOf cs) n with moves := ms } (shOf cs))
theorem Repl.same {H H' : Hp} {sh : Addr} {cs : List PC} {n : Nat} {v : V} {S1 : Sheet} (r : Repl C H sh cs n v S1) (e : Same H H') : Repl C H' sh cs n v S1 := by
  cases r with
  | gone c h1 h2 => exact .gone c h1 h2
  | put m d ms h1 h2 h3 h4 h5 h6 h7 => exact .put m d ms (e _ _ h1) h2 h3 h4 h5 h6 h7
theorem cueOr_number (S : Sheet) (n : Nat) : (cueOr S n).number = n := by
  unfold cueOr
  cases e : Sg.find S n with
  | none => rfl
  | some c =>
    have := List.find?_some e
    simpa using this
theorem Repl.halt {H : Hp} {sh : Addr} {cs : List PC} {n : Nat} {v : V} {S1 : Sheet} (r : Repl C H sh cs n v S1) (al : Bool) : halt_ S1 n al = halt_ (shOf cs) n al := by
  cases r with
  | gone c h1 h2 => exact halt_drop al _
  | put m d ms h1 h2 h3 h4 h5 h6 h7 =>
    rw [← putCue_eq]
    exact halt_put (c := { cueOr (shOf cs) n with moves := ms }) (cueOr_number _ _) al _
def spReplace (C : Addr) : Sp := fun vs H Q _ => ∃ (sh : Addr) (cs : List PC) (n : Nat) (v : V) (S1 : Sheet), vs = [.ref sh, .int (n : Int), v] ∧ SheetAt C H sh cs ∧ Repl C H sh cs n v S1 ∧
  ∀ (H' : Hp) (cs' : List PC), SheetAt C H' sh cs' → shOf cs' = S1 → (∀ c ∈ cs, c.n ≠ n → c ∈ cs') → KeepL H H' → Q .non H'
theorem sc_replace_cue : FnScope ["sheet", "number", "moves"] ["sheet", "number", "moves"] (defScope s_replace_cue) := ⟨rfl, rfl, rfl, by decide +kernel, rfl, by decide +kernel, by decide +kernel⟩
theorem ok_replace_cue (F : Has K mg "replace_cue" s_replace_cue ["sheet", "number", "moves"]) (T : Txt K mg C) (M : OkMake P w K mg base C) : Ok P w K mg base 3 "replace_cue" ["sheet", "number", "moves"] (spReplace C) := by
  refine F.ok sc_replace_cue (fun vs H Q E h => ?_) (fun f cdv A outer s H vs Q E hr h => ?_)
  · obtain ⟨sh, cs, n, v, S1, rfl, _⟩ := h
    rfl
  · obtain ⟨sh, cs, n, v, S1, rfl, S, R, k⟩ := h
    have hu := hu_of hr
    obtain ⟨fI, fdI, M, GI, bI⟩ := M.ex
    obtain ⟨ks, pk, hsh⟩ := S.dc
    refine ⟨_, pss_one (ps_if (pt_cmp (pc_isN (pv 2))) (pss_one (ps_expr (pe_dpop1 (pv 0) (pv 1) ⟨rfl, rfl, rfl, rfl⟩)))
      (pss_cons (ps_if (pt_cmp (pc_dnotin hu (pv 1) (pv 0))) (pss_one (ps_dput hu (pv 0) (pv 1) (pe_make0 M GI hr rfl T.mgC bI .nil pass0) rfl)) pss_nil)
        (pss_one (ps_fld (pe_dget hu (pv 0) (pv 1) (fun _ _ => rfl)) (pv 2) rfl)))), ?_⟩
    refine ⟨_, rfl, _, rfl, ?_⟩
    cases R with
    | gone c mc ec =>
      refine iteT ?_
      subst ec
      refine ⟨_, rfl, sh, rfl, .inl ⟨_, .inl hsh⟩, _, rfl, _, Sum.inl (c.n : Int), V.ref c.a, hsh, rfl, (by rw [valV_key, S.fnd pk, (fnd_some S).mpr ⟨mc, rfl⟩]; rfl), ?_⟩
      refine k _ (cs.filter fun x => x.n != c.n) (S.drop c.n (fun q o e hq => by rw [upd_ne hq]; exact e) fun ks' e' => ?_) (shOf_drop _ _) (fun x hx hn => List.mem_filter.mpr ⟨hx, by simp [hn]⟩) ⟨fun q xs e => ?_, fun q o u e => ?_⟩
      · rw [hsh] at e'
        have : ks.map key = ks'.map key := HO.dK.inj (Option.some.inj e')
        rw [upd_same, dropK_key]
        congr 2
        have e1 := dropK_key ks c.n
        have e2 := dropK_key ks' c.n
        rw [← e1, ← e2, this]
      · rw [upd_ne (ne_of e hsh (by intro z; cases z))]
        exact e
      · rw [upd_ne (ne_of e hsh (by intro z; cases z))]
        exact e
    | put m d ms hm pd ok nms nM num room =>
      have e0 : decide (V.ref m = V.non) = false := decide_eq_false fun z => by cases z
      rw [e0]
      refine iteF ?_
      -- the store, from any sheet that has the cue
      have fin : ∀ (H2 : Hp) (cs2 : List PC) (c2 : PC), SheetAt C H2 sh cs2 → c2 ∈ cs2 → c2.n = n → H2 m = some (.dK (enc d)) → (∀ c ∈ cs2, c.m ≠ m) → c2.b = (cueOr (shOf cs) n).block → putBy Cue.number ⟨n, c2.b, ms⟩ (shOf cs2) = putBy Cue.number ⟨n, c2.b, ms⟩ (shOf cs) → (∀ c ∈ cs, c.n ≠ n → c ∈ cs2) → KeepL H H2 →
          sFld K (tDGet (tVar 0) (tVar 1)) (tVar 2) "moves" { nx := fun _ H' => Q .non H', rt := Q } [some (.ref sh), some (.int (n : Int)), some (.ref m)] H2 := by
        intro H2 cs2 c2 S2 m2 e2 hm2 nM2 eb ep sub kl
        subst e2
        obtain ⟨ks2, pk2, hsh2⟩ := S2.dc
        obtain ⟨⟨dx, h1⟩, _⟩ := S2.cue c2 m2
        refine ⟨_, rfl, _, rfl, _, rfl, sh, _, rfl, S2.get pk2 hsh2 m2, c2.a, C, dx, _, rfl, h1, T.cl, T.nM, cf_len _ _, ?_⟩
        have nma : m ≠ c2.a := ne_of hm2 h1 (by intro z; cases z)
        refine k _ (swp cs2 c2.n m ms) (S2.swp m2 pd ok nms nM2 ⟨dx, by rw [upd_same, cf_putM]⟩ (by rw [upd_ne nma]; exact hm2) fun q o e hq => by rw [upd_ne hq]; exact e) ?_ (fun c hc hn => ?_) (kl.trans ⟨fun q xs e => ?_, fun q o u e => ?_⟩)
        · rw [shOf_swp S2 m2, ep, eb]
          have := cueOr_number (shOf cs) c2.n
          generalize cueOr (shOf cs) c2.n = x at this ⊢
          cases x
          cases this
          rfl
        · exact List.mem_map.mpr ⟨c, sub c hc hn, by rw [if_neg hn]⟩
        · rw [upd_ne (ne_of e h1 (by intro z; cases z))]
          exact e
        · rw [upd_ne (ne_of e h1 (by intro z; cases z))]
          exact e
      refine ⟨_, rfl, _, rfl, sh, _, rfl, S.getO n, _, rfl, ?_⟩
      cases e : fnd cs n with
      | some c =>
        refine iteF ?_
        obtain ⟨mc, ec⟩ := (fnd_some S).mp e
        exact fin H cs c S mc ec hm nM (by rw [cueOr_some e]; rfl) rfl (fun c hc _ => hc) (KeepL.refl H)
      | none =>
        refine iteT ?_
        have hl : cs.length < 24 := room.resolve_left fun z => z e
        have hno := fnd_none.mp e
        intro x dx nx ndx nex
        refine ⟨x, dx, rfl, upd_same, fun m0 H1 nm0 hx hm0 kp => ⟨rfl, ?_⟩⟩
        have s0 : Same H (upd (upd H dx (.own x)) x (.ins C dx [])) := fun b o e => by
          rw [upd_ne (ne_of_none e nx), upd_ne (ne_of_none e ndx)]
          exact e
        have s1 : Same H H1 := fun b o e => kp b o (s0 b o e) (ne_of_none e nx)
        have nm0' : H m0 = none := s0.free nm0
        have nms0 : m0 ≠ sh := Ne.symm (ne_of_none hsh nm0')
        have nxs : x ≠ sh := Ne.symm (ne_of_none hsh nx)
        have ek : valV (ks.map key) (Sum.inl (n : Int) : Key) = none := by rw [valV_key, S.fnd pk, e]; rfl
        have ep : putK (ks.map key) (Sum.inl (n : Int) : Key) (V.ref x) = (ks ++ [(⟨n, x, m0, false, []⟩ : PC)]).map key := by
          rw [putK_new _ ek, List.map_append]
          rfl
        have hlk : (ks.map key).length < sizeLine := by
          rw [List.length_map, pk.length_eq]
          exact small1000 (by omega)
        refine ⟨_, rfl, _, rfl, sh, _, rfl, DPut.k (k := (Sum.inl (n : Int) : Key)) (s1 _ _ hsh) hlk, ?_⟩
        rw [ep]
        have nmx : m ≠ x := ne_of_none hm nx
        have S2 : SheetAt C (upd H1 sh (.dK ((ks ++ [(⟨n, x, m0, false, []⟩ : PC)]).map key))) sh (putBy PC.n ⟨n, x, m0, false, []⟩ cs) := by
          refine (S.same s1).more (c0 := ⟨n, x, m0, false, []⟩) hno hl num MsOk.nil ⟨⟨dx, by rw [upd_ne nxs]; exact hx⟩, ⟨[], .refl _, by rw [upd_ne nms0]; exact hm0⟩⟩ nms0 (fun c hc z => ?_) (fun c hc z => ?_) (fun q o e h1 _ _ => by rw [upd_ne h1]; exact e) (fun ks' e' => ?_) (fun c hc z => ?_) (fun c hc z => ?_)
          · obtain ⟨⟨dx', h1⟩, _⟩ := S.cue c hc
            exact ne_of_none h1 nx z
          · obtain ⟨_, ⟨d', _, h2⟩⟩ := S.cue c hc
            exact ne_of_none h2 nm0' z
          · rw [s1 _ _ hsh] at e'
            have eq : ks.map key = ks'.map key := HO.dK.inj (Option.some.inj e')
            rw [upd_same, List.map_append, List.map_append, eq]
          · obtain ⟨⟨dx', h1⟩, _⟩ := S.cue c hc
            exact ne_of_none h1 nm0' z
          · obtain ⟨_, ⟨d', _, h2⟩⟩ := S.cue c hc
            exact ne_of_none h2 nx z
        have pm := putBy_new (f := PC.n) (c := (⟨n, x, m0, false, []⟩ : PC)) hno
        refine fin _ _ ⟨n, x, m0, false, []⟩ S2 (pm.mem_iff.mpr (List.mem_append_right _ (by simp))) rfl (by rw [upd_ne nms]; exact s1 _ _ hm) (fun c hc z => ?_) (by rw [cueOr_none e]) ?_ (fun c hc _ => pm.mem_iff.mpr (List.mem_append_left _ hc)) ⟨fun q xs e => ?_, fun q o u e => ?_⟩
        · rcases List.mem_append.mp (pm.mem_iff.mp hc) with h | h
          · exact nM c h z
          · have : c = ⟨n, x, m0, false, []⟩ := by simpa using h
            subst this
            exact ne_of_none hm nm0' z.symm
        · rw [shOf_put]
          exact putBy_twice (f := Cue.number) (c := ⟨n, false, ms⟩) (c' := ⟨n, false, []⟩) rfl _
        · rw [upd_ne (ne_of e hsh (by intro z; cases z))]
          exact s1 _ _ e
        · rw [upd_ne (ne_of e hsh (by intro z; cases z))]
          exact s1 _ _ e
theorem okOr {H : Hp} {sh : Addr} {cs : List PC} (S : SheetAt C H sh cs) (n : Nat) : MsOk (cueOr (shOf cs) n).moves := by
  cases e : fnd cs n with
  | none =>
    rw [cueOr_none e]
    exact MsOk.nil
  | some c =>
    rw [cueOr_some e]
    exact S.ok c ((fnd_some S).mp e).1
theorem SheetAt.count {H : Hp} {sh : Addr} {cs : List PC} (S : SheetAt C H sh cs) {ks : List PC} (p : ks.Perm cs) : (((ks.map key).length : Nat) : Int) = ((shOf cs).length : Int) := by
  rw [List.length_map, p.length_eq, len_shOf]
def spEdit (C : Addr) : Sp := fun vs H Q _ => ∃ (sh : Addr) (cs : List PC) (n : Nat) (v : V) (S1 : Sheet) (a : Nat), vs = [.ref sh, .int (n : Int), v, .int (a : Int)] ∧ SheetAt C H sh cs ∧ Repl C H sh cs n v S1 ∧
  ∀ (H' : Hp) (cs' : List PC), SheetAt C H' sh cs' → shOf cs' = held (shOf cs) S1 n (a == 1) → KeepL H H' → Q (.int ((shOf cs').length : Int)) H'
theorem sc_edit : FnScope ["sheet", "number", "moves", "how", "held", "wanted"] ["sheet", "number", "moves", "how"] (defScope s_edit) := ⟨rfl, rfl, rfl, by decide +kernel, rfl, by decide +kernel, by decide +kernel⟩
theorem ok_edit (F : Has K mg "edit" s_edit ["sheet", "number", "moves", "how"]) (T : Txt K mg C) (HN : Ok P w K mg base 1 "held_number" ["sheet", "number", "how"] (spHeld C)) (LA : Ok P w K mg base 1 "look_at" ["sheet", "number"] (spLook C))
    (RC : Ok P w K mg base 3 "replace_cue" ["sheet", "number", "moves"] (spReplace C)) (AM : Ok P w K mg base 1 "add_moves" ["moves", "look", "wanted"] spAdd) : Ok P w K mg base 4 "edit" ["sheet", "number", "moves", "how"] (spEdit C) := by
  refine F.ok sc_edit (fun vs H Q E h => ?_) (fun f cdv A outer s H vs Q E hr h => ?_)
  · obtain ⟨sh, cs, n, v, S1, a, rfl, _⟩ := h
    rfl
  · obtain ⟨sh, cs, n, v, S1, a, rfl, S, R, k⟩ := h
    have hu := hu_of hr
    have HN := HN.mono (show 1 ≤ 3 by decide)
    have LA := LA.mono (show 1 ≤ 3 by decide)
    have AM := AM.mono (show 1 ≤ 3 by decide)
    refine ⟨_, pss_cons (ps_set (i := 4) sc_edit.nd rfl (Or.inl rfl) (pe_fn HN hr rfl (pa_cons (pv 0) (pa_cons (pv 1) (pa_cons (pv 3) pa_nil)))))
      (pss_cons (ps_if (pt_cmp (pc_isN (pv 4))) (pss_one (ps_expr (pe_fn RC hr rfl (pa_cons (pv 0) (pa_cons (pv 1) (pa_cons (pv 2) pa_nil))))))
        (pss_cons (ps_set (i := 5) sc_edit.nd rfl (Or.inl rfl) (pe_fn LA hr rfl (pa_cons (pv 0) (pa_cons (pv 4) pa_nil))))
        (pss_cons (ps_expr (pe_fn RC hr rfl (pa_cons (pv 0) (pa_cons (pv 1) (pa_cons (pv 2) pa_nil)))))
        (pss_one (ps_expr (pe_fn AM hr rfl (pa_cons (pe_fld (pe_dget hu (pv 0) (pv 4) (fun _ _ => rfl)) rfl) (pa_cons (pe_fn LA hr rfl (pa_cons (pv 0) (pa_cons (pv 4) pa_nil))) (pa_cons (pv 5) pa_nil)))))))))
      (pss_one (ps_ret (pe_callB call_lenD (by rfl) T.len PySem.boot_len (pa_cons (pv 0) pa_nil))))), ?_⟩
    refine ⟨_, rfl, _, rfl, _, rfl, sh, cs, n, a, rfl, S, fun H1 s1 => ?_⟩
    refine ⟨_, rfl, _, rfl, ?_⟩
    have hh := R.halt (a == 1)
    cases e : halt_ (shOf cs) n (a == 1) with
    | none =>
      rw [show decide (numV none = V.non) = true from decide_eq_true rfl]
      refine iteT ?_
      refine ⟨_, rfl, _, rfl, _, rfl, sh, cs, n, v, S1, rfl, S.same s1, R.same s1, fun H2 cs2 S2 e2 sub kl => ?_⟩
      obtain ⟨ks2, pk2, hsh2⟩ := S2.dc
      refine ⟨_, rfl, sh, _, rfl, hsh2, ?_⟩
      rw [S2.count pk2]
      refine k H2 cs2 S2 ?_ ((KeepL.of s1).trans kl)
      rw [held_eq, hh, e, e2]
    | some c =>
      obtain ⟨mc, hnc⟩ := halt_some e
      obtain ⟨ch, mch, rfl⟩ := List.mem_map.mp mc
      rw [show decide (numV (some ch.cue) = V.non) = false from decide_eq_false fun z => by cases z]
      refine iteF ?_
      -- wanted = look_at(sheet, held)
      refine ⟨_, rfl, _, rfl, sh, cs, ch.n, rfl, S.same s1, fun p H2 hp s2 hl => ?_⟩
      -- replace_cue(sheet, number, moves)
      refine ⟨_, rfl, _, rfl, _, rfl, sh, cs, n, v, S1, rfl, (S.same s1).same s2, (R.same s1).same s2, fun H3 cs3 S3 e3 sub kl => ?_⟩
      have m3 : ch ∈ cs3 := sub ch mch (by have : n < ch.n := hnc; omega)
      obtain ⟨ks3, pk3, hsh3⟩ := S3.dc
      obtain ⟨⟨dx, h1⟩, ⟨d, pd, h2⟩⟩ := S3.cue ch m3
      -- add_moves(sheet[held].moves, look_at(sheet, held), wanted)
      refine ⟨_, rfl, _, rfl, sh, _, rfl, S3.get pk3 hsh3 m3, ch.a, C, dx, _, _, rfl, h1, T.cl, T.nM, cf_moves _ _, _, rfl, _, rfl, sh, cs3, ch.n, rfl, S3, fun p2 H4 hp2 s4 hl2 => ?_⟩
      refine ⟨_, rfl, ch.m, p2, p, d, ch.ms, lookUpTo (shOf cs) ch.n, lookUpTo (shOf cs3) ch.n, rfl, s4 _ _ h2, pd, S3.ok ch m3, hl2, s4 _ _ (kl.l _ _ hl), len_lookUpTo _ _, len_lookUpTo _ _, fun d' H5 pd' hm' kp => ?_⟩
      have S4 := S3.same s4
      have nam := S4.aM m3 m3
      have S5 : SheetAt C H5 sh (chg cs3 ch.n ch.b (heldMs (lookUpTo (shOf cs) ch.n) (lookUpTo (shOf cs3) ch.n) 64 ch.ms)) :=
        S4.chg m3 pd' ((S3.ok ch m3).held _ _ (Nat.le_refl 64)) ⟨dx, kp _ _ (s4 _ _ h1) nam⟩ hm' fun q o z _ hq => kp q o z hq
      obtain ⟨ks5, pk5, hsh5⟩ := S5.dc
      refine ⟨_, rfl, sh, _, rfl, hsh5, ?_⟩
      rw [S5.count pk5]
      refine k H5 _ S5 ?_ (((KeepL.of s1).trans (KeepL.of s2)).trans (kl.trans ((KeepL.of s4).trans ⟨fun q xs z => kp q _ z (ne_of z (s4 _ _ h2) (by intro z; cases z)), fun q o u z => kp q _ z (ne_of z (s4 _ _ h2) (by intro z; cases z))⟩)))
      rw [shOf_chg S4 m3, held_eq, hh, e, e3]
      rfl
theorem sc_lacks_room : FnScope ["sheet", "number"] ["sheet", "number"] (defScope s_lacks_room) := ⟨rfl, rfl, rfl, by decide +kernel, rfl, by decide +kernel, by decide +kernel⟩
def spRoom (C : Addr) : Sp := fun vs H Q _ => ∃ (sh : Addr) (cs : List PC) (n : Nat), vs = [.ref sh, .int (n : Int)] ∧ SheetAt C H sh cs ∧ Q (.bl ((fnd cs n).isNone && decide (24 ≤ cs.length))) H
theorem ok_lacks_room (F : Has K mg "lacks_room" s_lacks_room ["sheet", "number"]) (T : Txt K mg C) : Ok P w K mg base 1 "lacks_room" ["sheet", "number"] (spRoom C) := by
  refine F.ok sc_lacks_room (fun vs H Q E h => ?_) (fun f cdv A outer s H vs Q E hr h => ?_)
  · obtain ⟨sh, cs, n, rfl, _⟩ := h
    rfl
  · obtain ⟨sh, cs, n, rfl, S, k⟩ := h
    have hu := hu_of hr
    obtain ⟨ks, pk, hsh⟩ := S.dc
    refine ⟨_, pss_one (ps_ret (pe_and (pe_cmp (pc_dnotin hu (pv 1) (pv 0))) (pe_one (pe_cmpR op_ge (pe_callB call_lenD (by rfl) T.len PySem.boot_len (pa_cons (pv 0) pa_nil)) (pe_const rfl T.most) (nomark _))))), ?_⟩
    refine ⟨_, rfl, _, rfl, sh, _, rfl, S.getO n, _, rfl, ?_⟩
    cases e : fnd cs n with
    | some c =>
      rw [e] at k
      exact iteF k
    | none =>
      rw [e] at k
      refine iteT ?_
      refine ⟨_, rfl, sh, _, rfl, hsh, _, _, rfl, rfl, ?_⟩
      have e2 : decide ((24 : Int) ≤ ((ks.map key).length : Nat)) = decide (24 ≤ cs.length) := by
        rw [List.length_map, pk.length_eq]
        by_cases z : 24 ≤ cs.length
        · rw [decide_eq_true z]
          exact decide_eq_true (by omega)
        · rw [decide_eq_false z]
          exact decide_eq_false (by omega)
      show Q (.bl (decide ((24 : Int) ≤ ((ks.map key).length : Nat)))) H
      rw [e2]
      exact k
theorem iteNot {b : Bool} {A B : Prop} (h1 : b = false → A) (h2 : b = true → B) : if (!b) = true then A else B := by
  cases b with
  | false => exact iteT (h1 rfl)
  | true => exact iteF (h2 rfl)
/-- what each call of these promises: the specification's step -/
def spStep (C : Addr) (ar : Nat) (call : List Nat → Wqatdt.Call) : Sp := fun vs H Q _ => ∃ (sh : Addr) (cs : List PC) (ns : List Nat), ns.length = ar ∧ vs = .ref sh :: ns.map (fun n : Nat => V.int (n : Int)) ∧ SheetAt C H sh cs ∧
  ∀ (H' : Hp) (cs' : List PC) (z : Int), SheetAt C H' sh cs' → Wqatdt.step (shOf cs) (call ns) = (shOf cs', Wqatdt.says z) → KeepL H H' → Q (.int z) H'
def cRecord : List Nat → Wqatdt.Call
  | [n, x, l, a] => .record n x l a
  | _ => .clean
def cRelease : List Nat → Wqatdt.Call
  | [n, x, a] => .release n x a
  | _ => .clean
def cDelete : List Nat → Wqatdt.Call
  | [n, a] => .delete n a
  | _ => .clean
def cCopy : List Nat → Wqatdt.Call
  | [m, n, a] => .copy m n a
  | _ => .clean
def cBlock : List Nat → Wqatdt.Call
  | [n] => .block n
  | _ => .clean
def cUnblock : List Nat → Wqatdt.Call
  | [n] => .unblock n
  | _ => .clean
theorem find_none_iff' {cs : List PC} {n : Nat} : Sg.find (shOf cs) n = none ↔ fnd cs n = none := by
  rw [find_shOf, Option.map_eq_none_iff]
theorem no_room {cs : List PC} {n : Nat} (h : ((fnd cs n).isNone && decide (24 ≤ cs.length)) = true) : Sg.find (shOf cs) n = none ∧ 24 ≤ (shOf cs).length := by
  rw [Bool.and_eq_true, Option.isNone_iff_eq_none, decide_eq_true_iff] at h
  rw [find_none_iff', len_shOf]
  exact h
theorem has_room {cs : List PC} {n : Nat} (h : ¬ ((fnd cs n).isNone && decide (24 ≤ cs.length)) = true) : (fnd cs n ≠ none ∨ cs.length < 24) ∧ ¬ (Sg.find (shOf cs) n = none ∧ 24 ≤ (shOf cs).length) := by
  rw [Bool.and_eq_true, Option.isNone_iff_eq_none, decide_eq_true_iff] at h
  rw [find_none_iff', len_shOf]
  refine ⟨?_, h⟩
  by_cases q : fnd cs n = none
  · right
    have : ¬ 24 ≤ cs.length := fun z => h ⟨q, z⟩
    omega
  · exact .inl q
theorem fresh_m {H : Hp} {sh : Addr} {cs : List PC} (S : SheetAt C H sh cs) {p : Addr} (hp : H p = none) : p ≠ sh ∧ ∀ c ∈ cs, c.m ≠ p := by
  obtain ⟨ks, pk, hsh⟩ := S.dc
  refine ⟨Ne.symm (ne_of_none hsh hp), fun c hc => ?_⟩
  obtain ⟨_, ⟨d, _, h2⟩⟩ := S.cue c hc
  exact ne_of_none h2 hp
theorem four {ns : List Nat} (h : ns.length = 4) : ∃ a b c d, ns = [a, b, c, d] := by
  match ns, h with
  | [a, b, c, d], _ => exact ⟨a, b, c, d, rfl⟩
theorem three {ns : List Nat} (h : ns.length = 3) : ∃ a b c, ns = [a, b, c] := by
  match ns, h with
  | [a, b, c], _ => exact ⟨a, b, c, rfl⟩
theorem two {ns : List Nat} (h : ns.length = 2) : ∃ a b, ns = [a, b] := by
  match ns, h with
  | [a, b], _ => exact ⟨a, b, rfl⟩
theorem one {ns : List Nat} (h : ns.length = 1) : ∃ a, ns = [a] := by
  match ns, h with
  | [a], _ => exact ⟨a, rfl⟩
abbrev okB (P : Program) (w : World) (K : PySem.W.Frag) (mg : Str → Option Value) (base : Heap) (x p : Str) (lo hi : Int) : Prop := Ok P w K mg base 1 x [p] (spB fun z => decide (lo ≤ z ∧ z ≤ hi))
theorem sc_record_move : FnScope ["sheet", "number", "channel", "level", "how", "moves"] ["sheet", "number", "channel", "level", "how"] (defScope s_record_move) := ⟨rfl, rfl, rfl, by decide +kernel, rfl, by decide +kernel, by decide +kernel⟩
theorem ok_record_move (F : Has K mg "record_move" s_record_move ["sheet", "number", "channel", "level", "how"]) (T : Txt K mg C) (B1 : okB P w K mg base "is_number" "number" 1 9999) (B2 : okB P w K mg base "is_channel" "channel" 1 64) (B3 : okB P w K mg base "is_level" "level" 0 100)
    (B4 : okB P w K mg base "is_how" "how" 0 1) (LR : Ok P w K mg base 1 "lacks_room" ["sheet", "number"] (spRoom C)) (MO : Ok P w K mg base 1 "moves_of" ["sheet", "number"] (spMoves C)) (ED : Ok P w K mg base 4 "edit" ["sheet", "number", "moves", "how"] (spEdit C)) :
    Ok P w K mg base 5 "record_move" ["sheet", "number", "channel", "level", "how"] (spStep C 4 cRecord) := by
  refine F.ok sc_record_move (fun vs H Q E h => ?_) (fun f cdv A outer s H vs Q E hr h => ?_)
  · obtain ⟨sh, cs, ns, hl, rfl, _⟩ := h
    rw [List.length_cons, List.length_map, hl]
    rfl
  · obtain ⟨sh, cs, ns, hl, rfl, S, k⟩ := h
    obtain ⟨n, x, l, a, rfl⟩ := four hl
    have hu := hu_of hr
    have B1 := B1.mono (show 1 ≤ 4 by decide)
    have B2 := B2.mono (show 1 ≤ 4 by decide)
    have B3 := B3.mono (show 1 ≤ 4 by decide)
    have B4 := B4.mono (show 1 ≤ 4 by decide)
    have LR := LR.mono (show 1 ≤ 4 by decide)
    have MO := MO.mono (show 1 ≤ 4 by decide)
    refine ⟨_, pss_cons (ps_if (pt_not (PW.pt (pw_and (pt_val (pe_fn B1 hr rfl (pa_cons (pv 1) pa_nil))) (pw_and (pt_val (pe_fn B2 hr rfl (pa_cons (pv 2) pa_nil))) (pw_and (pt_val (pe_fn B3 hr rfl (pa_cons (pv 3) pa_nil))) (pw_and1 (pt_val (pe_fn B4 hr rfl (pa_cons (pv 4) pa_nil)))))))))
        (pss_one (ps_ret (pe_const rfl T.imp))) pss_nil)
      (pss_cons (ps_if (pt_val (pe_fn LR hr rfl (pa_cons (pv 0) (pa_cons (pv 1) pa_nil)))) (pss_one (ps_ret (pe_const rfl T.noRoom))) pss_nil)
      (pss_cons (ps_set (i := 5) sc_record_move.nd rfl (Or.inl rfl) (pe_fn MO hr rfl (pa_cons (pv 0) (pa_cons (pv 1) pa_nil))))
      (pss_cons (ps_dput hu (pv 5) (pv 2) (pv 3) rfl)
      (pss_one (ps_ret (pe_fn ED hr rfl (pa_cons (pv 0) (pa_cons (pv 1) (pa_cons (pv 5) (pa_cons (pv 4) pa_nil)))))))))), ?_⟩
    have bad : ¬ ((1 ≤ n ∧ n ≤ 9999) ∧ (1 ≤ x ∧ x ≤ 64) ∧ l ≤ 100 ∧ a ≤ 1) → Q (.int (-1)) H := fun h => k H cs (-1) S (record_bad h) (KeepL.refl H)
    refine ⟨_, rfl, _, rfl, _, rfl, ?_⟩
    refine ite2 (fun h1 => ?_) (fun h1 => iteT (bad fun z => h1 (decide_eq_true (by omega))))
    refine ⟨_, rfl, _, rfl, _, rfl, ?_⟩
    refine ite2 (fun h2 => ?_) (fun h2 => iteT (bad fun z => h2 (decide_eq_true (by omega))))
    refine ⟨_, rfl, _, rfl, _, rfl, ?_⟩
    refine ite2 (fun h3 => ?_) (fun h3 => iteT (bad fun z => h3 (decide_eq_true (by omega))))
    refine ⟨_, rfl, _, rfl, _, rfl, ?_⟩
    have h1 := of_decide_eq_true h1
    have h2 := of_decide_eq_true h2
    have h3 := of_decide_eq_true h3
    refine iteNot (fun h4 => bad fun z => of_decide_eq_false h4 (by omega)) (fun h4 => ?_)
    · have h4 : (0 : Int) ≤ (a : Int) ∧ (a : Int) ≤ 1 := of_decide_eq_true h4
      have ok : (1 ≤ n ∧ n ≤ 9999) ∧ (1 ≤ x ∧ x ≤ 64) ∧ l ≤ 100 ∧ a ≤ 1 := by omega
      refine ⟨_, rfl, _, rfl, sh, cs, n, rfl, S, _, rfl, ?_⟩
      refine ite2 (fun h5 => ?_) (fun h5 => ?_)
      · exact k H cs (-5) S (record_full ok (no_room h5)) (KeepL.refl H)
      · obtain ⟨rm, nf⟩ := has_room h5
        refine ⟨_, rfl, _, rfl, sh, cs, n, rfl, S, fun p d H1 hp s1 pd hd => ?_⟩
        have okm := okOr S n
        refine ⟨_, rfl, _, rfl, _, rfl, p, _, rfl, dput_enc (x := x) hd (len_perm pd okm) rfl, ?_⟩
        have s2 : Same H (upd H1 p (.dK (enc (nput d x l)))) := fun b o e => by
          rw [upd_ne (ne_of_none e hp)]
          exact s1 b o e
        obtain ⟨nps, nM⟩ := fresh_m S hp
        refine ⟨_, rfl, _, rfl, _, rfl, _, rfl, sh, cs, n, V.ref p, _, a, rfl, S.same s2, Repl.put p (nput d x l) (putMove x l (cueOr (shOf cs) n).moves) upd_same (put_perm pd okm x l) (okm.put ok.2.1.1 ok.2.1.2) nps nM ok.1 rm, fun H3 cs3 S3 e3 kl => ?_⟩
        refine k H3 cs3 _ S3 ?_ ((KeepL.of s2).trans kl)
        show Wqatdt.step (shOf cs) (.record n x l a) = _
        rw [record_ok ok nf, ← e3]
        rfl
theorem sc_release_move : FnScope ["sheet", "number", "channel", "how", "moves"] ["sheet", "number", "channel", "how"] (defScope s_release_move) := ⟨rfl, rfl, rfl, by decide +kernel, rfl, by decide +kernel, by decide +kernel⟩
theorem ok_release_move (F : Has K mg "release_move" s_release_move ["sheet", "number", "channel", "how"]) (T : Txt K mg C) (B1 : okB P w K mg base "is_number" "number" 1 9999) (B2 : okB P w K mg base "is_channel" "channel" 1 64)
    (B4 : okB P w K mg base "is_how" "how" 0 1) (MO : Ok P w K mg base 1 "moves_of" ["sheet", "number"] (spMoves C)) (ED : Ok P w K mg base 4 "edit" ["sheet", "number", "moves", "how"] (spEdit C)) :
    Ok P w K mg base 5 "release_move" ["sheet", "number", "channel", "how"] (spStep C 3 cRelease) := by
  refine F.ok sc_release_move (fun vs H Q E h => ?_) (fun f cdv A outer s H vs Q E hr h => ?_)
  · obtain ⟨sh, cs, ns, hl, rfl, _⟩ := h
    rw [List.length_cons, List.length_map, hl]
    rfl
  · obtain ⟨sh, cs, ns, hl, rfl, S, k⟩ := h
    obtain ⟨n, x, a, rfl⟩ := three hl
    have hu := hu_of hr
    have B1 := B1.mono (show 1 ≤ 4 by decide)
    have B2 := B2.mono (show 1 ≤ 4 by decide)
    have B4 := B4.mono (show 1 ≤ 4 by decide)
    have MO := MO.mono (show 1 ≤ 4 by decide)
    refine ⟨_, pss_cons (ps_if (pt_not (PW.pt (pw_and (pt_val (pe_fn B1 hr rfl (pa_cons (pv 1) pa_nil))) (pw_and (pt_val (pe_fn B2 hr rfl (pa_cons (pv 2) pa_nil))) (pw_and1 (pt_val (pe_fn B4 hr rfl (pa_cons (pv 3) pa_nil))))))))
        (pss_one (ps_ret (pe_const rfl T.imp))) pss_nil)
      (pss_cons (ps_if (pt_cmp (pc_dnotin hu (pv 1) (pv 0))) (pss_one (ps_ret (pe_const rfl T.noCue))) pss_nil)
      (pss_cons (ps_set (i := 4) sc_release_move.nd rfl (Or.inl rfl) (pe_fn MO hr rfl (pa_cons (pv 0) (pa_cons (pv 1) pa_nil))))
      (pss_cons (ps_if (pt_cmp (pc_dnotin hu (pv 2) (pv 4))) (pss_one (ps_ret (pe_const rfl T.notSo))) pss_nil)
      (pss_cons (ps_expr (pe_dpop1 (pv 4) (pv 2) ⟨rfl, rfl, rfl, rfl⟩))
      (pss_one (ps_ret (pe_fn ED hr rfl (pa_cons (pv 0) (pa_cons (pv 1) (pa_cons (pv 4) (pa_cons (pv 3) pa_nil))))))))))), ?_⟩
    have bad : ¬ ((1 ≤ n ∧ n ≤ 9999) ∧ (1 ≤ x ∧ x ≤ 64) ∧ a ≤ 1) → Q (.int (-1)) H := fun h => k H cs (-1) S (release_bad h) (KeepL.refl H)
    refine ⟨_, rfl, _, rfl, _, rfl, ?_⟩
    refine ite2 (fun h1 => ?_) (fun h1 => iteT (bad fun z => h1 (decide_eq_true (by omega))))
    refine ⟨_, rfl, _, rfl, _, rfl, ?_⟩
    refine ite2 (fun h2 => ?_) (fun h2 => iteT (bad fun z => h2 (decide_eq_true (by omega))))
    refine ⟨_, rfl, _, rfl, _, rfl, ?_⟩
    have h1 := of_decide_eq_true h1
    have h2 := of_decide_eq_true h2
    refine iteNot (fun h4 => bad fun z => of_decide_eq_false h4 (by omega)) (fun h4 => ?_)
    · have h4 : (0 : Int) ≤ (a : Int) ∧ (a : Int) ≤ 1 := of_decide_eq_true h4
      have ok : (1 ≤ n ∧ n ≤ 9999) ∧ (1 ≤ x ∧ x ≤ 64) ∧ a ≤ 1 := by omega
      have stp := release_go (S := shOf cs) ok
      refine ⟨_, rfl, _, rfl, sh, _, rfl, S.getO n, _, rfl, ?_⟩
      cases e : fnd cs n with
      | none =>
        refine iteT ?_
        rw [find_none_iff'.mpr e] at stp
        exact k H cs (-4) S stp (KeepL.refl H)
      | some c =>
        refine iteF ?_
        rw [find_shOf, e] at stp
        refine ⟨_, rfl, _, rfl, sh, cs, n, rfl, S, fun p d H1 hp s1 pd hd => ?_⟩
        have okm := okOr S n
        have ndd : (d.map (·.1)).Nodup := (pd.map (·.1)).nodup_iff.mpr okm.nd
        have ec : (cueOr (shOf cs) n).moves = c.ms := by rw [cueOr_some e]; rfl
        have emv : mv d x = mv c.ms x := by rw [mv_perm pd ndd, ec]
        refine ⟨_, rfl, _, rfl, p, _, rfl, dget_enc (x := x) hd rfl, _, rfl, ?_⟩
        cases e2 : mv d x with
        | none =>
          refine iteT ?_
          have stp' : Wqatdt.step (shOf cs) (.release n x a) = (shOf cs, Wqatdt.says (-3)) := by
            rw [stp]
            show (if mv c.ms x = none then _ else _) = _
            rw [if_pos (by rw [← emv]; exact e2)]
          exact k H1 cs (-3) (S.same s1) stp' (KeepL.of s1)
        | some l =>
          refine iteF ?_
          refine ⟨_, rfl, p, rfl, .inl ⟨_, .inl hd⟩, _, rfl, _, Sum.inl (x : Int), _, hd, rfl, (by rw [valV_enc, e2]; rfl), ?_⟩
          rw [dropK_enc]
          have s2 : Same H (upd H1 p (.dK (enc (ndrop d x)))) := fun b o e => by
            rw [upd_ne (ne_of_none e hp)]
            exact s1 b o e
          obtain ⟨nps, nM⟩ := fresh_m S hp
          refine ⟨_, rfl, _, rfl, _, rfl, _, rfl, sh, cs, n, V.ref p, _, a, rfl, S.same s2, Repl.put p (ndrop d x) ((cueOr (shOf cs) n).moves.filter fun m => m.1 != x) upd_same (drop_perm pd x) (okm.filter _) nps nM ok.1 (.inl (by rw [e]; simp)), fun H3 cs3 S3 e3 kl => ?_⟩
          refine k H3 cs3 _ S3 ?_ ((KeepL.of s2).trans kl)
          show Wqatdt.step (shOf cs) (.release n x a) = _
          rw [stp]
          show (if mv c.ms x = none then _ else _) = _
          rw [if_neg (by rw [← emv, e2]; simp), ← e3]
          rfl
theorem sc_delete_cue : FnScope ["sheet", "number", "how"] ["sheet", "number", "how"] (defScope s_delete_cue) := ⟨rfl, rfl, rfl, by decide +kernel, rfl, by decide +kernel, by decide +kernel⟩
theorem ok_delete_cue (F : Has K mg "delete_cue" s_delete_cue ["sheet", "number", "how"]) (T : Txt K mg C) (B1 : okB P w K mg base "is_number" "number" 1 9999)
    (B4 : okB P w K mg base "is_how" "how" 0 1) (ED : Ok P w K mg base 4 "edit" ["sheet", "number", "moves", "how"] (spEdit C)) :
    Ok P w K mg base 5 "delete_cue" ["sheet", "number", "how"] (spStep C 2 cDelete) := by
  refine F.ok sc_delete_cue (fun vs H Q E h => ?_) (fun f cdv A outer s H vs Q E hr h => ?_)
  · obtain ⟨sh, cs, ns, hl, rfl, _⟩ := h
    rw [List.length_cons, List.length_map, hl]
    rfl
  · obtain ⟨sh, cs, ns, hl, rfl, S, k⟩ := h
    obtain ⟨n, a, rfl⟩ := two hl
    have hu := hu_of hr
    have B1 := B1.mono (show 1 ≤ 4 by decide)
    have B4 := B4.mono (show 1 ≤ 4 by decide)
    refine ⟨_, pss_cons (ps_if (pt_not (PW.pt (pw_and (pt_val (pe_fn B1 hr rfl (pa_cons (pv 1) pa_nil))) (pw_and1 (pt_val (pe_fn B4 hr rfl (pa_cons (pv 2) pa_nil)))))))
        (pss_one (ps_ret (pe_const rfl T.imp))) pss_nil)
      (pss_cons (ps_if (pt_cmp (pc_dnotin hu (pv 1) (pv 0))) (pss_one (ps_ret (pe_const rfl T.noCue))) pss_nil)
      (pss_one (ps_ret (pe_fn ED hr rfl (pa_cons (pv 0) (pa_cons (pv 1) (pa_cons pe_non (pa_cons (pv 2) pa_nil)))))))), ?_⟩
    have bad : ¬ ((1 ≤ n ∧ n ≤ 9999) ∧ a ≤ 1) → Q (.int (-1)) H := fun h => k H cs (-1) S (delete_bad h) (KeepL.refl H)
    refine ⟨_, rfl, _, rfl, _, rfl, ?_⟩
    refine ite2 (fun h1 => ?_) (fun h1 => iteT (bad fun z => h1 (decide_eq_true (by omega))))
    refine ⟨_, rfl, _, rfl, _, rfl, ?_⟩
    have h1 := of_decide_eq_true h1
    refine iteNot (fun h4 => bad fun z => of_decide_eq_false h4 (by omega)) (fun h4 => ?_)
    · have h4 : (0 : Int) ≤ (a : Int) ∧ (a : Int) ≤ 1 := of_decide_eq_true h4
      have ok : (1 ≤ n ∧ n ≤ 9999) ∧ a ≤ 1 := by omega
      refine ⟨_, rfl, _, rfl, sh, _, rfl, S.getO n, _, rfl, ?_⟩
      cases e : fnd cs n with
      | none =>
        refine iteT ?_
        exact k H cs (-4) S (delete_none ok (find_none_iff'.mpr e)) (KeepL.refl H)
      | some c =>
        refine iteF ?_
        obtain ⟨mc, ec⟩ := (fnd_some S).mp e
        refine ⟨_, rfl, _, rfl, _, rfl, sh, cs, n, V.non, _, a, rfl, S, Repl.gone c mc ec, fun H3 cs3 S3 e3 kl => ?_⟩
        refine k H3 cs3 _ S3 ?_ kl
        show Wqatdt.step (shOf cs) (.delete n a) = _
        rw [delete_ok ok (fun z => by rw [find_none_iff'.mp z] at e; cases e), ← e3]
        rfl
theorem sc_copy_cue : FnScope ["sheet", "source", "to", "how", "moves"] ["sheet", "source", "to", "how"] (defScope s_copy_cue) := ⟨rfl, rfl, rfl, by decide +kernel, rfl, by decide +kernel, by decide +kernel⟩
theorem ok_copy_cue (F : Has K mg "copy_cue" s_copy_cue ["sheet", "source", "to", "how"]) (T : Txt K mg C) (B1 : okB P w K mg base "is_number" "number" 1 9999) (B4 : okB P w K mg base "is_how" "how" 0 1)
    (LR : Ok P w K mg base 1 "lacks_room" ["sheet", "number"] (spRoom C)) (MO : Ok P w K mg base 1 "moves_of" ["sheet", "number"] (spMoves C)) (LA : Ok P w K mg base 1 "look_at" ["sheet", "number"] (spLook C)) (AM : Ok P w K mg base 1 "add_moves" ["moves", "look", "wanted"] spAdd)
    (ED : Ok P w K mg base 4 "edit" ["sheet", "number", "moves", "how"] (spEdit C)) : Ok P w K mg base 5 "copy_cue" ["sheet", "source", "to", "how"] (spStep C 3 cCopy) := by
  refine F.ok sc_copy_cue (fun vs H Q E h => ?_) (fun f cdv A outer s H vs Q E hr h => ?_)
  · obtain ⟨sh, cs, ns, hl, rfl, _⟩ := h
    rw [List.length_cons, List.length_map, hl]
    rfl
  · obtain ⟨sh, cs, ns, hl, rfl, S, k⟩ := h
    obtain ⟨m, n, a, rfl⟩ := three hl
    have hu := hu_of hr
    have B1 := B1.mono (show 1 ≤ 4 by decide)
    have B4 := B4.mono (show 1 ≤ 4 by decide)
    have LR := LR.mono (show 1 ≤ 4 by decide)
    have MO := MO.mono (show 1 ≤ 4 by decide)
    have LA := LA.mono (show 1 ≤ 4 by decide)
    have AM := AM.mono (show 1 ≤ 4 by decide)
    refine ⟨_, pss_cons (ps_if (pt_not (PW.pt (pw_and (pt_val (pe_fn B1 hr rfl (pa_cons (pv 2) pa_nil))) (pw_and1 (pt_val (pe_fn B4 hr rfl (pa_cons (pv 3) pa_nil)))))))
        (pss_one (ps_ret (pe_const rfl T.imp))) pss_nil)
      (pss_cons (ps_if (pt_cmp (pc_dnotin hu (pv 1) (pv 0))) (pss_one (ps_ret (pe_const rfl T.noCue))) pss_nil)
      (pss_cons (ps_if (pt_val (pe_fn LR hr rfl (pa_cons (pv 0) (pa_cons (pv 2) pa_nil)))) (pss_one (ps_ret (pe_const rfl T.noRoom))) pss_nil)
      (pss_cons (ps_set (i := 4) sc_copy_cue.nd rfl (Or.inl rfl) (pe_fn MO hr rfl (pa_cons (pv 0) (pa_cons (pv 2) pa_nil))))
      (pss_cons (ps_expr (pe_fn AM hr rfl (pa_cons (pv 4) (pa_cons (pe_fn LA hr rfl (pa_cons (pv 0) (pa_cons (pv 2) pa_nil))) (pa_cons (pe_fn LA hr rfl (pa_cons (pv 0) (pa_cons (pv 1) pa_nil))) pa_nil)))))
      (pss_one (ps_ret (pe_fn ED hr rfl (pa_cons (pv 0) (pa_cons (pv 2) (pa_cons (pv 4) (pa_cons (pv 3) pa_nil))))))))))), ?_⟩
    have bad : ¬ ((1 ≤ n ∧ n ≤ 9999) ∧ a ≤ 1) → Q (.int (-1)) H := fun h => k H cs (-1) S (copy_bad h) (KeepL.refl H)
    refine ⟨_, rfl, _, rfl, _, rfl, ?_⟩
    refine ite2 (fun h1 => ?_) (fun h1 => iteT (bad fun z => h1 (decide_eq_true (by omega))))
    refine ⟨_, rfl, _, rfl, _, rfl, ?_⟩
    have h1 := of_decide_eq_true h1
    refine iteNot (fun h4 => bad fun z => of_decide_eq_false h4 (by omega)) (fun h4 => ?_)
    · have h4 : (0 : Int) ≤ (a : Int) ∧ (a : Int) ≤ 1 := of_decide_eq_true h4
      have ok : (1 ≤ n ∧ n ≤ 9999) ∧ a ≤ 1 := by omega
      refine ⟨_, rfl, _, rfl, sh, _, rfl, S.getO m, _, rfl, ?_⟩
      cases e : fnd cs m with
      | none =>
        refine iteT ?_
        exact k H cs (-4) S (copy_none ok (find_none_iff'.mpr e)) (KeepL.refl H)
      | some c =>
        refine iteF ?_
        have hq : Sg.find (shOf cs) m ≠ none := fun z => by rw [find_none_iff'.mp z] at e; cases e
        refine ⟨_, rfl, _, rfl, sh, cs, n, rfl, S, _, rfl, ?_⟩
        refine ite2 (fun h5 => ?_) (fun h5 => ?_)
        · exact k H cs (-5) S (copy_full ok hq (no_room h5)) (KeepL.refl H)
        · obtain ⟨rm, nf⟩ := has_room h5
          refine ⟨_, rfl, _, rfl, sh, cs, n, rfl, S, fun p d H1 hp s1 pd hd => ?_⟩
          have okm := okOr S n
          have S1 := S.same s1
          refine ⟨_, rfl, _, rfl, _, rfl, sh, cs, n, rfl, S1, fun p1 H2 hp1 s2 hl1 => ?_⟩
          refine ⟨_, rfl, _, rfl, sh, cs, m, rfl, S1.same s2, fun p2 H3 hp2 s3 hl2 => ?_⟩
          refine ⟨p, p1, p2, d, (cueOr (shOf cs) n).moves, lookUpTo (shOf cs) m, lookUpTo (shOf cs) n, rfl, s3 _ _ (s2 _ _ hd), pd, okm, s3 _ _ hl1, hl2, len_lookUpTo _ _, len_lookUpTo _ _, fun d' H4 pd' hm' kp => ?_⟩
          have s4 : Same H H4 := fun b o e => kp b o (s3 _ _ (s2 _ _ (s1 b o e))) (ne_of_none e hp)
          obtain ⟨nps, nM⟩ := fresh_m S hp
          refine ⟨_, rfl, _, rfl, _, rfl, _, rfl, sh, cs, n, V.ref p, _, a, rfl, S.same s4, Repl.put p d' _ hm' pd' (okm.held _ _ (Nat.le_refl 64)) nps nM ok.1 rm, fun H5 cs5 S5 e5 kl => ?_⟩
          refine k H5 cs5 _ S5 ?_ ((KeepL.of s4).trans kl)
          show Wqatdt.step (shOf cs) (.copy m n a) = _
          rw [copy_ok ok hq nf, ← e5]
          rfl
/-- the table dd, filled up from ms with the look k at the channels that are in A -/
structure Fill (ms : Ms) (k : Look) (A : Nat → Prop) (dd : Ms) : Prop where
  nd : (dd.map (·.1)).Nodup
  own : ∀ x l, mv ms x = some l → mv dd x = some l
  new : ∀ x, mv ms x = none → A x → mv dd x = some (k.getD (x - 1) 0)
  not : ∀ x, mv ms x = none → ¬ A x → mv dd x = none
  ch : ∀ m ∈ dd, 1 ≤ m.1 ∧ m.1 ≤ 64
theorem Fill.congr {ms : Ms} {k : Look} {A B : Nat → Prop} {dd : Ms} (h : Fill ms k A dd) (e : ∀ x, mv ms x = none → (A x ↔ B x)) : Fill ms k B dd :=
  ⟨h.nd, h.own, fun x h1 h2 => h.new x h1 ((e x h1).mpr h2), fun x h1 h2 => h.not x h1 fun z => h2 ((e x h1).mp z), h.ch⟩
theorem Fill.skip {ms : Ms} {k : Look} {A : Nat → Prop} {dd : Ms} (h : Fill ms k A dd) {x0 : Nat} {v : Nat} (e : mv dd x0 = some v) : Fill ms k (fun x => A x ∨ x = x0) dd :=
  h.congr fun x hx => ⟨.inl, fun z => z.elim id fun z => by
    subst z
    by_cases hA : A x
    · exact hA
    · rw [h.not x hx hA] at e
      cases e⟩
theorem Fill.add {ms : Ms} {k : Look} {A : Nat → Prop} {dd : Ms} (h : Fill ms k A dd) {x0 : Nat} (hc : 1 ≤ x0 ∧ x0 ≤ 64) (e : mv dd x0 = none) : Fill ms k (fun x => A x ∨ x = x0) (nput dd x0 (k.getD (x0 - 1) 0)) := by
  refine ⟨nd_nput h.nd _ _, fun x l hx => ?_, fun x hx hA => ?_, fun x hx hA => ?_, fun m hm => ?_⟩
  · rw [mv_nput]
    by_cases z : x = x0
    · subst z
      rw [h.own x l hx] at e
      cases e
    · rw [if_neg z]
      exact h.own x l hx
  · rw [mv_nput]
    by_cases z : x = x0
    · rw [if_pos z, z]
    · rw [if_neg z]
      exact h.new x hx (hA.resolve_right z)
  · rw [mv_nput, if_neg (fun z => hA (.inr z))]
    exact h.not x hx fun z => hA (.inl z)
  · have : (m.1, m.2) ∈ nput dd x0 (k.getD (x0 - 1) 0) := hm
    rw [← mv_some_iff (nd_nput h.nd _ _), mv_nput] at this
    by_cases z : m.1 = x0
    · rw [z]
      exact hc
    · rw [if_neg z] at this
      exact h.ch m ((mv_some_iff h.nd).mp this)
theorem len_nd : ∀ {l : List Nat} {b : Nat}, l.Nodup → (∀ x ∈ l, x < b) → l.length ≤ b := by
  intro l b
  induction b generalizing l with
  | zero =>
    intro _ h
    cases l with
    | nil => exact Nat.le_refl _
    | cons a r => exact absurd (h a List.mem_cons_self) (Nat.not_lt_zero _)
  | succ b ih =>
    intro nd h
    have h1 := ih (l := l.filter (fun x => x != b)) (nd.filter _) fun x hx => by
      have h2 := List.mem_filter.mp hx
      have h3 := h x h2.1
      have h4 : x ≠ b := by simpa using h2.2
      omega
    have h2 : l.length ≤ (l.filter (fun x => x != b)).length + 1 := by
      clear h h1 ih
      induction l with
      | nil => exact Nat.zero_le _
      | cons a r ih =>
        rw [List.nodup_cons] at nd
        have ih := ih nd.2
        rw [List.filter_cons]
        by_cases e : a = b
        · have e1 : (a != b) = false := by simp [e]
          rw [e1, if_neg (by simp), List.filter_eq_self.mpr (fun x hx => by
            have : x ≠ b := fun z => nd.1 (by rw [e, ← z]; exact hx)
            simp [this])]
          rw [List.length_cons]
          exact Nat.le_refl _
        · have e1 : (a != b) = true := by simp [e]
          rw [e1, if_pos rfl, List.length_cons, List.length_cons]
          omega
    omega
theorem Fill.len {ms : Ms} {k : Look} {A : Nat → Prop} {dd : Ms} (h : Fill ms k A dd) : dd.length ≤ 65 := by
  have := len_nd (b := 65) h.nd fun x hx => by
    obtain ⟨m, hm, rfl⟩ := List.mem_map.mp hx
    have := h.ch m hm
    omega
  rw [List.length_map] at this
  exact this
theorem Fill.done {ms : Ms} {k : Look} {dd : Ms} {s : Sheet} (ok : MsOk ms) (hs : ∀ c ∈ s, MsOk c.moves) (h : Fill ms k (fun x => ∃ c ∈ s, x ∈ c.moves.map (·.1)) dd) : dd.Perm (blkMs s k 64 ms) := by
  refine perm_of_mv h.nd (ok.blk s k (Nat.le_refl 64)).nd fun x => ?_
  rw [mv_blk ok s k x (Nat.le_refl 64)]
  cases e : mv ms x with
  | some l => exact h.own x l e
  | none =>
    show _ = if _ then _ else _
    by_cases hA : ∃ c ∈ s, x ∈ c.moves.map (·.1)
    · obtain ⟨c, hc, hx⟩ := hA
      obtain ⟨m, hm, rfl⟩ := List.mem_map.mp hx
      have hch := (hs c hc).chan m hm
      rw [if_pos ⟨hch.1, hch.2, moved_iff.mpr ⟨c, hc, hx⟩⟩]
      exact h.new _ e ⟨c, hc, hx⟩
    · rw [if_neg (fun z => hA (moved_iff.mp z.2.2))]
      exact h.not x e hA
theorem sc_block_cue : FnScope ["sheet", "number", "cue", "look", "other", "channel"] ["sheet", "number"] (defScope s_block_cue) := ⟨rfl, rfl, rfl, by decide +kernel, rfl, by decide +kernel, by decide +kernel⟩
theorem ok_block_cue (F : Has K mg "block_cue" s_block_cue ["sheet", "number"]) (T : Txt K mg C) (LA : Ok P w K mg base 1 "look_at" ["sheet", "number"] (spLook C)) : Ok P w K mg base 2 "block_cue" ["sheet", "number"] (spStep C 1 cBlock) := by
  refine F.ok sc_block_cue (fun vs H Q E h => ?_) (fun f cdv A outer s H vs Q E hr h => ?_)
  · obtain ⟨sh, cs, ns, hl, rfl, _⟩ := h
    rw [List.length_cons, List.length_map, hl]
    rfl
  · obtain ⟨sh, cs, ns, hl, rfl, S, k⟩ := h
    obtain ⟨n, rfl⟩ := one hl
    have hu := hu_of hr
    refine ⟨_, pss_cons (ps_if (pt_cmp (pc_dnotin hu (pv 1) (pv 0))) (pss_one (ps_ret (pe_const rfl T.noCue))) pss_nil)
      (pss_cons (ps_set (i := 2) sc_block_cue.nd rfl (Or.inl rfl) (pe_dget hu (pv 0) (pv 1) (fun _ _ => rfl)))
      (pss_cons (ps_set (i := 3) sc_block_cue.nd rfl (Or.inl rfl) (pe_fn LA hr rfl (pa_cons (pv 0) (pa_cons (pv 1) pa_nil))))
      (pss_cons (ps_for PassesOwn.never rfl (pi_list (pe_callB (call_sortedD rfl) (by rfl) T.sorted PyProof.Rows.boot_sorted (pa_cons (pv 0) pa_nil))) (pg_name (i := 4) sc_block_cue.nd rfl (Or.inl rfl))
        (pss_one (ps_for PassesOwn.never rfl (pi_list (pe_callTy (call_listD rfl) (by rfl) T.list PyProof.Rows.boot_list (pa_cons (pe_fld (pe_dget hu (pv 0) (pv 4) (fun _ _ => rfl)) rfl) pa_nil))) (pg_name (i := 5) sc_block_cue.nd rfl (Or.inl rfl))
          (pss_one (ps_expr (pe_dsetdef (pe_fld (pv 2) rfl) (pv 5) (pe_ix ix_list (pv 3) (pv 5) (fun _ _ => rfl)) ⟨rfl, rfl, rfl, rfl⟩))))))
      (pss_cons (ps_fld (pv 2) pe_bl rfl)
      (pss_one (ps_ret (pe_callB call_lenD (by rfl) T.len PySem.boot_len (pa_cons (pv 0) pa_nil)))))))), ?_⟩
    refine ⟨_, rfl, _, rfl, sh, _, rfl, S.getO n, _, rfl, ?_⟩
    cases e : fnd cs n with
    | none =>
      refine iteT ?_
      exact k H cs (-4) S (block_none (find_none_iff'.mpr e)) (KeepL.refl H)
    | some c =>
      refine iteF ?_
      obtain ⟨mc, ec⟩ := (fnd_some S).mp e
      subst ec
      obtain ⟨ks, pk, hsh⟩ := S.dc
      -- cue = sheet[number]; look = look_at(sheet, number)
      refine ⟨_, rfl, _, rfl, sh, _, rfl, S.get pk hsh mc, ?_⟩
      refine ⟨_, rfl, _, rfl, sh, cs, c.n, rfl, S, fun p H1 hp s1 hl1 => ?_⟩
      have S1 := S.same s1
      -- for other in sorted(sheet)
      refine ⟨_, rfl, sh, _, _, rfl, .inl (s1 _ _ hsh), keys_key ks, fun ns' q hpm hpw hq => ⟨q, rfl, ⟨_, SqL.of upd_same⟩, ?_⟩⟩
      have ens := nums_eq S.rise pk hpm hpw
      subst ens
      have s2 : Same H1 (upd H1 q (.lst ((cs.map fun c => (c.n : Int)).map V.int))) := fun b o e => by rw [upd_ne (ne_of_none e hq)]; exact e
      generalize hH2 : upd H1 q (.lst ((cs.map fun c => (c.n : Int)).map V.int)) = H2 at s2
      have h2q : H2 q = some (.lst ((cs.map fun c => (c.n : Int)).map V.int)) := by rw [← hH2]; exact upd_same
      have S2 := S1.same s2
      obtain ⟨⟨dx, h1⟩, ⟨d, pd, h2⟩⟩ := S2.cue c mc
      have hsh2 := s2 _ _ (s1 _ _ hsh)
      have hl2 := s2 _ _ hl1
      have ndd : (d.map (·.1)).Nodup := (pd.map (·.1)).nodup_iff.mpr (S.ok c mc).nd
      have lk := len_lookUpTo (shOf cs) c.n
      have eco : cueOr (shOf cs) c.n = c.cue := cueOr_some e
      have stp := block_ok (S := shOf cs) (n := c.n) (fun z => by rw [find_none_iff'.mp z] at e; cases e)
      rw [eco] at stp
      generalize lookUpTo (shOf cs) c.n = kk at hl1 hl2 lk stp
      have n1 : q ≠ c.m := ne_of h2q h2 (by intro z; cases z)
      have n2 : p ≠ c.m := ne_of hl2 h2 (by intro z; cases z)
      have n3 : sh ≠ c.m := Ne.symm (S.shM c mc)
      have n4 : c.a ≠ c.m := S.aM mc mc
      have F0 : Fill c.ms kk (fun x => ∃ c' ∈ shOf (cs.take 0), x ∈ c'.moves.map (·.1)) d :=
        ⟨ndd, fun x l h => by rw [mv_perm pd ndd]; exact h, fun x _ hA => (by obtain ⟨_, h, _⟩ := hA; cases h), fun x h _ => by rw [mv_perm pd ndd]; exact h, fun m hm => (S.ok c mc).chan m (pd.mem_iff.mp hm)⟩
      refine for_list (K := K) (a := q) (xs := (cs.map fun c => (c.n : Int)).map V.int) (fun i σ H' => ∃ (v4 v5 : Option V) (dd : Ms), σ = [some (.ref sh), some (.int (c.n : Int)), some (.ref c.a), some (.ref p), v4, v5] ∧
          Fill c.ms kk (fun x => ∃ c' ∈ shOf (cs.take i), x ∈ c'.moves.map (·.1)) dd ∧ H' c.m = some (.dK (enc dd)) ∧ ∀ b o, H2 b = some o → b ≠ c.m → H' b = some o)
        ⟨none, none, d, rfl, F0, h2, fun b o e _ => e⟩ (fun i σ H' _ ⟨_, _, _, _, _, _, kp⟩ => SqL.of (kp _ _ h2q n1)) ?_ ?_
      · rintro i y σ H' hi ⟨v4, v5, dd, rfl, FI, hm', kp⟩
        obtain ⟨z, hz, rfl⟩ := of_map_get hi
        obtain ⟨c', hc', rfl⟩ := of_map_get hz
        have mc' : c' ∈ cs := List.mem_of_getElem? hc'
        have et : shOf (cs.take (i + 1)) = shOf (cs.take i) ++ [c'.cue] := by
          rw [take_snoc hc']
          unfold shOf
          rw [List.map_append]
          rfl
        -- the dict that is walked
        obtain ⟨⟨dx', h1'⟩, ⟨d0', pd0', h20'⟩⟩ := S2.cue c' mc'
        obtain ⟨d', h2', hd'⟩ : ∃ d' : Ms, H' c'.m = some (.dK (enc d')) ∧ ((∀ m ∈ d', 1 ≤ m.1 ∧ m.1 ≤ 64) ∧ ∀ x, mv c.ms x = none → ((∃ c' ∈ shOf (cs.take i), x ∈ c'.moves.map (·.1)) ∨ x ∈ d'.map (·.1) ↔ ∃ c' ∈ shOf (cs.take (i + 1)), x ∈ c'.moves.map (·.1))) := by
          have snoc : ∀ x, (∃ c' ∈ shOf (cs.take (i + 1)), x ∈ c'.moves.map (·.1)) ↔ (∃ c' ∈ shOf (cs.take i), x ∈ c'.moves.map (·.1)) ∨ x ∈ c'.ms.map (·.1) := fun x => by
            rw [et]
            constructor
            · rintro ⟨y, hy, hx⟩
              rcases List.mem_append.mp hy with h | h
              · exact .inl ⟨y, h, hx⟩
              · have : y = c'.cue := by simpa using h
                subst this
                exact .inr hx
            · rintro (⟨y, hy, hx⟩ | hx)
              · exact ⟨y, List.mem_append_left _ hy, hx⟩
              · exact ⟨c'.cue, List.mem_append_right _ (by simp), hx⟩
          by_cases ecc : c' = c
          · subst ecc
            refine ⟨dd, hm', FI.ch, fun x hx => ?_⟩
            rw [snoc]
            constructor
            · rintro (h | h)
              · exact .inl h
              · by_cases hA : ∃ c' ∈ shOf (cs.take i), x ∈ c'.moves.map (·.1)
                · exact .inl hA
                · exact absurd h (mv_none_iff.mp (FI.not x hx hA))
            · rintro (h | h)
              · exact .inl h
              · exact absurd h (mv_none_iff.mp hx)
          · have nmm : c'.m ≠ c.m := fun z => ecc (S.ndM c' mc' c mc z)
            refine ⟨d0', kp _ _ h20' nmm, fun m hm => (S.ok c' mc').chan m (pd0'.mem_iff.mp hm), fun x hx => ?_⟩
            rw [snoc, (pd0'.map (·.1)).mem_iff]
        have ha' : H' c'.a = some (.ins C dx' (cf c'.m c'.b)) := kp _ _ h1' (S.aM mc' mc)
        refine ⟨_, rfl, _, rfl, sh, _, rfl, S.get pk (kp _ _ hsh2 n3) mc', c'.a, C, dx', _, _, rfl, ha', T.cl, T.nM, cf_moves _ _, c'.m, _, _, rfl, .inl h2', keys_enc d', fun q' hq' => ⟨q', rfl, ⟨_, SqL.of upd_same⟩, ?_⟩⟩
        have n5 : c.m ≠ q' := ne_of_none hm' hq'
        refine for_list (K := K) (a := q') (xs := (d'.map fun m => (m.1 : Int)).map V.int) (fun j σ H3 => ∃ (v5 : Option V) (dd : Ms), σ = [some (.ref sh), some (.int (c.n : Int)), some (.ref c.a), some (.ref p), some (.int (c'.n : Int)), v5] ∧
            Fill c.ms kk (fun x => (∃ c' ∈ shOf (cs.take i), x ∈ c'.moves.map (·.1)) ∨ x ∈ (d'.take j).map (·.1)) dd ∧ H3 c.m = some (.dK (enc dd)) ∧ H3 q' = some (.lst ((d'.map fun m => (m.1 : Int)).map V.int)) ∧ ∀ b o, H2 b = some o → b ≠ c.m → H3 b = some o)
          ⟨v5, dd, rfl, FI.congr fun x _ => by simp, by rw [upd_ne n5]; exact hm', upd_same, fun b o e hb => by rw [upd_ne (ne_of_none (kp b o e hb) hq')]; exact kp b o e hb⟩ (fun j σ H3 _ ⟨_, _, _, _, _, hq3, _⟩ => SqL.of hq3) ?_ ?_
        · rintro j y σ H3 hj ⟨v5, dd, rfl, FJ, hm3, hq3, kp3⟩
          obtain ⟨z, hz, rfl⟩ := of_map_get hj
          obtain ⟨m, hm, rfl⟩ := of_map_get hz
          have mm : m ∈ d' := List.mem_of_getElem? hm
          have hch := hd'.1 m mm
          have gk : atI (lookV kk) (m.1 : Int) = some (V.int (kk.getD (m.1 - 1) 0 : Nat)) := by
            refine at_of (j := m.1 - 1 + 1) (by omega) ?_
            exact lookV_get (by omega)
          have ca3 : H3 c.a = some (.ins C dx (cf c.m c.b)) := kp3 _ _ h1 n4
          have sn : ∀ x, ((∃ c' ∈ shOf (cs.take i), x ∈ c'.moves.map (·.1)) ∨ x ∈ (d'.take j).map (·.1)) ∨ x = m.1 ↔ (∃ c' ∈ shOf (cs.take i), x ∈ c'.moves.map (·.1)) ∨ x ∈ (d'.take (j + 1)).map (·.1) := fun x => by
            rw [take_snoc hm, List.map_append, List.mem_append, or_assoc]
            simp
          refine ⟨_, rfl, c.a, C, dx, _, _, rfl, ca3, T.cl, T.nM, cf_moves _ _, c.m, rfl, .inl ⟨_, .inl hm3⟩, _, rfl, _, rfl, _, rfl, p, _, _, _, rfl, rfl, SqL.of (kp3 _ _ hl2 n2), gk, _, Sum.inl (m.1 : Int), hm3, (by rw [len_enc]; exact small1000 (by have := FJ.len; omega)), rfl, fun v hv => ?_, fun hv => ?_⟩
          · rw [valV_enc] at hv
            obtain ⟨l, hl, _⟩ := Option.map_eq_some_iff.mp hv
            exact ⟨_, dd, rfl, (FJ.skip hl).congr fun x _ => sn x, hm3, hq3, kp3⟩
          · rw [valV_enc, Option.map_eq_none_iff] at hv
            rw [putK_enc]
            refine ⟨_, nput dd m.1 (kk.getD (m.1 - 1) 0), rfl, (FJ.add hch hv).congr fun x _ => sn x, upd_same, by rw [upd_ne (Ne.symm n5)]; exact hq3, fun b o e hb => by rw [upd_ne hb]; exact kp3 b o e hb⟩
        · rintro σ H3 ⟨v5, dd, rfl, FJ, hm3, hq3, kp3⟩
          rw [List.length_map, List.length_map, List.take_length] at FJ
          exact ⟨_, _, dd, rfl, FJ.congr hd'.2, hm3, kp3⟩
      · rintro σ H' ⟨v4, v5, dd, rfl, FI, hm', kp⟩
        rw [List.length_map, List.length_map, List.take_length] at FI
        have pf := FI.done (S.ok c mc) (fun y hy => by obtain ⟨c1, h, rfl⟩ := List.mem_map.mp hy; exact S.ok c1 h)
        have ca : H' c.a = some (.ins C dx (cf c.m c.b)) := kp _ _ h1 n4
        refine ⟨_, rfl, c.a, C, dx, _, rfl, ca, T.cl, T.nB, cf_len _ _, ?_⟩
        have S3 : SheetAt C (upd H' c.a (.ins C dx (putF "blocked" (.bl true) (cf c.m c.b)))) sh (chg cs c.n true (blkMs (shOf cs) kk 64 c.ms)) :=
          S2.chg mc pf ((S.ok c mc).blk _ _ (Nat.le_refl 64)) ⟨dx, by rw [upd_same, cf_putB]⟩ (by rw [upd_ne (Ne.symm n4)]; exact hm') fun b o e hb hb2 => by rw [upd_ne hb]; exact kp b o e hb2
        obtain ⟨ks3, pk3, hsh3⟩ := S3.dc
        refine ⟨_, rfl, sh, _, rfl, hsh3, ?_⟩
        rw [S3.count pk3]
        refine k _ _ _ S3 ?_ ⟨fun b xs z => ?_, fun b o u z => ?_⟩
        · show Wqatdt.step (shOf cs) (.block c.n) = _
          rw [stp, shOf_chg S2 mc]
          rfl
        · have z2 := s2 _ _ (s1 _ _ z)
          rw [upd_ne (ne_of z2 h1 (by intro z; cases z))]
          exact kp b _ z2 (ne_of z2 h2 (by intro z; cases z))
        · have z2 := s2 _ _ (s1 _ _ z)
          rw [upd_ne (ne_of z2 h1 (by intro z; cases z))]
          exact kp b _ z2 (ne_of z2 h2 (by intro z; cases z))
theorem look_blocks : ∀ {S S' : Sheet}, S.map (fun c => (c.number, c.moves)) = S'.map (fun c => (c.number, c.moves)) → ∀ n, lookUpTo S n = lookUpTo S' n := by
  intro S S' h n
  have key : ∀ (S : Sheet) (k : Look), S.foldl (fun (a : Look) (c : Cue) => if c.number ≤ n then c.on a else a) k = (S.map fun c => (c.number, c.moves)).foldl (fun (a : Look) (c : Nat × Ms) => if c.1 ≤ n then onMs a c.2 else a) k := by
    intro S
    induction S with
    | nil => intro k; rfl
    | cons c r ih =>
      intro k
      rw [List.foldl_cons, List.map_cons, List.foldl_cons, ih]
      rfl
  unfold lookUpTo
  rw [key, key, h]
theorem chg_nm {cs : List PC} {c : PC} {H : Hp} {sh : Addr} (S : SheetAt C H sh cs) (hc : c ∈ cs) (b : Bool) : (shOf (chg cs c.n b c.ms)).map (fun c => (c.number, c.moves)) = (shOf cs).map (fun c => (c.number, c.moves)) := by
  unfold shOf chg
  rw [List.map_map, List.map_map, List.map_map]
  apply List.map_congr_left
  intro x hx
  show ((PC.cue (if x.n = c.n then _ else x)).number, (PC.cue (if x.n = c.n then _ else x)).moves) = _
  by_cases e : x.n = c.n
  · have := S.inj hx hc e
    subst this
    rw [if_pos rfl]
    rfl
  · rw [if_neg e]
    rfl
theorem sc_unblock_cue : FnScope ["sheet", "number", "cue"] ["sheet", "number"] (defScope s_unblock_cue) := ⟨rfl, rfl, rfl, by decide +kernel, rfl, by decide +kernel, by decide +kernel⟩
theorem ok_unblock_cue (F : Has K mg "unblock_cue" s_unblock_cue ["sheet", "number"]) (T : Txt K mg C) (DN : Ok P w K mg base 3 "drop_needless" ["sheet", "number"] (spDrop C)) : Ok P w K mg base 4 "unblock_cue" ["sheet", "number"] (spStep C 1 cUnblock) := by
  refine F.ok sc_unblock_cue (fun vs H Q E h => ?_) (fun f cdv A outer s H vs Q E hr h => ?_)
  · obtain ⟨sh, cs, ns, hl, rfl, _⟩ := h
    rw [List.length_cons, List.length_map, hl]
    rfl
  · obtain ⟨sh, cs, ns, hl, rfl, S, k⟩ := h
    obtain ⟨n, rfl⟩ := one hl
    have hu := hu_of hr
    refine ⟨_, pss_cons (ps_if (pt_cmp (pc_dnotin hu (pv 1) (pv 0))) (pss_one (ps_ret (pe_const rfl T.noCue))) pss_nil)
      (pss_cons (ps_set (i := 2) sc_unblock_cue.nd rfl (Or.inl rfl) (pe_dget hu (pv 0) (pv 1) (fun _ _ => rfl)))
      (pss_cons (ps_if (pt_not (pt_val (pe_fld (pv 2) rfl))) (pss_one (ps_ret (pe_const rfl T.notSo))) pss_nil)
      (pss_cons (ps_fld (pv 2) pe_bl rfl)
      (pss_cons (ps_expr (pe_fn DN hr rfl (pa_cons (pv 0) (pa_cons (pv 1) pa_nil))))
      (pss_one (ps_ret (pe_callB call_lenD (by rfl) T.len PySem.boot_len (pa_cons (pv 0) pa_nil)))))))), ?_⟩
    refine ⟨_, rfl, _, rfl, sh, _, rfl, S.getO n, _, rfl, ?_⟩
    cases e : fnd cs n with
    | none =>
      refine iteT ?_
      exact k H cs (-4) S (unblock_none (find_none_iff'.mpr e)) (KeepL.refl H)
    | some c =>
      refine iteF ?_
      obtain ⟨mc, ec⟩ := (fnd_some S).mp e
      subst ec
      obtain ⟨ks, pk, hsh⟩ := S.dc
      obtain ⟨⟨dx, h1⟩, ⟨d, pd, h2⟩⟩ := S.cue c mc
      have ef : Sg.find (shOf cs) c.n = some c.cue := by rw [find_shOf, e]; rfl
      refine ⟨_, rfl, _, rfl, sh, _, rfl, S.get pk hsh mc, ?_⟩
      refine ⟨_, rfl, c.a, C, dx, _, _, rfl, h1, T.cl, T.nB, cf_blocked _ _, _, rfl, ?_⟩
      cases eb : c.b with
      | false =>
        refine iteT ?_
        exact k H cs (-3) S (unblock_not ef eb) (KeepL.refl H)
      | true =>
        refine iteF ?_
        refine ⟨_, rfl, c.a, C, dx, _, rfl, h1, T.cl, T.nB, cf_len _ _, ?_⟩
        have n4 : c.a ≠ c.m := S.aM mc mc
        have S2 : SheetAt C (upd H c.a (.ins C dx (putF "blocked" (.bl false) (cf c.m c.b)))) sh (chg cs c.n false c.ms) :=
          S.chg mc pd (S.ok c mc) ⟨dx, by rw [upd_same, cf_putB]⟩ (by rw [upd_ne (Ne.symm n4)]; exact h2) fun b o e hb _ => by rw [upd_ne hb]; exact e
        have mc2 : ({ c with b := false } : PC) ∈ chg cs c.n false c.ms := List.mem_map.mpr ⟨c, mc, by rw [if_pos rfl]⟩
        have elk : lookBefore (shOf (chg cs c.n false c.ms)) c.n = lookBefore (shOf cs) c.n := by
          rw [lookBefore_eq _ (S.num c mc).1, lookBefore_eq _ (S.num c mc).1, look_blocks (chg_nm S mc false)]
        refine ⟨_, rfl, _, rfl, sh, chg cs c.n false c.ms, { c with b := false }, rfl, mc2, S2, fun d' H3 pd' hm' kp => ?_⟩
        have pd2 : d'.Perm (c.ms.filter fun m => (lookBefore (shOf cs) c.n).of m.1 != m.2) := by
          rw [← elk]
          exact pd'
        have ha3 : H3 c.a = some (.ins C dx (cf c.m false)) := kp _ _ (by rw [upd_same, cf_putB]) n4
        have S3 : SheetAt C H3 sh (chg cs c.n false (c.ms.filter fun m => (lookBefore (shOf cs) c.n).of m.1 != m.2)) :=
          S.chg mc pd2 ((S.ok c mc).filter _) ⟨dx, ha3⟩ hm' fun b o e hb hb2 => kp b o (by rw [upd_ne hb]; exact e) hb2
        obtain ⟨ks3, pk3, hsh3⟩ := S3.dc
        refine ⟨_, rfl, sh, _, rfl, hsh3, ?_⟩
        rw [S3.count pk3]
        refine k _ _ _ S3 ?_ ⟨fun b xs z => ?_, fun b o u z => ?_⟩
        · show Wqatdt.step (shOf cs) (.unblock c.n) = _
          rw [unblock_ok ef eb, shOf_chg S mc]
          rfl
        · exact kp b _ (by rw [upd_ne (ne_of z h1 (by intro z; cases z))]; exact z) (ne_of z h2 (by intro z; cases z))
        · exact kp b _ (by rw [upd_ne (ne_of z h1 (by intro z; cases z))]; exact z) (ne_of z h2 (by intro z; cases z))
def ansL (r : Wqatdt.Ans) : List Int := r.ret :: r.nums.map WqatdtNeutral.int
def tell (n : Int) (l : List Nat) : List V := (ansL ⟨n, l⟩).map V.int
def nV (ns : List Nat) : List V := ns.map fun n : Nat => V.int (n : Int)
theorem tell_app (n : Int) (l l' : List Nat) : tell n l ++ nV l' = tell n (l ++ l') := by
  unfold tell ansL nV
  rw [List.map_append, List.map_cons, List.map_cons, List.cons_append, List.map_append, List.map_map (l := l')]
  rfl
theorem len_tell (n : Int) (l : List Nat) : (tell n l).length = l.length + 1 := by simp [tell, ansL]
theorem len_flat {α : Type} {f : α → List Nat} {k : Nat} (h : ∀ a, (f a).length = k) : ∀ l : List α, (l.flatMap f).length = k * l.length
  | [] => rfl
  | a :: l => by
    rw [List.flatMap_cons, List.length_append, len_flat h l, h, List.length_cons, Nat.mul_succ, Nat.add_comm]
theorem flat_snoc {α : Type} (f : α → List Nat) (l : List α) (a : α) : (l ++ [a]).flatMap f = l.flatMap f ++ f a := by
  rw [List.flatMap_append, List.flatMap_cons, List.flatMap_nil, List.append_nil]
/-- what each call that only asks promises -/
def Asks (H : Hp) (cs : List PC) (call : Wqatdt.Call) (Q : VK) : Prop :=
  ∀ (q : Addr) (r : Wqatdt.Ans) (H' : Hp), H q = none → Same H H' → Wqatdt.step (shOf cs) call = (shOf cs, r) → (ansL r).length ≤ 200 → H' q = some (.lst ((ansL r).map V.int)) → Q (.ref q) H'
def spAsk (C : Addr) (ar : Nat) (call : List Nat → Wqatdt.Call) : Sp := fun vs H Q _ => ∃ (sh : Addr) (cs : List PC) (ns : List Nat), ns.length = ar ∧ vs = .ref sh :: nV ns ∧ SheetAt C H sh cs ∧ Asks H cs (call ns) Q
theorem ask_len {ar : Nat} {call : List Nat → Wqatdt.Call} {vs : List V} {H : Hp} {Q : VK} {E : XK} (h : spAsk C ar call vs H Q E) : vs.length = ar + 1 := by
  obtain ⟨sh, cs, ns, hl, rfl, _⟩ := h
  rw [List.length_cons, nV, List.length_map, hl]
theorem Same.new {H : Hp} {p : Addr} {o : HO} (h : H p = none) : Same H (upd H p o) := fun b o' e => by
  rw [upd_ne (ne_of_none e h)]
  exact e
theorem told_one {H : Hp} {Q : VK} {cs : List PC} {call : Wqatdt.Call} {z : Int} (k : Asks H cs call Q) (e : Wqatdt.step (shOf cs) call = (shOf cs, Wqatdt.says z)) : [V.int z].length ≤ sizeLine ∧ ∀ q, H q = none → Q (.ref q) (upd H q (.lst [V.int z])) :=
  ⟨(by show 1 ≤ sizeLine; decide), fun q hq => k q (Wqatdt.says z) _ hq (Same.new hq) e (by show 1 ≤ 200; decide) upd_same⟩
/-- the told list grown by some numbers, which stood in a list of their own -/
structure Told (H0 : Hp) (p : Addr) (H : Hp) (xs : List V) : Prop where
  l : H p = some (.lst xs)
  kp : ∀ b o, H0 b = some o → b ≠ p → H b = some o
theorem Told.more {H0 H : Hp} {p l : Addr} {n : Int} {xs ys : List Nat} (t : Told H0 p H (tell n xs)) (hl : H l = none) : Told H0 p (upd (upd H l (.lst (nV ys))) p (.lst (tell n xs ++ nV ys))) (tell n (xs ++ ys)) := by
  refine ⟨by rw [upd_same, tell_app], fun b o e hb => ?_⟩
  rw [upd_ne hb, upd_ne (ne_of_none (t.kp b o e hb) hl)]
  exact t.kp b o e hb
theorem sc_told_cues : FnScope ["sheet", "told", "number"] ["sheet"] (defScope s_told_cues) := ⟨rfl, rfl, rfl, by decide +kernel, rfl, by decide +kernel, by decide +kernel⟩
theorem ok_told_cues (F : Has K mg "told_cues" s_told_cues ["sheet"]) (T : Txt K mg C) : Ok P w K mg base 1 "told_cues" ["sheet"] (spAsk C 0 fun _ => .cues) := by
  refine F.ok sc_told_cues (fun vs H Q E h => ask_len h) (fun f cdv A outer s H vs Q E hr h => ?_)
  obtain ⟨sh, cs, ns, hl, rfl, S, k⟩ := h
  obtain rfl := List.eq_nil_of_length_eq_zero hl
  have hu := hu_of hr
  obtain ⟨ks, pk, hsh⟩ := S.dc
  refine ⟨_, pss_cons (ps_set (i := 1) sc_told_cues.nd rfl (Or.inl rfl) (pe_lst (pa_cons (pe_callB call_lenD (by rfl) T.len PySem.boot_len (pa_cons (pv 0) pa_nil)) pa_nil)))
    (pss_cons (ps_for PassesOwn.never rfl (pi_list (pe_callB (call_sortedD rfl) (by rfl) T.sorted PyProof.Rows.boot_sorted (pa_cons (pv 0) pa_nil))) (pg_name (i := 2) sc_told_cues.nd rfl (Or.inl rfl))
      (pss_one (ps_expr (pe_bm PySem.F.plainAttrs_list PySem.F.slot_list_extend PySem.F.type_list_extend mt_extend (pv 1) (pa_cons (pe_lst (pa_cons (pv 2) (pa_cons (pe_ifExp (pt_val (pe_fld (pe_dget hu (pv 0) (pv 2) (fun _ _ => rfl)) rfl)) pe_int pe_int) pa_nil))) pa_nil)))))
    (pss_one (ps_ret (pv 1)))), ?_⟩
  -- told = [len(sheet)]
  refine ⟨_, rfl, sh, _, rfl, hsh, (by show 1 ≤ sizeLine; decide), fun p hp => ?_⟩
  rw [S.count pk]
  have s1 : Same H (upd H p (.lst [V.int ((shOf cs).length : Nat)])) := Same.new hp
  -- for number in sorted(sheet)
  refine ⟨_, rfl, sh, _, _, rfl, .inl (s1 _ _ hsh), keys_key ks, fun ns q hpm hpw hq => ⟨q, rfl, ⟨_, SqL.of upd_same⟩, ?_⟩⟩
  have ens := nums_eq S.rise pk hpm hpw
  subst ens
  have npq : p ≠ q := ne_of_none upd_same hq
  generalize hH2 : upd (upd H p (.lst [V.int ((shOf cs).length : Nat)])) q (.lst ((cs.map fun c => (c.n : Int)).map V.int)) = H2
  have s2 : Same H H2 := by
    rw [← hH2]
    exact s1.trans (Same.new hq)
  have h2p : H2 p = some (.lst (tell ((shOf cs).length : Nat) ((shOf (cs.take 0)).flatMap fun (c : Cue) => [c.number, c.block.toNat]))) := by
    rw [← hH2, upd_ne npq, upd_same]
    rfl
  have h2q : H2 q = some (.lst ((cs.map fun c => (c.n : Int)).map V.int)) := by
    rw [← hH2, upd_same]
  have S2 := S.same s2
  refine for_list (K := K) (a := q) (xs := (cs.map fun c => (c.n : Int)).map V.int) (fun i σ H' => ∃ v : Option V, σ = [some (.ref sh), some (.ref p), v] ∧
      Told H2 p H' (tell ((shOf cs).length : Nat) ((shOf (cs.take i)).flatMap fun (c : Cue) => [c.number, c.block.toNat])))
    ⟨none, rfl, h2p, fun b o e _ => e⟩ (fun i σ H' _ ⟨_, _, t⟩ => SqL.of (t.kp _ _ h2q (Ne.symm npq))) ?_ ?_
  · rintro i y σ H' hi ⟨v, rfl, t⟩
    obtain ⟨z, hz, rfl⟩ := of_map_get hi
    obtain ⟨c, hc, rfl⟩ := of_map_get hz
    have mc : c ∈ cs := List.mem_of_getElem? hc
    have et : (shOf (cs.take (i + 1))).flatMap (fun (c : Cue) => [c.number, c.block.toNat]) = (shOf (cs.take i)).flatMap (fun (c : Cue) => [c.number, c.block.toNat]) ++ [c.n, c.b.toNat] := by
      rw [take_snoc hc, shOf, List.map_append]
      exact flat_snoc _ _ _
    obtain ⟨⟨dx, h1⟩, _⟩ := S2.cue c mc
    have nap : c.a ≠ p := ne_of h1 h2p (by intro z; cases z)
    have nsp : sh ≠ p := ne_of (s2 _ _ hsh) h2p (by intro z; cases z)
    have hfew : i < cs.length := (List.getElem?_eq_some_iff.mp hc).1
    have hsz : (tell ((shOf cs).length : Nat) ((shOf (cs.take i)).flatMap fun (c : Cue) => [c.number, c.block.toNat])).length + 2 ≤ sizeLine := by
      rw [len_tell, len_flat (k := 2) fun _ => rfl, len_shOf, List.length_take]
      exact Nat.le_trans (show _ ≤ 1000 by have := S.len; omega) (by decide)
    have nxt : ∀ l, H' l = none → Told H2 p (upd (upd H' l (.lst [V.int (c.n : Int), V.int (c.b.toNat : Nat)])) p (.lst (tell ((shOf cs).length : Nat) ((shOf (cs.take i)).flatMap fun (c : Cue) => [c.number, c.block.toNat]) ++ [V.int (c.n : Int), V.int (c.b.toNat : Nat)]))) (tell ((shOf cs).length : Nat) ((shOf (cs.take (i + 1))).flatMap fun (c : Cue) => [c.number, c.block.toNat])) := fun l hl => by
      rw [et]
      exact t.more (ys := [c.n, c.b.toNat]) hl
    refine ⟨_, rfl, .inl ⟨rfl, _, SqL.of t.l⟩, _, rfl, _, rfl, _, rfl, sh, _, rfl, S.get pk (t.kp _ _ (s2 _ _ hsh) nsp) mc, c.a, C, dx, _, _, rfl, t.kp _ _ h1 nap, T.cl, T.nB, cf_blocked _ _, _, rfl, ?_⟩
    cases eb : c.b with
    | true =>
      rw [eb] at nxt
      refine iteT ?_
      refine ⟨(by show 2 ≤ sizeLine; decide), fun l hl => ⟨p, l, _, _, rfl, rfl, (by rw [upd_ne (ne_of_none t.l hl)]; exact t.l), upd_same, hsz, ?_⟩⟩
      exact ⟨_, rfl, nxt l hl⟩
    | false =>
      rw [eb] at nxt
      refine iteF ?_
      refine ⟨(by show 2 ≤ sizeLine; decide), fun l hl => ⟨p, l, _, _, rfl, rfl, (by rw [upd_ne (ne_of_none t.l hl)]; exact t.l), upd_same, hsz, ?_⟩⟩
      exact ⟨_, rfl, nxt l hl⟩
  · rintro σ H' ⟨v, rfl, t⟩
    rw [List.length_map, List.length_map, List.take_length] at t
    refine ⟨_, rfl, k p (Wqatdt.tells ((shOf cs).length : Nat) ((shOf cs).flatMap fun (c : Cue) => [c.number, c.block.toNat])) H' hp (fun b o e => t.kp b o (s2 b o e) (ne_of_none e hp)) cues_ok ?_ t.l⟩
    show (_ :: List.map _ _).length ≤ 200
    rw [List.length_cons, List.length_map]
    show (List.flatMap _ _).length + 1 ≤ 200
    rw [len_flat (k := 2) fun _ => rfl, len_shOf]
    have := S.len
    omega
theorem chans_eq {d ms : Ms} {ns : List Int} (ok : MsOk ms) (p : d.Perm ms) (q : ns.Perm (d.map fun m => (m.1 : Int))) (s : ns.Pairwise (· ≤ ·)) : ns = ms.map fun m => (m.1 : Int) := by
  refine PySem.W.ksm_same (q.trans (p.map _)) s ?_
  rw [List.pairwise_map]
  exact ok.rise.imp fun {x y} h => by
    show (x.1 : Int) ≤ (y.1 : Int)
    omega
theorem sc_told_moves : FnScope ["sheet", "number", "moves", "told", "channel"] ["sheet", "number"] (defScope s_told_moves) := ⟨rfl, rfl, rfl, by decide +kernel, rfl, by decide +kernel, by decide +kernel⟩
def cMoves : List Nat → Wqatdt.Call
  | [n] => .moves n
  | _ => .clean
theorem ok_told_moves (F : Has K mg "told_moves" s_told_moves ["sheet", "number"]) (T : Txt K mg C) : Ok P w K mg base 1 "told_moves" ["sheet", "number"] (spAsk C 1 cMoves) := by
  refine F.ok sc_told_moves (fun vs H Q E h => ask_len h) (fun f cdv A outer s H vs Q E hr h => ?_)
  obtain ⟨sh, cs, ns, hl, rfl, S, k⟩ := h
  obtain ⟨n, rfl⟩ := one hl
  have hu := hu_of hr
  obtain ⟨ks, pk, hsh⟩ := S.dc
  refine ⟨_, pss_cons (ps_if (pt_cmp (pc_dnotin hu (pv 1) (pv 0))) (pss_one (ps_ret (pe_lst (pa_cons (pe_const rfl T.noCue) pa_nil)))) pss_nil)
    (pss_cons (ps_set (i := 2) sc_told_moves.nd rfl (Or.inl rfl) (pe_fld (pe_dget hu (pv 0) (pv 1) (fun _ _ => rfl)) rfl))
    (pss_cons (ps_set (i := 3) sc_told_moves.nd rfl (Or.inl rfl) (pe_lst (pa_cons (pe_callB call_lenD (by rfl) T.len PySem.boot_len (pa_cons (pv 2) pa_nil)) pa_nil)))
    (pss_cons (ps_for PassesOwn.never rfl (pi_list (pe_callB (call_sortedD rfl) (by rfl) T.sorted PyProof.Rows.boot_sorted (pa_cons (pv 2) pa_nil))) (pg_name (i := 4) sc_told_moves.nd rfl (Or.inl rfl))
      (pss_one (ps_expr (pe_bm PySem.F.plainAttrs_list PySem.F.slot_list_extend PySem.F.type_list_extend mt_extend (pv 3) (pa_cons (pe_lst (pa_cons (pv 4) (pa_cons (pe_dget hu (pv 2) (pv 4) (fun _ _ => rfl)) pa_nil))) pa_nil)))))
    (pss_one (ps_ret (pv 3)))))), ?_⟩
  refine ⟨_, rfl, _, rfl, sh, _, rfl, S.getO n, _, rfl, ?_⟩
  cases e : fnd cs n with
  | none =>
    refine iteT ?_
    exact told_one k (moves_none (find_none_iff'.mpr e))
  | some c =>
    refine iteF ?_
    obtain ⟨mc, ec⟩ := (fnd_some S).mp e
    subst ec
    obtain ⟨⟨dx, h1⟩, ⟨d, pd, h2⟩⟩ := S.cue c mc
    have ef : Sg.find (shOf cs) c.n = some c.cue := by rw [find_shOf, e]; rfl
    have okm := S.ok c mc
    refine ⟨_, rfl, _, rfl, sh, _, rfl, S.get pk hsh mc, c.a, C, dx, _, _, rfl, h1, T.cl, T.nM, cf_moves _ _, ?_⟩
    -- told = [len(moves)]
    refine ⟨_, rfl, c.m, _, rfl, h2, (by show 1 ≤ sizeLine; decide), fun p hp => ?_⟩
    have el : (enc d).length = c.ms.length := by rw [len_enc, pd.length_eq]
    rw [el]
    have s1 : Same H (upd H p (.lst [V.int (c.ms.length : Nat)])) := Same.new hp
    -- for channel in sorted(moves)
    refine ⟨_, rfl, c.m, _, _, rfl, .inl (s1 _ _ h2), keys_enc d, fun ns q hpm hpw hq => ⟨q, rfl, ⟨_, SqL.of upd_same⟩, ?_⟩⟩
    have ens := chans_eq okm pd hpm hpw
    subst ens
    have npq : p ≠ q := ne_of_none upd_same hq
    generalize hH2 : upd (upd H p (.lst [V.int (c.ms.length : Nat)])) q (.lst ((c.ms.map fun m => (m.1 : Int)).map V.int)) = H2
    have s2 : Same H H2 := by
      rw [← hH2]
      exact s1.trans (Same.new hq)
    have h2p : H2 p = some (.lst (tell (c.ms.length : Nat) ((c.ms.take 0).flatMap fun (m : Nat × Nat) => [m.1, m.2]))) := by
      rw [← hH2, upd_ne npq, upd_same]
      rfl
    have h2q : H2 q = some (.lst ((c.ms.map fun m => (m.1 : Int)).map V.int)) := by
      rw [← hH2, upd_same]
    refine for_list (K := K) (a := q) (xs := (c.ms.map fun m => (m.1 : Int)).map V.int) (fun i σ H' => ∃ v : Option V, σ = [some (.ref sh), some (.int (c.n : Int)), some (.ref c.m), some (.ref p), v] ∧
        Told H2 p H' (tell (c.ms.length : Nat) ((c.ms.take i).flatMap fun (m : Nat × Nat) => [m.1, m.2])))
      ⟨none, rfl, h2p, fun b o e _ => e⟩ (fun i σ H' _ ⟨_, _, t⟩ => SqL.of (t.kp _ _ h2q (Ne.symm npq))) ?_ ?_
    · rintro i y σ H' hi ⟨v, rfl, t⟩
      obtain ⟨z, hz, rfl⟩ := of_map_get hi
      obtain ⟨m, hm, rfl⟩ := of_map_get hz
      have mm : m ∈ c.ms := List.mem_of_getElem? hm
      have et : (c.ms.take (i + 1)).flatMap (fun (m : Nat × Nat) => [m.1, m.2]) = (c.ms.take i).flatMap (fun (m : Nat × Nat) => [m.1, m.2]) ++ [m.1, m.2] := by
        rw [take_snoc hm]
        exact flat_snoc _ _ _
      have nmp : c.m ≠ p := ne_of_none h2 hp
      have ndd : (d.map (·.1)).Nodup := (pd.map (·.1)).nodup_iff.mpr okm.nd
      have ev : mv d m.1 = some m.2 := (mv_some_iff ndd).mpr (pd.mem_iff.mpr mm)
      have g := dget_enc (x := m.1) (t.kp _ _ (s2 _ _ h2) nmp) rfl
      rw [ev] at g
      have hsz : (tell (c.ms.length : Nat) ((c.ms.take i).flatMap fun (m : Nat × Nat) => [m.1, m.2])).length + 2 ≤ sizeLine := by
        rw [len_tell, len_flat (k := 2) fun _ => rfl, List.length_take]
        exact Nat.le_trans (show _ ≤ 1000 by have := okm.len; omega) (by decide)
      refine ⟨_, rfl, .inl ⟨rfl, _, SqL.of t.l⟩, _, rfl, _, rfl, _, rfl, c.m, _, rfl, g, ?_⟩
      refine ⟨(by show 2 ≤ sizeLine; decide), fun l hl => ⟨p, l, _, _, rfl, rfl, (by rw [upd_ne (ne_of_none t.l hl)]; exact t.l), upd_same, hsz, ?_⟩⟩
      refine ⟨_, rfl, ?_⟩
      rw [et]
      exact t.more (ys := [m.1, m.2]) hl
    · rintro σ H' ⟨v, rfl, t⟩
      rw [List.length_map, List.length_map, List.take_length] at t
      refine ⟨_, rfl, k p (Wqatdt.tells (c.ms.length : Nat) (c.ms.flatMap fun (m : Nat × Nat) => [m.1, m.2])) H' hp (fun b o e => t.kp b o (s2 b o e) (ne_of_none e hp)) (moves_ok ef) ?_ t.l⟩
      show (_ :: List.map _ _).length ≤ 200
      rw [List.length_cons, List.length_map]
      show (List.flatMap _ _).length + 1 ≤ 200
      rw [len_flat (k := 2) fun _ => rfl]
      have := okm.len
      omega
def cLook : List Nat → Wqatdt.Call
  | [n] => .look n
  | _ => .clean
theorem sc_told_look : FnScope ["sheet", "number"] ["sheet", "number"] (defScope s_told_look) := ⟨rfl, rfl, rfl, by decide +kernel, rfl, by decide +kernel, by decide +kernel⟩
theorem cut_look (k : Look) : cutV (lookV k) (some 1) none = nV k := by
  unfold cutV
  rw [show HT.sIx (lookV k).length 0 (some 1) = min 1 (lookV k).length from HT.sIx_nat _ 0 1, HT.sIx_none, len_lookV, Nat.min_eq_left (by omega)]
  show ((lookV k).drop 1).take _ = _
  rw [List.take_of_length_le]
  · rfl
  · rw [List.length_drop, len_lookV]
    omega
theorem ok_told_look (F : Has K mg "told_look" s_told_look ["sheet", "number"]) (T : Txt K mg C) (L : Ok P w K mg base 1 "look_at" ["sheet", "number"] (spLook C)) : Ok P w K mg base 2 "told_look" ["sheet", "number"] (spAsk C 1 cLook) := by
  refine F.ok sc_told_look (fun vs H Q E h => ask_len h) (fun f cdv A outer s H vs Q E hr h => ?_)
  obtain ⟨sh, cs, ns, hl, rfl, S, k⟩ := h
  obtain ⟨n, rfl⟩ := one hl
  have hu := hu_of hr
  refine ⟨_, pss_cons (ps_if (pt_cmp (pc_dnotin hu (pv 1) (pv 0))) (pss_one (ps_ret (pe_lst (pa_cons (pe_const rfl T.noCue) pa_nil)))) pss_nil)
    (pss_one (ps_ret (pe_op op_cat (pe_lst (pa_cons pe_int pa_nil)) (pe_slice sl_list (pe_fn L hr rfl (pa_cons (pv 0) (pa_cons (pv 1) pa_nil))) (po_some pe_int) po_none)))), ?_⟩
  refine ⟨_, rfl, _, rfl, sh, _, rfl, S.getO n, _, rfl, ?_⟩
  cases e : fnd cs n with
  | none =>
    refine iteT ?_
    exact told_one k (look_none (find_none_iff'.mpr e))
  | some c =>
    refine iteF ?_
    refine ⟨(by show 1 ≤ sizeLine; decide), fun l hl => ?_⟩
    have s1 : Same H (upd H l (.lst [V.int 0])) := Same.new hl
    refine ⟨_, rfl, _, rfl, sh, cs, n, rfl, S.same s1, fun p H1 hp s2 h1 => ?_⟩
    refine ⟨_, rfl, p, _, rfl, SqL.of h1, fun q hq => ?_⟩
    rw [cut_look]
    refine ⟨l, q, _, _, rfl, rfl, (by rw [upd_ne (ne_of_none (s2 _ _ upd_same) hq)]; exact s2 _ _ upd_same), upd_same, ?_, fun t ht => ?_⟩
    · show 1 + (nV (lookUpTo (shOf cs) n)).length ≤ sizeLine
      rw [nV, List.length_map, len_lookUpTo]
      decide
    have s3 := (s1.trans s2).trans (Same.new (o := .lst (nV (lookUpTo (shOf cs) n))) hq)
    refine k t (Wqatdt.tells 0 (lookUpTo (shOf cs) n)) _ (s3.free ht) (s3.trans (Same.new ht)) (look_ok fun z => by rw [find_none_iff'.mp z] at e; cases e) ?_ ?_
    · show (_ :: List.map _ _).length ≤ 200
      rw [List.length_cons, List.length_map]
      show (lookUpTo (shOf cs) n).length + 1 ≤ 200
      rw [len_lookUpTo]
      decide
    · rw [upd_same]
      show some (HO.lst ([V.int 0] ++ nV (lookUpTo (shOf cs) n))) = some (HO.lst (tell 0 ([] ++ lookUpTo (shOf cs) n)))
      rw [← tell_app]
      rfl
def cTrack : List Nat → Wqatdt.Call
  | [x] => .track x
  | _ => .clean
theorem shOf_app (A B : List PC) : shOf (A ++ B) = shOf A ++ shOf B := List.map_append ..
theorem mem_shOf {A : List PC} {c : Cue} (h : c ∈ shOf A) : ∃ d ∈ A, d.cue = c := List.mem_map.mp h
/-- the look at one of a rising sheet's cues -/
theorem look_mid {A B : List PC} {c : PC} (r : (A ++ c :: B).Pairwise (fun a b => a.n < b.n)) : lookUpTo (shOf (A ++ c :: B)) c.n = onMs (lookOf (shOf A) dark) c.ms := by
  rw [List.pairwise_append] at r
  obtain ⟨_, r2, r3⟩ := r
  rw [List.pairwise_cons] at r2
  have e : A ++ c :: B = (A ++ [c]) ++ B := by simp
  rw [e, shOf_app, upTo_split]
  · rw [shOf_app]
    exact lookOf_snoc _ _ _
  · intro d hd
    obtain ⟨x, hx, rfl⟩ := mem_shOf hd
    rcases List.mem_append.mp hx with h | h
    · exact Nat.le_of_lt (r3 x h c List.mem_cons_self)
    · have : x = c := by simpa using h
      rw [this]
      exact Nat.le_refl _
  · intro d hd
    obtain ⟨x, hx, rfl⟩ := mem_shOf hd
    exact r2.1 x hx
theorem split_at {cs : List PC} {i : Nat} {c : PC} (h : cs[i]? = some c) : cs = cs.take i ++ c :: cs.drop (i + 1) := by
  have hlt : i < cs.length := (List.getElem?_eq_some_iff.mp h).1
  have e : cs.drop i = c :: cs.drop (i + 1) := by
    rw [List.drop_eq_getElem_cons hlt]
    congr 1
    exact (List.getElem?_eq_some_iff.mp h).2
  rw [← e, List.take_append_drop]
theorem sc_told_track : FnScope ["sheet", "channel", "told", "level", "number", "moves"] ["sheet", "channel"] (defScope s_told_track) := ⟨rfl, rfl, rfl, by decide +kernel, rfl, by decide +kernel, by decide +kernel⟩
theorem ok_told_track (F : Has K mg "told_track" s_told_track ["sheet", "channel"]) (T : Txt K mg C) (B2 : okB P w K mg base "is_channel" "channel" 1 64) : Ok P w K mg base 2 "told_track" ["sheet", "channel"] (spAsk C 1 cTrack) := by
  refine F.ok sc_told_track (fun vs H Q E h => ask_len h) (fun f cdv A outer s H vs Q E hr h => ?_)
  obtain ⟨sh, cs, ns, hl, rfl, S, k⟩ := h
  obtain ⟨x, rfl⟩ := one hl
  have hu := hu_of hr
  obtain ⟨ks, pk, hsh⟩ := S.dc
  refine ⟨_, pss_cons (ps_if (pt_not (pt_val (pe_fn B2 hr rfl (pa_cons (pv 1) pa_nil)))) (pss_one (ps_ret (pe_lst (pa_cons (pe_const rfl T.imp) pa_nil)))) pss_nil)
    (pss_cons (ps_set (i := 2) sc_told_track.nd rfl (Or.inl rfl) (pe_lst (pa_cons (pe_callB call_lenD (by rfl) T.len PySem.boot_len (pa_cons (pv 0) pa_nil)) pa_nil)))
    (pss_cons (ps_set (i := 3) sc_told_track.nd rfl (Or.inl rfl) pe_int)
    (pss_cons (ps_for PassesOwn.never rfl (pi_list (pe_callB (call_sortedD rfl) (by rfl) T.sorted PyProof.Rows.boot_sorted (pa_cons (pv 0) pa_nil))) (pg_name (i := 4) sc_told_track.nd rfl (Or.inl rfl))
      (pss_cons (ps_set (i := 5) sc_told_track.nd rfl (Or.inl rfl) (pe_fld (pe_dget hu (pv 0) (pv 4) (fun _ _ => rfl)) rfl))
      (pss_cons (ps_set (i := 3) sc_told_track.nd rfl (Or.inl rfl) (pe_dget2 hu (pv 5) (pv 1) (pv 3) ⟨rfl, rfl, rfl, rfl⟩))
      (pss_one (ps_expr (pe_bm PySem.F.plainAttrs_list PySem.F.slot_list_extend PySem.F.type_list_extend mt_extend (pv 2) (pa_cons (pe_lst (pa_cons (pv 3) (pa_cons (pe_ifExp (pt_cmp (pc_din hu (pv 1) (pv 5))) pe_int pe_int) pa_nil))) pa_nil)))))))
    (pss_one (ps_ret (pv 2)))))), ?_⟩
  refine ⟨_, rfl, _, rfl, _, rfl, ?_⟩
  refine iteNot (fun h4 => told_one k (track_bad fun z => of_decide_eq_false h4 (by omega))) (fun h4 => ?_)
  have h4 : (1 : Int) ≤ (x : Int) ∧ (x : Int) ≤ 64 := of_decide_eq_true h4
  have hx : 1 ≤ x ∧ x ≤ 64 := by omega
  -- told = [len(sheet)]
  refine ⟨_, rfl, sh, _, rfl, hsh, (by show 1 ≤ sizeLine; decide), fun p hp => ?_⟩
  rw [S.count pk]
  have s1 : Same H (upd H p (.lst [V.int ((shOf cs).length : Nat)])) := Same.new hp
  -- for number in sorted(sheet)
  refine ⟨_, rfl, sh, _, _, rfl, .inl (s1 _ _ hsh), keys_key ks, fun ns q hpm hpw hq => ⟨q, rfl, ⟨_, SqL.of upd_same⟩, ?_⟩⟩
  have ens := nums_eq S.rise pk hpm hpw
  subst ens
  have npq : p ≠ q := ne_of_none upd_same hq
  generalize hH2 : upd (upd H p (.lst [V.int ((shOf cs).length : Nat)])) q (.lst ((cs.map fun c => (c.n : Int)).map V.int)) = H2
  have s2 : Same H H2 := by
    rw [← hH2]
    exact s1.trans (Same.new hq)
  have h2p : H2 p = some (.lst (tell ((shOf cs).length : Nat) ((shOf (cs.take 0)).flatMap fun (c : Cue) => [(lookUpTo (shOf cs) c.number).of x, (c.move x).isSome.toNat]))) := by
    rw [← hH2, upd_ne npq, upd_same]
    rfl
  have h2q : H2 q = some (.lst ((cs.map fun c => (c.n : Int)).map V.int)) := by
    rw [← hH2, upd_same]
  have S2 := S.same s2
  refine for_list (K := K) (a := q) (xs := (cs.map fun c => (c.n : Int)).map V.int) (fun i σ H' => ∃ v4 v5 : Option V, σ = [some (.ref sh), some (.int (x : Int)), some (.ref p), some (.int ((lookOf (shOf (cs.take i)) dark).of x : Nat)), v4, v5] ∧
      Told H2 p H' (tell ((shOf cs).length : Nat) ((shOf (cs.take i)).flatMap fun (c : Cue) => [(lookUpTo (shOf cs) c.number).of x, (c.move x).isSome.toNat])))
    ⟨none, none, by
      have : ((lookOf (shOf (cs.take 0)) dark).of x : Nat) = 0 := by
        show (dark.getD (x - 1) 0) = 0
        unfold dark
        rw [List.getD_eq_getElem?_getD, List.getElem?_replicate]
        split <;> rfl
      rw [this]
      rfl, h2p, fun b o e _ => e⟩ (fun i σ H' _ ⟨_, _, _, t⟩ => SqL.of (t.kp _ _ h2q (Ne.symm npq))) ?_ ?_
  · rintro i y σ H' hi ⟨v4, v5, rfl, t⟩
    obtain ⟨z, hz, rfl⟩ := of_map_get hi
    obtain ⟨c, hc, rfl⟩ := of_map_get hz
    have mc : c ∈ cs := List.mem_of_getElem? hc
    obtain ⟨⟨dx, h1⟩, ⟨d, pd, h2⟩⟩ := S2.cue c mc
    have okm := S.ok c mc
    have nap : c.a ≠ p := ne_of h1 h2p (by intro z; cases z)
    have nmp : c.m ≠ p := ne_of h2 h2p (by intro z; cases z)
    have nsp : sh ≠ p := ne_of (s2 _ _ hsh) h2p (by intro z; cases z)
    have ndd : (d.map (·.1)).Nodup := (pd.map (·.1)).nodup_iff.mpr okm.nd
    have emv : mv d x = mv c.ms x := mv_perm pd ndd x
    have et0 : shOf (cs.take (i + 1)) = shOf (cs.take i) ++ [c.cue] := by
      rw [take_snoc hc, shOf_app]
      rfl
    have elk : lookOf (shOf (cs.take (i + 1))) dark = onMs (lookOf (shOf (cs.take i)) dark) c.ms := by
      rw [et0]
      exact lookOf_snoc _ _ _
    have elk2 : lookUpTo (shOf cs) c.n = lookOf (shOf (cs.take (i + 1))) dark := by
      rw [elk]
      have r := S.rise
      rw [split_at hc] at r
      have := look_mid r
      rw [← split_at hc] at this
      exact this
    have eof : (lookOf (shOf (cs.take (i + 1))) dark).of x = (mv c.ms x).getD ((lookOf (shOf (cs.take i)) dark).of x) := by
      rw [elk]
      refine of_onMs hx.1 okm.nd fun m hm => ?_
      rw [len_lookOf]
      exact okm.chan m hm
    have et : (shOf (cs.take (i + 1))).flatMap (fun (c : Cue) => [(lookUpTo (shOf cs) c.number).of x, (c.move x).isSome.toNat]) = (shOf (cs.take i)).flatMap (fun (c : Cue) => [(lookUpTo (shOf cs) c.number).of x, (c.move x).isSome.toNat]) ++ [(lookOf (shOf (cs.take (i + 1))) dark).of x, (mv c.ms x).isSome.toNat] := by
      rw [← elk2]
      conv => lhs; rw [et0]
      exact flat_snoc _ _ _
    have g := dget_enc (x := x) (t.kp _ _ h2 nmp) rfl
    rw [emv] at g
    have hsz : (tell ((shOf cs).length : Nat) ((shOf (cs.take i)).flatMap fun (c : Cue) => [(lookUpTo (shOf cs) c.number).of x, (c.move x).isSome.toNat])).length + 2 ≤ sizeLine := by
      rw [len_tell, len_flat (k := 2) fun _ => rfl, len_shOf, List.length_take]
      exact Nat.le_trans (show _ ≤ 1000 by have := S.len; omega) (by decide)
    refine ⟨_, rfl, _, rfl, sh, _, rfl, S.get pk (t.kp _ _ (s2 _ _ hsh) nsp) mc, c.a, C, dx, _, _, rfl, t.kp _ _ h1 nap, T.cl, T.nM, cf_moves _ _, ?_⟩
    refine ⟨_, rfl, c.m, rfl, .inl ⟨_, .inl (t.kp _ _ h2 nmp)⟩, _, rfl, _, rfl, _, g, ?_⟩
    have eg : ((mv c.ms x).map fun l : Nat => V.int (l : Int)).getD (V.int ((lookOf (shOf (cs.take i)) dark).of x : Nat)) = V.int ((lookOf (shOf (cs.take (i + 1))) dark).of x : Nat) := by
      rw [eof]
      cases mv c.ms x <;> rfl
    rw [eg]
    refine ⟨_, rfl, .inl ⟨rfl, _, SqL.of t.l⟩, _, rfl, _, rfl, _, rfl, c.m, _, rfl, g, _, rfl, ?_⟩
    have nxt : ∀ l, H' l = none → Told H2 p (upd (upd H' l (.lst [V.int ((lookOf (shOf (cs.take (i + 1))) dark).of x : Nat), V.int ((mv c.ms x).isSome.toNat : Nat)])) p (.lst (tell ((shOf cs).length : Nat) ((shOf (cs.take i)).flatMap fun (c : Cue) => [(lookUpTo (shOf cs) c.number).of x, (c.move x).isSome.toNat]) ++ [V.int ((lookOf (shOf (cs.take (i + 1))) dark).of x : Nat), V.int ((mv c.ms x).isSome.toNat : Nat)]))) (tell ((shOf cs).length : Nat) ((shOf (cs.take (i + 1))).flatMap fun (c : Cue) => [(lookUpTo (shOf cs) c.number).of x, (c.move x).isSome.toNat])) := fun l hl => by
      rw [et]
      exact t.more (ys := [(lookOf (shOf (cs.take (i + 1))) dark).of x, (mv c.ms x).isSome.toNat]) hl
    cases eb : mv c.ms x with
    | some v =>
      rw [eb] at nxt
      refine iteT ?_
      refine ⟨(by show 2 ≤ sizeLine; decide), fun l hl => ⟨p, l, _, _, rfl, rfl, (by rw [upd_ne (ne_of_none t.l hl)]; exact t.l), upd_same, hsz, ?_⟩⟩
      exact ⟨_, _, rfl, nxt l hl⟩
    | none =>
      rw [eb] at nxt
      refine iteF ?_
      refine ⟨(by show 2 ≤ sizeLine; decide), fun l hl => ⟨p, l, _, _, rfl, rfl, (by rw [upd_ne (ne_of_none t.l hl)]; exact t.l), upd_same, hsz, ?_⟩⟩
      exact ⟨_, _, rfl, nxt l hl⟩
  · rintro σ H' ⟨v4, v5, rfl, t⟩
    rw [List.length_map, List.length_map, List.take_length] at t
    refine ⟨_, rfl, k p (Wqatdt.tells ((shOf cs).length : Nat) ((shOf cs).flatMap fun (c : Cue) => [(lookUpTo (shOf cs) c.number).of x, (c.move x).isSome.toNat])) H' hp (fun b o e => t.kp b o (s2 b o e) (ne_of_none e hp)) (track_ok hx) ?_ t.l⟩
    show (_ :: List.map _ _).length ≤ 200
    rw [List.length_cons, List.length_map]
    show (List.flatMap _ _).length + 1 ≤ 200
    rw [len_flat (k := 2) fun _ => rfl, len_shOf]
    have := S.len
    omega
theorem ix_listB {X : Cx} {K : PySem.W.Frag} (h : X.K = K) : IxR X (rIxL K) := by
  subst h
  exact ix_list
theorem pe_fldB {X : Cx} {e : Expr} {f : Str} {pos : Pos} {ta : TE} {K : PySem.W.Frag} (he : PE X e ta) (hb : attributeBase e f X.env (eval e X.env) = eval e X.env) (h : X.K = K) : PE X (.Attribute e f pos) (tFld K ta f) := by
  subst h
  exact pe_fld he hb
theorem blk_differ : BlkOk ["sheet", "first", "second", "here", "there", "channels", "told", "channel"] (defScope s_told_differences) { kind := .function, names := [(".0", .local), ("channel", .local), ("here", .free), ("there", .free)], isGenerator := false, isCoroutine := false } [("channel", 7)] := blkOk_by (by decide +kernel)
theorem blk_clean : BlkOk ["sheet", "number"] (defScope s_clean_sheet) { kind := .function, names := [(".0", .local), ("number", .local), ("len", .globalImplicit), ("sheet", .free)], isGenerator := false, isCoroutine := false } [("number", 1)] := blkOk_by (by decide +kernel)
def cDiffer : List Nat → Wqatdt.Call
  | [m, n] => .differ m n
  | _ => .clean
theorem sc_told_differences : FnScope ["sheet", "first", "second", "here", "there", "channels", "told", "channel"] ["sheet", "first", "second"] (defScope s_told_differences) := ⟨rfl, rfl, rfl, by decide +kernel, rfl, by decide +kernel, by decide +kernel⟩
theorem ok_told_differences (F : Has K mg "told_differences" s_told_differences ["sheet", "first", "second"]) (T : Txt K mg C) (L : Ok P w K mg base 1 "look_at" ["sheet", "number"] (spLook C)) :
    Ok P w K mg base 2 "told_differences" ["sheet", "first", "second"] (spAsk C 2 cDiffer) := by
  refine F.ok sc_told_differences (fun vs H Q E h => ask_len h) (fun f cdv A outer s H vs Q E hr h => ?_)
  obtain ⟨sh, cs, ns, hl, rfl, S, k⟩ := h
  obtain ⟨m, n, rfl⟩ := two hl
  have hu := hu_of hr
  refine ⟨_, pss_cons (ps_if (PW.pt (pw_or (pt_cmp (pc_dnotin hu (pv 1) (pv 0))) (pw_or1 (pt_cmp (pc_dnotin hu (pv 2) (pv 0)))))) (pss_one (ps_ret (pe_lst (pa_cons (pe_const rfl T.noCue) pa_nil)))) pss_nil)
    (pss_cons (ps_set (i := 3) sc_told_differences.nd rfl (Or.inr rfl) (pe_fn L hr rfl (pa_cons (pv 0) (pa_cons (pv 1) pa_nil))))
    (pss_cons (ps_set (i := 4) sc_told_differences.nd rfl (Or.inr rfl) (pe_fn L hr rfl (pa_cons (pv 0) (pa_cons (pv 2) pa_nil))))
    (pss_cons (ps_setLc (i := 5) rfl sc_told_differences.nd rfl rfl (sw_true rfl rfl rfl (by decide +kernel)) (pi_range2 (by rfl) T.range (pa_cons pe_int (pa_cons (pe_op op_add (pe_const rfl T.lastC) pe_int) pa_nil))) blk_differ
      (fun _ _ _ _ _ => pg_name (i := 7) sc_told_differences.nd rfl (Or.inl rfl))
      (fun _ _ _ _ _ => pts_one (pt_cmpR op_ne (pe_ix (ix_listB (K := K) rfl) (pv 3) (pv 7) (fun _ _ => rfl)) (pe_ix (ix_listB (K := K) rfl) (pv 4) (pv 7) (fun _ _ => rfl)) (nomark _)))
      (fun _ _ _ _ _ => pv 7))
    (pss_cons (ps_set (i := 6) sc_told_differences.nd rfl (Or.inl rfl) (pe_lst (pa_cons (pe_callB call_len_seq (by rfl) T.len PySem.boot_len (pa_cons (pv 5) pa_nil)) pa_nil)))
    (pss_cons (ps_for PassesOwn.never rfl (pi_list (pv 5)) (pg_name (i := 7) sc_told_differences.nd rfl (Or.inl rfl))
      (pss_one (ps_expr (pe_bm PySem.F.plainAttrs_list PySem.F.slot_list_extend PySem.F.type_list_extend mt_extend (pv 6) (pa_cons (pe_lst (pa_cons (pv 7) (pa_cons (pe_ix ix_list (pv 3) (pv 7) (fun _ _ => rfl)) (pa_cons (pe_ix ix_list (pv 4) (pv 7) (fun _ _ => rfl)) pa_nil)))) pa_nil)))))
    (pss_one (ps_ret (pv 6)))))))), ?_⟩
  refine ⟨_, rfl, _, rfl, sh, _, rfl, S.getO m, _, rfl, ?_⟩
  cases e : fnd cs m with
  | none =>
    refine iteT (iteT ?_)
    exact told_one k (differ_none (.inl (find_none_iff'.mpr e)))
  | some c =>
    refine iteF ?_
    refine ⟨_, rfl, _, rfl, sh, _, rfl, S.getO n, _, rfl, ?_⟩
    cases e2 : fnd cs n with
    | none =>
      refine iteT ?_
      exact told_one k (differ_none (.inr (find_none_iff'.mpr e2)))
    | some c2 =>
      refine iteF ?_
      have stp := differ_ok (S := shOf cs) (m := m) (n := n) (fun z => by rw [find_none_iff'.mp z] at e; cases e) (fun z => by rw [find_none_iff'.mp z] at e2; cases e2)
      -- here, there
      refine ⟨_, rfl, _, rfl, sh, cs, m, rfl, S, fun pa H1 hpa s1 ha => ?_⟩
      refine ⟨_, rfl, _, rfl, sh, cs, n, rfl, S.same s1, fun pb H2 hpb s2 hb => ?_⟩
      have ha2 := s2 _ _ ha
      have la : (lookUpTo (shOf cs) m).length = 64 := len_lookUpTo _ _
      have lb : (lookUpTo (shOf cs) n).length = 64 := len_lookUpTo _ _
      generalize lookUpTo (shOf cs) m = a at ha ha2 la stp
      generalize lookUpTo (shOf cs) n = b at hb lb stp
      -- channels
      refine ⟨_, _, rfl, rfl, _, _, rfl, ⟨by decide, by decide, by decide, by decide⟩, fun D hD => ?_⟩
      have nDa : pa ≠ D := ne_of_none ha2 hD
      have nDb : pb ≠ D := ne_of_none hb hD
      refine lc_range (lo := 1) (n := 64) (fun i H' => H' D = some (.lst (nV ((parts a b i).map fun j => j + 1))) ∧ ∀ q o, H2 q = some o → q ≠ D → H' q = some o)
        ⟨upd_same, fun q o z hq => by rw [upd_ne hq]; exact z⟩ ?_ ?_
      · rintro i H' hi ⟨hD', kp⟩
        have ga : atI (lookV a) (1 + (i : Int)) = some (V.int (a.getD i 0 : Nat)) := at_of (j := i + 1) (by omega) (lookV_get (by omega))
        have gb : atI (lookV b) (1 + (i : Int)) = some (V.int (b.getD i 0 : Nat)) := at_of (j := i + 1) (by omega) (lookV_get (by omega))
        refine ⟨rfl, _, rfl, _, rfl, pa, _, _, _, rfl, rfl, SqL.of (kp _ _ ha2 nDa), ga, _, rfl, _, rfl, pb, _, _, _, rfl, rfl, SqL.of (kp _ _ hb nDb), gb, rfl, _, rfl, ?_⟩
        by_cases q : a.getD i 0 = b.getD i 0
        · have q2 : (!decide (V.int ((a.getD i 0 : Nat) : Int) = V.int ((b.getD i 0 : Nat) : Int))) = false := by rw [q]; simp
          rw [q2]
          refine iteF ?_
          refine ⟨?_, kp⟩
          rw [hD', parts_succ, if_pos q, List.append_nil]
        · have q2 : (!decide (V.int ((a.getD i 0 : Nat) : Int) = V.int ((b.getD i 0 : Nat) : Int))) = true := by
            rw [decide_eq_false]
            · rfl
            · intro z
              have z := V.int.inj z
              omega
          rw [q2]
          refine iteT ?_
          refine ⟨_, rfl, _, hD', ?_, ?_, fun x o z hx => by rw [upd_ne hx]; exact kp x o z hx⟩
          · rw [nV, List.length_map, List.length_map]
            exact Nat.lt_of_le_of_lt (len_parts a b i) (Nat.lt_trans hi (by decide))
          · rw [upd_same, parts_succ, if_neg q, List.map_append, nV, nV, List.map_append]
            have e1 : (1 : Int) + (i : Int) = ((i + 1 : Nat) : Int) := by omega
            rw [e1]
            rfl
      · rintro H3 ⟨hD3, kp3⟩
        have ha3 := kp3 _ _ ha2 nDa
        have hb3 := kp3 _ _ hb nDb
        have s3 : Same H2 H3 := fun q o z => kp3 q o z (ne_of_none z hD)
        -- told = [len(channels)]
        refine ⟨_, rfl, D, _, rfl, .inl (SqL.of hD3), (by show 1 ≤ sizeLine; decide), fun p hp => ?_⟩
        have s13 : Same H H3 := (s1.trans s2).trans s3
        have hpH := s13.free hp
        have el : (nV ((parts a b 64).map fun j => j + 1)).length = (parts a b 64).length := by rw [nV, List.length_map, List.length_map]
        rw [el]
        have npD : D ≠ p := ne_of_none hD3 hp
        have npa : pa ≠ p := ne_of_none ha3 hp
        have npb : pb ≠ p := ne_of_none hb3 hp
        -- for channel in channels
        refine ⟨_, rfl, D, rfl, ⟨_, SqL.of (by rw [upd_ne npD]; exact hD3)⟩, ?_⟩
        refine for_list (K := K) (a := D) (xs := nV ((parts a b 64).map fun j => j + 1)) (fun i σ H' => ∃ v : Option V, σ = [some (.ref sh), some (.int (m : Int)), some (.int (n : Int)), some (.ref pa), some (.ref pb), some (.ref D), some (.ref p), v] ∧
            Told H3 p H' (tell ((parts a b 64).length : Nat) (((parts a b 64).take i).flatMap fun (i : Nat) => [i + 1, a.getD i 0, b.getD i 0])))
          ⟨_, rfl, upd_same, fun b o e hb => by rw [upd_ne hb]; exact e⟩ (fun i σ H' _ ⟨_, _, t⟩ => SqL.of (t.kp _ _ hD3 npD)) ?_ ?_
        · rintro i y σ H' hi ⟨v, rfl, t⟩
          obtain ⟨z, hz, rfl⟩ := of_map_get hi
          obtain ⟨j, hj, rfl⟩ := of_map_get hz
          have mj := parts_lt (List.mem_of_getElem? hj)
          have et : ((parts a b 64).take (i + 1)).flatMap (fun (i : Nat) => [i + 1, a.getD i 0, b.getD i 0]) = ((parts a b 64).take i).flatMap (fun (i : Nat) => [i + 1, a.getD i 0, b.getD i 0]) ++ [j + 1, a.getD j 0, b.getD j 0] := by
            rw [take_snoc hj]
            exact flat_snoc _ _ _
          have ga : atI (lookV a) ((j + 1 : Nat) : Int) = some (V.int (a.getD j 0 : Nat)) := at_of (j := j + 1) rfl (lookV_get (by omega))
          have gb : atI (lookV b) ((j + 1 : Nat) : Int) = some (V.int (b.getD j 0 : Nat)) := at_of (j := j + 1) rfl (lookV_get (by omega))
          have hsz : (tell ((parts a b 64).length : Nat) (((parts a b 64).take i).flatMap fun (i : Nat) => [i + 1, a.getD i 0, b.getD i 0])).length + 3 ≤ sizeLine := by
            rw [len_tell, len_flat (k := 3) fun _ => rfl, List.length_take]
            exact Nat.le_trans (show _ ≤ 1000 by have := len_parts a b 64; omega) (by decide)
          refine ⟨_, rfl, .inl ⟨rfl, _, SqL.of t.l⟩, _, rfl, _, rfl, _, rfl, pa, _, _, _, rfl, rfl, SqL.of (t.kp _ _ ha3 npa), ga, _, rfl, _, rfl, pb, _, _, _, rfl, rfl, SqL.of (t.kp _ _ hb3 npb), gb, ?_⟩
          refine ⟨(by show 3 ≤ sizeLine; decide), fun l hl => ⟨p, l, _, _, rfl, rfl, (by rw [upd_ne (ne_of_none t.l hl)]; exact t.l), upd_same, hsz, ?_⟩⟩
          refine ⟨_, rfl, ?_⟩
          rw [et]
          exact t.more (ys := [j + 1, a.getD j 0, b.getD j 0]) hl
        · rintro σ H' ⟨v, rfl, t⟩
          rw [el, List.take_length] at t
          refine ⟨_, rfl, k p (Wqatdt.tells ((parts a b 64).length : Nat) ((parts a b 64).flatMap fun (i : Nat) => [i + 1, a.getD i 0, b.getD i 0])) H' hpH (fun b o e => t.kp b o (s13 b o e) (ne_of_none e hpH)) stp ?_ t.l⟩
          show (_ :: List.map _ _).length ≤ 200
          rw [List.length_cons, List.length_map]
          show (List.flatMap _ _).length + 1 ≤ 200
          rw [len_flat (k := 3) fun _ => rfl]
          have := len_parts a b 64
          omega
def clPC (k : Look) : List PC → List PC
  | [] => []
  | c :: r => { c with ms := (clOne k c.cue).moves } :: clPC (c.cue.on k) r
theorem shOf_clPC : ∀ (cs : List PC) (k : Look), shOf (clPC k cs) = cleanFrom k (shOf cs)
  | [], _ => rfl
  | c :: r, k => by
    show PC.cue { c with ms := (clOne k c.cue).moves } :: shOf (clPC (c.cue.on k) r) = clOne k c.cue :: cleanFrom (c.cue.on k) (shOf r)
    rw [shOf_clPC r]
    congr 1
    unfold clOne
    split <;> rfl
theorem clPC_snoc (c : PC) : ∀ (cs : List PC) (k : Look), clPC k (cs ++ [c]) = clPC k cs ++ [{ c with ms := (clOne (lookOf (shOf cs) k) c.cue).moves }]
  | [], _ => rfl
  | d :: r, k => by
    show { d with ms := (clOne k d.cue).moves } :: clPC (d.cue.on k) (r ++ [c]) = _
    rw [clPC_snoc c r]
    rfl
theorem chg_mid {A B : List PC} {c : PC} (r : (A ++ c :: B).Pairwise (fun a b => a.n < b.n)) (b : Bool) (ms : Ms) : chg (A ++ c :: B) c.n b ms = A ++ { c with b := b, ms := ms } :: B := by
  rw [List.pairwise_append] at r
  obtain ⟨_, r2, r3⟩ := r
  rw [List.pairwise_cons] at r2
  have keep : ∀ {L : List PC}, (∀ x ∈ L, x.n ≠ c.n) → L.map (fun x => if x.n = c.n then { x with b := b, ms := ms } else x) = L := fun {L} h => by
    have : ∀ x ∈ L, (if x.n = c.n then ({ x with b := b, ms := ms } : PC) else x) = id x := fun x hx => by
      rw [if_neg (h x hx)]
      rfl
    rw [List.map_congr_left this, List.map_id]
  unfold chg
  rw [List.map_append, List.map_cons, if_pos rfl, keep fun x hx => Nat.ne_of_lt (r3 x hx c List.mem_cons_self), keep fun x hx => Nat.ne_of_gt (r2.1 x hx)]
/-- the look before one of a rising sheet's cues -/
theorem before_mid {A B : List PC} {c : PC} (h1 : 1 ≤ c.n) (r : (A ++ c :: B).Pairwise (fun a b => a.n < b.n)) : lookBefore (shOf (A ++ c :: B)) c.n = lookOf (shOf A) dark := by
  rw [List.pairwise_append] at r
  obtain ⟨_, r2, r3⟩ := r
  rw [List.pairwise_cons] at r2
  rw [lookBefore_eq _ h1, shOf_app, upTo_split]
  · intro d hd
    obtain ⟨x, hx, rfl⟩ := mem_shOf hd
    have := r3 x hx c List.mem_cons_self
    show x.n ≤ c.n - 1
    omega
  · intro d hd
    obtain ⟨x, hx, rfl⟩ := mem_shOf hd
    show c.n - 1 < x.n
    rcases List.mem_cons.mp hx with h | h
    · subst h
      omega
    · have := r2.1 x h
      omega
theorem sc_clean_sheet : FnScope ["sheet", "number"] ["sheet"] (defScope s_clean_sheet) := ⟨rfl, rfl, rfl, by decide +kernel, rfl, by decide +kernel, by decide +kernel⟩
theorem ok_clean_sheet (F : Has K mg "clean_sheet" s_clean_sheet ["sheet"]) (T : Txt K mg C) (DN : Ok P w K mg base 3 "drop_needless" ["sheet", "number"] (spDrop C)) : Ok P w K mg base 4 "clean_sheet" ["sheet"] (spStep C 0 fun _ => .clean) := by
  refine F.ok sc_clean_sheet (fun vs H Q E h => ?_) (fun f cdv A outer s H vs Q E hr h => ?_)
  · obtain ⟨sh, cs, ns, hl, rfl, _⟩ := h
    rw [List.length_cons, List.length_map, hl]
    rfl
  obtain ⟨sh, cs, ns, hl, rfl, S, k⟩ := h
  obtain rfl := List.eq_nil_of_length_eq_zero hl
  have hu := hu_of hr
  obtain ⟨ks, pk, hsh⟩ := S.dc
  refine ⟨_, pss_cons (ps_for PassesOwn.never rfl (pi_list (pe_callB (call_sortedD rfl) (by rfl) T.sorted PyProof.Rows.boot_sorted (pa_cons (pv 0) pa_nil))) (pg_name (i := 1) sc_clean_sheet.nd rfl (Or.inl rfl))
      (pss_one (ps_if (pt_not (pt_val (pe_fld (pe_dget hu (pv 0) (pv 1) (fun _ _ => rfl)) rfl))) (pss_one (ps_expr (pe_fn DN hr rfl (pa_cons (pv 0) (pa_cons (pv 1) pa_nil))))) pss_nil)))
    (pss_one (ps_ret (pe_callB (cr_sum rfl) (by rfl) T.sum PyProof.Rows.boot_sum (pa_cons (pe_lc rfl sc_clean_sheet.nd (pi_list (pe_callB (call_sortedD rfl) (by rfl) T.sorted PyProof.Rows.boot_sorted (pa_cons (pv 0) pa_nil))) blk_clean
      (fun _ _ _ _ _ => pg_name (i := 1) sc_clean_sheet.nd rfl (Or.inl rfl)) (fun _ _ _ _ _ => pts_nil)
      (fun _ _ _ _ _ => pe_callB call_lenD (by rfl) T.len PySem.boot_len (pa_cons (pe_fldB (K := K) (pe_dget hu (pv 0) (pv 1) (fun _ _ => rfl)) rfl rfl) pa_nil))) pa_nil)))), ?_⟩
  refine ⟨_, rfl, sh, _, _, rfl, .inl hsh, keys_key ks, fun ns q hpm hpw hq => ⟨q, rfl, ⟨_, SqL.of upd_same⟩, ?_⟩⟩
  have ens := nums_eq S.rise pk hpm hpw
  subst ens
  have s1 : Same H (upd H q (.lst ((cs.map fun c => (c.n : Int)).map V.int))) := Same.new hq
  have S1 := S.same s1
  refine for_list (K := K) (a := q) (xs := (cs.map fun c => (c.n : Int)).map V.int) (fun i σ H' => ∃ v : Option V, σ = [some (.ref sh), v] ∧ SheetAt C H' sh (clPC dark (cs.take i) ++ cs.drop i) ∧ H' q = some (.lst ((cs.map fun c => (c.n : Int)).map V.int)) ∧ KeepL H H')
    ⟨none, rfl, S1, upd_same, KeepL.of s1⟩ (fun i σ H' _ ⟨_, _, _, hq', _⟩ => SqL.of hq') ?_ ?_
  · rintro i y σ H' hi ⟨v, rfl, S', hq', kl⟩
    obtain ⟨z, hz, rfl⟩ := of_map_get hi
    obtain ⟨c, hc, rfl⟩ := of_map_get hz
    have mc : c ∈ cs := List.mem_of_getElem? hc
    have hlt : i < cs.length := (List.getElem?_eq_some_iff.mp hc).1
    have ed : cs.drop i = c :: cs.drop (i + 1) := by
      rw [List.drop_eq_getElem_cons hlt]
      congr 1
      exact (List.getElem?_eq_some_iff.mp hc).2
    have en : clPC dark (cs.take (i + 1)) ++ cs.drop (i + 1) = clPC dark (cs.take i) ++ { c with ms := (clOne (lookOf (shOf (cs.take i)) dark) c.cue).moves } :: cs.drop (i + 1) := by
      rw [take_snoc hc, clPC_snoc, List.append_assoc]
      rfl
    rw [ed] at S'
    have mc' : c ∈ clPC dark (cs.take i) ++ c :: cs.drop (i + 1) := List.mem_append_right _ List.mem_cons_self
    obtain ⟨ks', pk', hsh'⟩ := S'.dc
    obtain ⟨⟨dx, h1⟩, ⟨d, pd, h2⟩⟩ := S'.cue c mc'
    refine ⟨_, rfl, _, rfl, sh, _, rfl, S'.get pk' hsh' mc', c.a, C, dx, _, _, rfl, h1, T.cl, T.nB, cf_blocked _ _, _, rfl, ?_⟩
    cases eb : c.b with
    | true =>
      refine iteF ?_
      refine ⟨_, rfl, ?_, hq', kl⟩
      have e2 : ({ c with ms := (clOne (lookOf (shOf (cs.take i)) dark) c.cue).moves } : PC) = c := by
        unfold clOne
        rw [if_pos (show c.cue.block = true from eb)]
        rfl
      rw [en, e2]
      exact S'
    | false =>
      refine iteT ?_
      refine ⟨_, rfl, _, rfl, sh, _, c, rfl, mc', S', fun d' H3 pd' hm' kp => ?_⟩
      have hb : lookBefore (shOf (clPC dark (cs.take i) ++ c :: cs.drop (i + 1))) c.n = lookOf (shOf (cs.take i)) dark := by
        rw [before_mid (S.num c mc).1 S'.rise, shOf_clPC]
        refine lookOf_clean (fun x hx => ?_) rfl
        obtain ⟨y, hy, rfl⟩ := mem_shOf hx
        exact S.ok y (List.mem_of_mem_take hy)
      rw [hb] at pd'
      have e2 : (clOne (lookOf (shOf (cs.take i)) dark) c.cue).moves = c.ms.filter fun m => (lookOf (shOf (cs.take i)) dark).of m.1 != m.2 := by
        unfold clOne
        rw [if_neg (show ¬ c.cue.block = true by show ¬ c.b = true; rw [eb]; simp)]
        rfl
      have S3 := S'.chg (H' := H3) mc' (b := c.b) pd' ((S'.ok c mc').filter _) ⟨dx, kp _ _ h1 (S'.aM mc' mc')⟩ hm' fun b o e _ hb => kp b o e hb
      rw [chg_mid S'.rise] at S3
      refine ⟨_, rfl, ?_, kp _ _ hq' (ne_of hq' h2 (by intro z; cases z)), kl.trans ⟨fun b xs z => kp b _ z (ne_of z h2 (by intro z; cases z)), fun b o u z => kp b _ z (ne_of z h2 (by intro z; cases z))⟩⟩
      rw [en, e2]
      exact S3
  · rintro σ H' ⟨v, rfl, S', hq', kl⟩
    rw [List.length_map, List.length_map, List.take_length, List.drop_length, List.append_nil] at S'
    have stp : Wqatdt.step (shOf cs) .clean = (shOf (clPC dark cs), Wqatdt.says (movesIn (shOf (clPC dark cs)) : Nat)) := by
      rw [shOf_clPC]
      rfl
    generalize clPC dark cs = cs2 at S' stp
    obtain ⟨ks2, pk2, hsh2⟩ := S'.dc
    refine ⟨_, rfl, sh, _, _, rfl, .inl hsh2, keys_key ks2, fun ns q2 hpm hpw hq2 => ⟨q2, rfl, ⟨_, SqL.of upd_same⟩, fun D hD => ?_⟩⟩
    have ens := nums_eq S'.rise pk2 hpm hpw
    subst ens
    have s2 : Same H' (upd H' q2 (.lst ((cs2.map fun c => (c.n : Int)).map V.int))) := Same.new hq2
    have nqD : q2 ≠ D := ne_of_none upd_same hD
    generalize hH2 : upd H' q2 (.lst ((cs2.map fun c => (c.n : Int)).map V.int)) = H2 at s2 hD
    have h2q : H2 q2 = some (.lst ((cs2.map fun c => (c.n : Int)).map V.int)) := by rw [← hH2, upd_same]
    have S2 := S'.same s2
    refine lc_list (K := K) (a := q2) (xs := (cs2.map fun c => (c.n : Int)).map V.int) (fun i H3 => H3 D = some (.lst (((cs2.take i).map fun c => (c.ms.length : Int)).map V.int)) ∧ ∀ b o, H2 b = some o → b ≠ D → H3 b = some o)
      ⟨upd_same, fun b o e hb => by rw [upd_ne hb]; exact e⟩ (fun i H3 _ ⟨_, kp⟩ => SqL.of (kp _ _ h2q nqD)) ?_ ?_
    · rintro i y H3 hi ⟨hD3, kp⟩
      obtain ⟨z, hz, rfl⟩ := of_map_get hi
      obtain ⟨c, hc, rfl⟩ := of_map_get hz
      have mc : c ∈ cs2 := List.mem_of_getElem? hc
      have hlt : i < cs2.length := (List.getElem?_eq_some_iff.mp hc).1
      obtain ⟨⟨dx, h1⟩, ⟨d, pd, h2⟩⟩ := S2.cue c mc
      refine ⟨rfl, ?_⟩
      unfold tYes
      refine iteT ?_
      refine ⟨_, rfl, _, rfl, sh, _, rfl, S'.get pk2 (kp _ _ (s2 _ _ hsh2) (ne_of_none (s2 _ _ hsh2) hD)) mc, c.a, C, dx, _, _, rfl, kp _ _ h1 (ne_of_none h1 hD), T.cl, T.nM, cf_moves _ _, c.m, _, rfl, kp _ _ h2 (ne_of_none h2 hD), ?_⟩
      refine ⟨_, hD3, ?_, ?_, fun b o e hb => by rw [upd_ne hb]; exact kp b o e hb⟩
      · rw [List.length_map, List.length_map, List.length_take]
        exact Nat.lt_of_le_of_lt (show _ ≤ 1000 by have := S'.len; omega) (by decide)
      · rw [upd_same, take_snoc hc, List.map_append, List.map_append, len_enc, pd.length_eq]
        rfl
    · rintro H3 ⟨hD3, kp⟩
      rw [List.length_map, List.length_map, List.take_length] at hD3
      refine ⟨D, _, rfl, SqL.of hD3, ?_⟩
      have s3 : Same H' H3 := fun b o e => kp b o (s2 b o e) (ne_of_none (s2 b o e) hD)
      have es : (cs2.map fun c => (c.ms.length : Int)).sum = ((movesIn (shOf cs2) : Nat) : Int) := by
        rw [sum_len]
        unfold shOf
        rw [List.map_map]
        rfl
      rw [es]
      exact k H3 cs2 _ (S'.same s3) stp (kl.trans (KeepL.of s3))
theorem ite_y {c A B : Prop} [Decidable c] (hc : c) (h : A) : if decide c = true then A else B := by
  rw [if_pos (decide_eq_true hc)]
  exact h
theorem ite_n {c A B : Prop} [Decidable c] (hc : ¬ c) (h : B) : if decide c = true then A else B := by
  rw [if_neg (fun z => hc (of_decide_eq_true z))]
  exact h
theorem int_ne {a b : Int} (h : a ≠ b) : ¬ V.int a = V.int b := fun z => h (V.int.inj z)
theorem nV_at {ns : List Nat} {i n : Nat} (h : ns[i]? = some n) : atI (nV ns) (i : Int) = some (V.int (n : Int)) := by
  refine at_of (j := i) rfl ?_
  unfold nV
  rw [List.getElem?_map, h]
  rfl
theorem step_says {S : Sheet} {c : Wqatdt.Call} {r : List Int} {S' : Sheet} {z : Int} (hr : nstep S [r] = ((Wqatdt.step S c).1, (Wqatdt.step S c).2.ret :: (Wqatdt.step S c).2.nums.map WqatdtNeutral.int)) (h : Wqatdt.step S c = (S', Wqatdt.says z)) : nstep S [r] = (S', [z]) := by
  rw [hr, h]
  rfl
theorem step_tells {S : Sheet} {c : Wqatdt.Call} {l : List Int} {S' : Sheet} {r : Wqatdt.Ans} (hr : nstep S [l] = ((Wqatdt.step S c).1, (Wqatdt.step S c).2.ret :: (Wqatdt.step S c).2.nums.map WqatdtNeutral.int)) (h : Wqatdt.step S c = (S', r)) : nstep S [l] = (S', ansL r) := by
  rw [hr, h]
  rfl
structure Txt2 (mg : Str → Option Value) : Prop where
  c0 : ∃ t, mg "RECORD" = some (.int 0 t)
  c1 : ∃ t, mg "RELEASE" = some (.int 1 t)
  c2 : ∃ t, mg "DELETE" = some (.int 2 t)
  c3 : ∃ t, mg "COPY" = some (.int 3 t)
  c4 : ∃ t, mg "BLOCK" = some (.int 4 t)
  c5 : ∃ t, mg "UNBLOCK" = some (.int 5 t)
  c6 : ∃ t, mg "CLEAN" = some (.int 6 t)
  c7 : ∃ t, mg "CUES" = some (.int 7 t)
  c8 : ∃ t, mg "MOVES" = some (.int 8 t)
  c9 : ∃ t, mg "LOOK" = some (.int 9 t)
  c10 : ∃ t, mg "TRACK" = some (.int 10 t)
def spChanged (C : Addr) : Sp := fun vs H Q _ => ∃ (sh : Addr) (cs : List PC) (p : Int) (nl : Addr) (ns : List Nat), vs = [.ref sh, .int p, .ref nl] ∧ SheetAt C H sh cs ∧ H nl = some (.lst (nV ns)) ∧ PyWqatdt.shape p = some (ns.length, 0) ∧ p ≤ 6 ∧
  ∀ (H' : Hp) (cs' : List PC) (z : Int), SheetAt C H' sh cs' → nstep (shOf cs) [p :: ns.map fun n : Nat => (n : Int)] = (shOf cs', [z]) → KeepL H H' → Q (.int z) H'
def spAsked (C : Addr) : Sp := fun vs H Q _ => ∃ (sh : Addr) (cs : List PC) (p : Int) (nl : Addr) (ns : List Nat), vs = [.ref sh, .int p, .ref nl] ∧ SheetAt C H sh cs ∧ H nl = some (.lst (nV ns)) ∧ PyWqatdt.shape p = some (ns.length, 0) ∧ ¬ p ≤ 6 ∧
  ∀ (q : Addr) (A : List Int) (H' : Hp), H q = none → Same H H' → nstep (shOf cs) [p :: ns.map fun n : Nat => (n : Int)] = (shOf cs, A) → A.length ≤ 200 → H' q = some (.lst (A.map V.int)) → Q (.ref q) H'
def spAnswer (C : Addr) : Sp := fun vs H Q _ => ∃ (sh : Addr) (cs : List PC) (p : Int) (nl : Addr) (ns : List Nat), vs = [.ref sh, .int p, .ref nl] ∧ SheetAt C H sh cs ∧ H nl = some (.lst (nV ns)) ∧ PyWqatdt.shape p = some (ns.length, 0) ∧
  ∀ (H' : Hp) (cs' : List PC) (q : Addr) (A : List Int), SheetAt C H' sh cs' → nstep (shOf cs) [p :: ns.map fun n : Nat => (n : Int)] = (shOf cs', A) → H' q = some (.lst (A.map V.int)) → A.length ≤ 200 → (∀ xs, H q ≠ some (.lst xs)) → KeepL H H' → Q (.ref q) H'
theorem sc_changed : FnScope ["sheet", "call", "numbers"] ["sheet", "call", "numbers"] (defScope s_changed) := ⟨rfl, rfl, rfl, by decide +kernel, rfl, by decide +kernel, by decide +kernel⟩
theorem ok_changed (F : Has K mg "changed" s_changed ["sheet", "call", "numbers"]) (T : Txt2 mg) (R0 : Ok P w K mg base 5 "record_move" ["sheet", "number", "channel", "level", "how"] (spStep C 4 cRecord)) (R1 : Ok P w K mg base 5 "release_move" ["sheet", "number", "channel", "how"] (spStep C 3 cRelease))
    (R2 : Ok P w K mg base 5 "delete_cue" ["sheet", "number", "how"] (spStep C 2 cDelete)) (R3 : Ok P w K mg base 5 "copy_cue" ["sheet", "source", "to", "how"] (spStep C 3 cCopy)) (R4 : Ok P w K mg base 2 "block_cue" ["sheet", "number"] (spStep C 1 cBlock)) (R5 : Ok P w K mg base 4 "unblock_cue" ["sheet", "number"] (spStep C 1 cUnblock))
    (R6 : Ok P w K mg base 4 "clean_sheet" ["sheet"] (spStep C 0 fun _ => .clean)) : Ok P w K mg base 6 "changed" ["sheet", "call", "numbers"] (spChanged C) := by
  refine F.ok sc_changed (fun vs H Q E h => ?_) (fun f cdv A outer s H vs Q E hr h => ?_)
  · obtain ⟨sh, cs, p, nl, ns, rfl, _⟩ := h
    rfl
  · obtain ⟨sh, cs, p, nl, ns, rfl, S, hnl, hsp, hle, k⟩ := h
    have R4 := R4.mono (show 2 ≤ 5 by decide)
    have R5 := R5.mono (show 4 ≤ 5 by decide)
    have R6 := R6.mono (show 4 ≤ 5 by decide)
    refine ⟨_, (pss_cons (ps_if (pt_cmpR op_eq (pv 1) (pe_const rfl T.c0) (nomark _)) (pss_one (ps_ret (pe_fn R0 hr rfl (pa_cons (pv 0) (pa_cons (pe_ix ix_list (pv 2) pe_int (fun _ _ => rfl)) (pa_cons (pe_ix ix_list (pv 2) pe_int (fun _ _ => rfl)) (pa_cons (pe_ix ix_list (pv 2) pe_int (fun _ _ => rfl)) (pa_cons (pe_ix ix_list (pv 2) pe_int (fun _ _ => rfl)) pa_nil)))))))) pss_nil)
      (pss_cons (ps_if (pt_cmpR op_eq (pv 1) (pe_const rfl T.c1) (nomark _)) (pss_one (ps_ret (pe_fn R1 hr rfl (pa_cons (pv 0) (pa_cons (pe_ix ix_list (pv 2) pe_int (fun _ _ => rfl)) (pa_cons (pe_ix ix_list (pv 2) pe_int (fun _ _ => rfl)) (pa_cons (pe_ix ix_list (pv 2) pe_int (fun _ _ => rfl)) pa_nil))))))) pss_nil)
      (pss_cons (ps_if (pt_cmpR op_eq (pv 1) (pe_const rfl T.c2) (nomark _)) (pss_one (ps_ret (pe_fn R2 hr rfl (pa_cons (pv 0) (pa_cons (pe_ix ix_list (pv 2) pe_int (fun _ _ => rfl)) (pa_cons (pe_ix ix_list (pv 2) pe_int (fun _ _ => rfl)) pa_nil)))))) pss_nil)
      (pss_cons (ps_if (pt_cmpR op_eq (pv 1) (pe_const rfl T.c3) (nomark _)) (pss_one (ps_ret (pe_fn R3 hr rfl (pa_cons (pv 0) (pa_cons (pe_ix ix_list (pv 2) pe_int (fun _ _ => rfl)) (pa_cons (pe_ix ix_list (pv 2) pe_int (fun _ _ => rfl)) (pa_cons (pe_ix ix_list (pv 2) pe_int (fun _ _ => rfl)) pa_nil))))))) pss_nil)
      (pss_cons (ps_if (pt_cmpR op_eq (pv 1) (pe_const rfl T.c4) (nomark _)) (pss_one (ps_ret (pe_fn R4 hr rfl (pa_cons (pv 0) (pa_cons (pe_ix ix_list (pv 2) pe_int (fun _ _ => rfl)) pa_nil))))) pss_nil)
      (pss_cons (ps_if (pt_cmpR op_eq (pv 1) (pe_const rfl T.c5) (nomark _)) (pss_one (ps_ret (pe_fn R5 hr rfl (pa_cons (pv 0) (pa_cons (pe_ix ix_list (pv 2) pe_int (fun _ _ => rfl)) pa_nil))))) pss_nil)
      (pss_one (ps_ret (pe_fn R6 hr rfl (pa_cons (pv 0) pa_nil)))))))))), ?_⟩
    rcases shape_inv hsp with h | h | h | h | h | h | h | h | h | h | h | h
    · obtain ⟨rfl, h⟩ := h
      obtain ⟨n, x, l, a, rfl⟩ := four (congrArg Prod.fst h)
      refine ⟨_, rfl, rfl, _, rfl, ite_y rfl ?_⟩
      refine ⟨_, rfl, _, rfl, nl, _, _, _, rfl, rfl, SqL.of hnl, nV_at (i := 0) rfl, _, rfl, nl, _, _, _, rfl, rfl, SqL.of hnl, nV_at (i := 1) rfl, _, rfl, nl, _, _, _, rfl, rfl, SqL.of hnl, nV_at (i := 2) rfl, _, rfl, nl, _, _, _, rfl, rfl, SqL.of hnl, nV_at (i := 3) rfl, sh, cs, [n, x, l, a], rfl, rfl, S, fun H' cs' z S' e kl => k H' cs' z S' (step_says (c := .record n x l a) rfl e) kl⟩
    · obtain ⟨rfl, h⟩ := h
      obtain ⟨n, x, a, rfl⟩ := three (congrArg Prod.fst h)
      refine ⟨_, rfl, rfl, _, rfl, ite_n (int_ne (by decide)) ?_⟩
      refine ⟨_, rfl, rfl, _, rfl, ite_y rfl ?_⟩
      refine ⟨_, rfl, _, rfl, nl, _, _, _, rfl, rfl, SqL.of hnl, nV_at (i := 0) rfl, _, rfl, nl, _, _, _, rfl, rfl, SqL.of hnl, nV_at (i := 1) rfl, _, rfl, nl, _, _, _, rfl, rfl, SqL.of hnl, nV_at (i := 2) rfl, sh, cs, [n, x, a], rfl, rfl, S, fun H' cs' z S' e kl => k H' cs' z S' (step_says (c := .release n x a) rfl e) kl⟩
    · obtain ⟨rfl, h⟩ := h
      obtain ⟨n, a, rfl⟩ := two (congrArg Prod.fst h)
      refine ⟨_, rfl, rfl, _, rfl, ite_n (int_ne (by decide)) ?_⟩
      refine ⟨_, rfl, rfl, _, rfl, ite_n (int_ne (by decide)) ?_⟩
      refine ⟨_, rfl, rfl, _, rfl, ite_y rfl ?_⟩
      refine ⟨_, rfl, _, rfl, nl, _, _, _, rfl, rfl, SqL.of hnl, nV_at (i := 0) rfl, _, rfl, nl, _, _, _, rfl, rfl, SqL.of hnl, nV_at (i := 1) rfl, sh, cs, [n, a], rfl, rfl, S, fun H' cs' z S' e kl => k H' cs' z S' (step_says (c := .delete n a) rfl e) kl⟩
    · obtain ⟨rfl, h⟩ := h
      obtain ⟨m, n, a, rfl⟩ := three (congrArg Prod.fst h)
      refine ⟨_, rfl, rfl, _, rfl, ite_n (int_ne (by decide)) ?_⟩
      refine ⟨_, rfl, rfl, _, rfl, ite_n (int_ne (by decide)) ?_⟩
      refine ⟨_, rfl, rfl, _, rfl, ite_n (int_ne (by decide)) ?_⟩
      refine ⟨_, rfl, rfl, _, rfl, ite_y rfl ?_⟩
      refine ⟨_, rfl, _, rfl, nl, _, _, _, rfl, rfl, SqL.of hnl, nV_at (i := 0) rfl, _, rfl, nl, _, _, _, rfl, rfl, SqL.of hnl, nV_at (i := 1) rfl, _, rfl, nl, _, _, _, rfl, rfl, SqL.of hnl, nV_at (i := 2) rfl, sh, cs, [m, n, a], rfl, rfl, S, fun H' cs' z S' e kl => k H' cs' z S' (step_says (c := .copy m n a) rfl e) kl⟩
    · obtain ⟨rfl, h⟩ := h
      obtain ⟨n, rfl⟩ := one (congrArg Prod.fst h)
      refine ⟨_, rfl, rfl, _, rfl, ite_n (int_ne (by decide)) ?_⟩
      refine ⟨_, rfl, rfl, _, rfl, ite_n (int_ne (by decide)) ?_⟩
      refine ⟨_, rfl, rfl, _, rfl, ite_n (int_ne (by decide)) ?_⟩
      refine ⟨_, rfl, rfl, _, rfl, ite_n (int_ne (by decide)) ?_⟩
      refine ⟨_, rfl, rfl, _, rfl, ite_y rfl ?_⟩
      refine ⟨_, rfl, _, rfl, nl, _, _, _, rfl, rfl, SqL.of hnl, nV_at (i := 0) rfl, sh, cs, [n], rfl, rfl, S, fun H' cs' z S' e kl => k H' cs' z S' (step_says (c := .block n) rfl e) kl⟩
    · obtain ⟨rfl, h⟩ := h
      obtain ⟨n, rfl⟩ := one (congrArg Prod.fst h)
      refine ⟨_, rfl, rfl, _, rfl, ite_n (int_ne (by decide)) ?_⟩
      refine ⟨_, rfl, rfl, _, rfl, ite_n (int_ne (by decide)) ?_⟩
      refine ⟨_, rfl, rfl, _, rfl, ite_n (int_ne (by decide)) ?_⟩
      refine ⟨_, rfl, rfl, _, rfl, ite_n (int_ne (by decide)) ?_⟩
      refine ⟨_, rfl, rfl, _, rfl, ite_n (int_ne (by decide)) ?_⟩
      refine ⟨_, rfl, rfl, _, rfl, ite_y rfl ?_⟩
      refine ⟨_, rfl, _, rfl, nl, _, _, _, rfl, rfl, SqL.of hnl, nV_at (i := 0) rfl, sh, cs, [n], rfl, rfl, S, fun H' cs' z S' e kl => k H' cs' z S' (step_says (c := .unblock n) rfl e) kl⟩
    · obtain ⟨rfl, h⟩ := h
      obtain rfl := List.eq_nil_of_length_eq_zero (congrArg Prod.fst h)
      refine ⟨_, rfl, rfl, _, rfl, ite_n (int_ne (by decide)) ?_⟩
      refine ⟨_, rfl, rfl, _, rfl, ite_n (int_ne (by decide)) ?_⟩
      refine ⟨_, rfl, rfl, _, rfl, ite_n (int_ne (by decide)) ?_⟩
      refine ⟨_, rfl, rfl, _, rfl, ite_n (int_ne (by decide)) ?_⟩
      refine ⟨_, rfl, rfl, _, rfl, ite_n (int_ne (by decide)) ?_⟩
      refine ⟨_, rfl, rfl, _, rfl, ite_n (int_ne (by decide)) ?_⟩
      refine ⟨_, rfl, sh, cs, [], rfl, rfl, S, fun H' cs' z S' e kl => k H' cs' z S' (step_says (c := .clean) rfl e) kl⟩
    all_goals
      obtain ⟨rfl, _⟩ := h
      exact absurd hle (by decide)
theorem sc_asked : FnScope ["sheet", "call", "numbers"] ["sheet", "call", "numbers"] (defScope s_asked) := ⟨rfl, rfl, rfl, by decide +kernel, rfl, by decide +kernel, by decide +kernel⟩
theorem ok_asked (F : Has K mg "asked" s_asked ["sheet", "call", "numbers"]) (T : Txt2 mg) (R7 : Ok P w K mg base 1 "told_cues" ["sheet"] (spAsk C 0 fun _ => .cues)) (R8 : Ok P w K mg base 1 "told_moves" ["sheet", "number"] (spAsk C 1 cMoves)) (R9 : Ok P w K mg base 2 "told_look" ["sheet", "number"] (spAsk C 1 cLook))
    (R10 : Ok P w K mg base 2 "told_track" ["sheet", "channel"] (spAsk C 1 cTrack)) (R11 : Ok P w K mg base 2 "told_differences" ["sheet", "first", "second"] (spAsk C 2 cDiffer)) : Ok P w K mg base 3 "asked" ["sheet", "call", "numbers"] (spAsked C) := by
  refine F.ok sc_asked (fun vs H Q E h => ?_) (fun f cdv A outer s H vs Q E hr h => ?_)
  · obtain ⟨sh, cs, p, nl, ns, rfl, _⟩ := h
    rfl
  · obtain ⟨sh, cs, p, nl, ns, rfl, S, hnl, hsp, hle, k⟩ := h
    have R7 := R7.mono (show 1 ≤ 2 by decide)
    have R8 := R8.mono (show 1 ≤ 2 by decide)
    refine ⟨_, (pss_cons (ps_if (pt_cmpR op_eq (pv 1) (pe_const rfl T.c7) (nomark _)) (pss_one (ps_ret (pe_fn R7 hr rfl (pa_cons (pv 0) pa_nil)))) pss_nil)
      (pss_cons (ps_if (pt_cmpR op_eq (pv 1) (pe_const rfl T.c8) (nomark _)) (pss_one (ps_ret (pe_fn R8 hr rfl (pa_cons (pv 0) (pa_cons (pe_ix ix_list (pv 2) pe_int (fun _ _ => rfl)) pa_nil))))) pss_nil)
      (pss_cons (ps_if (pt_cmpR op_eq (pv 1) (pe_const rfl T.c9) (nomark _)) (pss_one (ps_ret (pe_fn R9 hr rfl (pa_cons (pv 0) (pa_cons (pe_ix ix_list (pv 2) pe_int (fun _ _ => rfl)) pa_nil))))) pss_nil)
      (pss_cons (ps_if (pt_cmpR op_eq (pv 1) (pe_const rfl T.c10) (nomark _)) (pss_one (ps_ret (pe_fn R10 hr rfl (pa_cons (pv 0) (pa_cons (pe_ix ix_list (pv 2) pe_int (fun _ _ => rfl)) pa_nil))))) pss_nil)
      (pss_one (ps_ret (pe_fn R11 hr rfl (pa_cons (pv 0) (pa_cons (pe_ix ix_list (pv 2) pe_int (fun _ _ => rfl)) (pa_cons (pe_ix ix_list (pv 2) pe_int (fun _ _ => rfl)) pa_nil)))))))))), ?_⟩
    rcases shape_inv hsp with h | h | h | h | h | h | h | h | h | h | h | h
    rotate_left 7
    · obtain ⟨rfl, h⟩ := h
      obtain rfl := List.eq_nil_of_length_eq_zero (congrArg Prod.fst h)
      refine ⟨_, rfl, rfl, _, rfl, ite_y rfl ?_⟩
      refine ⟨_, rfl, sh, cs, [], rfl, rfl, S, fun q r H' hq sm e hlen hl => k q (ansL r) H' hq sm (step_tells (c := .cues) rfl e) hlen hl⟩
    · obtain ⟨rfl, h⟩ := h
      obtain ⟨n, rfl⟩ := one (congrArg Prod.fst h)
      refine ⟨_, rfl, rfl, _, rfl, ite_n (int_ne (by decide)) ?_⟩
      refine ⟨_, rfl, rfl, _, rfl, ite_y rfl ?_⟩
      refine ⟨_, rfl, _, rfl, nl, _, _, _, rfl, rfl, SqL.of hnl, nV_at (i := 0) rfl, sh, cs, [n], rfl, rfl, S, fun q r H' hq sm e hlen hl => k q (ansL r) H' hq sm (step_tells (c := .moves n) rfl e) hlen hl⟩
    · obtain ⟨rfl, h⟩ := h
      obtain ⟨n, rfl⟩ := one (congrArg Prod.fst h)
      refine ⟨_, rfl, rfl, _, rfl, ite_n (int_ne (by decide)) ?_⟩
      refine ⟨_, rfl, rfl, _, rfl, ite_n (int_ne (by decide)) ?_⟩
      refine ⟨_, rfl, rfl, _, rfl, ite_y rfl ?_⟩
      refine ⟨_, rfl, _, rfl, nl, _, _, _, rfl, rfl, SqL.of hnl, nV_at (i := 0) rfl, sh, cs, [n], rfl, rfl, S, fun q r H' hq sm e hlen hl => k q (ansL r) H' hq sm (step_tells (c := .look n) rfl e) hlen hl⟩
    · obtain ⟨rfl, h⟩ := h
      obtain ⟨x, rfl⟩ := one (congrArg Prod.fst h)
      refine ⟨_, rfl, rfl, _, rfl, ite_n (int_ne (by decide)) ?_⟩
      refine ⟨_, rfl, rfl, _, rfl, ite_n (int_ne (by decide)) ?_⟩
      refine ⟨_, rfl, rfl, _, rfl, ite_n (int_ne (by decide)) ?_⟩
      refine ⟨_, rfl, rfl, _, rfl, ite_y rfl ?_⟩
      refine ⟨_, rfl, _, rfl, nl, _, _, _, rfl, rfl, SqL.of hnl, nV_at (i := 0) rfl, sh, cs, [x], rfl, rfl, S, fun q r H' hq sm e hlen hl => k q (ansL r) H' hq sm (step_tells (c := .track x) rfl e) hlen hl⟩
    · obtain ⟨rfl, h⟩ := h
      obtain ⟨m, n, rfl⟩ := two (congrArg Prod.fst h)
      refine ⟨_, rfl, rfl, _, rfl, ite_n (int_ne (by decide)) ?_⟩
      refine ⟨_, rfl, rfl, _, rfl, ite_n (int_ne (by decide)) ?_⟩
      refine ⟨_, rfl, rfl, _, rfl, ite_n (int_ne (by decide)) ?_⟩
      refine ⟨_, rfl, rfl, _, rfl, ite_n (int_ne (by decide)) ?_⟩
      refine ⟨_, rfl, _, rfl, nl, _, _, _, rfl, rfl, SqL.of hnl, nV_at (i := 0) rfl, _, rfl, nl, _, _, _, rfl, rfl, SqL.of hnl, nV_at (i := 1) rfl, sh, cs, [m, n], rfl, rfl, S, fun q r H' hq sm e hlen hl => k q (ansL r) H' hq sm (step_tells (c := .differ m n) rfl e) hlen hl⟩
    all_goals
      obtain ⟨rfl, _⟩ := h
      exact absurd (by decide) hle
theorem sc_answer_to : FnScope ["sheet", "call", "numbers"] ["sheet", "call", "numbers"] (defScope s_answer_to) := ⟨rfl, rfl, rfl, by decide +kernel, rfl, by decide +kernel, by decide +kernel⟩
theorem ok_answer_to (F : Has K mg "answer_to" s_answer_to ["sheet", "call", "numbers"]) (T : Txt2 mg) (R0 : Ok P w K mg base 6 "changed" ["sheet", "call", "numbers"] (spChanged C)) (R1 : Ok P w K mg base 3 "asked" ["sheet", "call", "numbers"] (spAsked C)) :
    Ok P w K mg base 7 "answer_to" ["sheet", "call", "numbers"] (spAnswer C) := by
  refine F.ok sc_answer_to (fun vs H Q E h => ?_) (fun f cdv A outer s H vs Q E hr h => ?_)
  · obtain ⟨sh, cs, p, nl, ns, rfl, _⟩ := h
    rfl
  · obtain ⟨sh, cs, p, nl, ns, rfl, S, hnl, hsp, k⟩ := h
    have R1 := R1.mono (show 3 ≤ 6 by decide)
    refine ⟨_, pss_cons (ps_if (pt_cmpR op_le (pv 1) (pe_const rfl T.c6) (nomark _)) (pss_one (ps_ret (pe_lst (pa_cons (pe_fn R0 hr rfl (pa_cons (pv 0) (pa_cons (pv 1) (pa_cons (pv 2) pa_nil)))) pa_nil)))) pss_nil)
      (pss_one (ps_ret (pe_fn R1 hr rfl (pa_cons (pv 0) (pa_cons (pv 1) (pa_cons (pv 2) pa_nil)))))), ?_⟩
    refine ⟨_, rfl, _, _, rfl, rfl, _, rfl, ?_⟩
    refine ite2 (fun hle => ?_) (fun hle => ?_)
    · have hle : p ≤ 6 := of_decide_eq_true hle
      refine ⟨_, rfl, _, rfl, _, rfl, sh, cs, p, nl, ns, rfl, S, hnl, hsp, hle, fun H' cs' z S' e kl => ?_⟩
      refine ⟨(by show 1 ≤ sizeLine; decide), fun q hq => ?_⟩
      have s : Same H' (upd H' q (.lst [V.int z])) := Same.new hq
      refine k _ cs' q [z] (S'.same s) e upd_same (by show 1 ≤ 200; decide) (fun xs e => ?_) (kl.trans (KeepL.of s))
      have := kl.l q xs e
      rw [hq] at this
      cases this
    · have hle : ¬ p ≤ 6 := fun z => hle (decide_eq_true z)
      refine ⟨_, rfl, _, rfl, _, rfl, sh, cs, p, nl, ns, rfl, S, hnl, hsp, hle, fun q A H' hq sm e hlen hl => ?_⟩
      exact k H' cs q A (S.same sm) e hl hlen (fun xs z => by rw [hq] at z; cases z) (KeepL.of sm)
/-- the argument: locked, or of the module -/
def Arg (K : PySem.W.Frag) (H : Hp) (a : Addr) (xs : List V) : Prop := (∃ o, H a = some (.frz o (.lst xs))) ∨ ∀ H' : Hp, SqL K H' a xs
theorem Arg.sq {K : PySem.W.Frag} {H : Hp} {a : Addr} {xs : List V} (h : Arg K H a xs) : SqL K H a xs := by
  rcases h with ⟨o, h⟩ | h
  · exact .inl (.inr ⟨o, h⟩)
  · exact h H
theorem Arg.keep {K : PySem.W.Frag} {H H' : Hp} {a : Addr} {xs : List V} (h : Arg K H a xs) (kl : KeepL H H') : Arg K H' a xs := by
  rcases h with ⟨o, h⟩ | h
  · exact .inl ⟨o, kl.f _ _ _ h⟩
  · exact .inr h
theorem Arg.upd {K : PySem.W.Frag} {H : Hp} {a t : Addr} {xs ys : List V} {o : HO} (h : Arg K H a xs) (ht : H t = some (.lst ys)) : Arg K (upd H t o) a xs := by
  rcases h with ⟨ob, h⟩ | h
  · refine .inl ⟨ob, ?_⟩
    rw [upd_ne (ne_of h ht (by intro z; cases z))]
    exact h
  · exact .inr h
theorem SheetAt.upd {H : Hp} {sh : Addr} {cs : List PC} (S : SheetAt C H sh cs) {t : Addr} {ys : List V} {o : HO} (ht : H t = some (.lst ys)) : SheetAt C (upd H t o) sh cs := by
  refine ⟨?_, fun c hc => ?_, S.rise, S.ndA, S.ndM, S.shM, S.num, S.ok, S.len⟩
  · obtain ⟨ks, p, h⟩ := S.dc
    exact ⟨ks, p, by rw [upd_ne (ne_of h ht (by intro z; cases z))]; exact h⟩
  · obtain ⟨⟨dx, h1⟩, ⟨d, pd, h2⟩⟩ := S.cue c hc
    exact ⟨⟨dx, by rw [upd_ne (ne_of h1 ht (by intro z; cases z))]; exact h1⟩, ⟨d, pd, by rw [upd_ne (ne_of h2 ht (by intro z; cases z))]; exact h2⟩⟩
/-- how many numbers stand behind each call's own, as the module holds it -/
def nbPairs : List (Key × V) := [(Sum.inl 0, .int 4), (Sum.inl 1, .int 3), (Sum.inl 2, .int 2), (Sum.inl 3, .int 3), (Sum.inl 4, .int 1), (Sum.inl 5, .int 1), (Sum.inl 6, .int 0), (Sum.inl 7, .int 0), (Sum.inl 8, .int 1), (Sum.inl 9, .int 1), (Sum.inl 10, .int 1), (Sum.inl 11, .int 2)]
theorem nb_at {p : Int} {n : Nat} (h : PyWqatdt.shape p = some (n, 0)) : valV nbPairs (Sum.inl p : Key) = some (.int (n : Int)) := by
  rcases shape_inv h with q | q | q | q | q | q | q | q | q | q | q | q
  all_goals
    obtain ⟨rfl, q⟩ := q
    have e : n = _ := congrArg Prod.fst q
    subst e
    rfl
def spAns (K : PySem.W.Frag) : Sp := fun vs H Q _ => ∃ (a : Addr) (l : List Int) (cs : List (List (List Int))), vs = [.ref a] ∧ Arg K H a (l.map V.int) ∧ (∀ z ∈ l, 0 ≤ z) ∧ PyFlat.calls PyWqatdt.shape l.length l = some cs ∧ cs.length ≤ 400 ∧
  ∀ (H' : Hp) (p : Addr), H' p = some (.lst ((outOf [] cs).map V.int)) → Q (.ref p) H'
theorem SheetAt.empty {H : Hp} {sh : Addr} (h : H sh = some (.dK [])) : SheetAt C H sh [] :=
  ⟨⟨[], .refl _, h⟩, fun _ h => absurd h (by simp), .nil, fun _ h => absurd h (by simp), fun _ h => absurd h (by simp), fun _ h => absurd h (by simp), fun _ h => absurd h (by simp), fun _ h => absurd h (by simp), Nat.zero_le _⟩
theorem cast_nat {l : List Int} (h : ∀ z ∈ l, 0 ≤ z) : l = (l.map Int.toNat).map fun n : Nat => (n : Int) := by
  rw [List.map_map]
  have : ∀ z ∈ l, ((fun n : Nat => (n : Int)) ∘ Int.toNat) z = z := fun z hz => by
    have := h z hz
    show ((z.toNat : Nat) : Int) = z
    omega
  rw [List.map_congr_left this]
  simp
theorem cut_map {l : List Int} {i n : Nat} (h : i + n ≤ l.length) : cutV (l.map V.int) (some ((i : Nat) : Int)) (some (((i + n : Nat)) : Int)) = ((l.drop i).take n).map V.int := by
  unfold cutV
  rw [HT.sIx_nat, HT.sIx_nat, List.length_map, Nat.min_eq_left (by omega), Nat.min_eq_left (by omega), List.map_take, List.map_drop]
  congr 1
  omega
theorem sc_answers : FnScope ["calls", "sheet", "told", "place", "call", "end", "answer"] ["calls"] (defScope s_answers) := ⟨rfl, rfl, rfl, by decide +kernel, rfl, by decide +kernel, by decide +kernel⟩
theorem ok_answers {nb f : Addr} {fd : FuncData} (F : Fun K "answers" "answers" s_answers f fd) (hlen : mg "len" = none) (hnb : mg "NUMBERS_BEHIND" = some (.ref nb)) (hkd : KDict K P w nb nbPairs) (AT : Ok P w K mg base 7 "answer_to" ["sheet", "call", "numbers"] (spAnswer C)) :
    FnOk P w K mg base CX0 8 f fd ["calls"] (spAns K) := by
  refine F.ok sc_answers (fun vs H Q E h => ?_) (fun cdv A outer s H vs Q E hr h => ?_)
  · obtain ⟨a, l, cs, rfl, _⟩ := h
    rfl
  · obtain ⟨a, l, all, rfl, hA, hnn, hcalls, h400, k⟩ := h
    refine ⟨_, pss_cons (ps_set (i := 1) sc_answers.nd rfl (Or.inl rfl) pe_dnewK)
      (pss_cons (ps_set (i := 2) sc_answers.nd rfl (Or.inl rfl) (pe_lst pa_nil))
      (pss_cons (ps_set (i := 3) sc_answers.nd rfl (Or.inl rfl) pe_int)
      (pss_cons (ps_while PassesOwn.never (pt_cmpR op_lt (pv 3) (pe_callB call_len_seq (by rfl) hlen PySem.boot_len (pa_cons (pv 0) pa_nil)) (nomark _))
        (pss_cons (ps_set (i := 4) sc_answers.nd rfl (Or.inl rfl) (pe_ix ix_list (pv 0) (pv 3) (fun _ _ => rfl)))
        (pss_cons (ps_set (i := 5) sc_answers.nd rfl (Or.inl rfl) (pe_op op_add (pe_op op_add (pv 3) pe_int) (pe_kget rfl hnb hkd (pv 4) (fun _ _ => rfl))))
        (pss_cons (ps_set (i := 6) sc_answers.nd rfl (Or.inl rfl) (pe_fn AT hr rfl (pa_cons (pv 1) (pa_cons (pv 4) (pa_cons (pe_slice sl_list (pv 0) (po_some (pe_op op_add (pv 3) pe_int)) (po_some (pv 5))) pa_nil)))))
        (pss_cons (ps_expr (pe_bm PySem.F.plainAttrs_list PySem.F.slot_list_append PySem.F.type_list_append mt_append (pv 2) (pa_cons (pe_callB call_len_seq (by rfl) hlen PySem.boot_len (pa_cons (pv 6) pa_nil)) pa_nil)))
        (pss_cons (ps_expr (pe_bm PySem.F.plainAttrs_list PySem.F.slot_list_extend PySem.F.type_list_extend mt_extend (pv 2) (pa_cons (pv 6) pa_nil)))
        (pss_one (ps_set (i := 3) sc_answers.nd rfl (Or.inl rfl) (pv 5)))))))))
      (pss_one (ps_ret (pv 2)))))), ?_⟩
    -- sheet = {}
    intro sh hsh
    have s9 : Same H (upd H sh (.dK [])) := Same.new hsh
    have S : SheetAt C (upd H sh (.dK [])) sh [] := SheetAt.empty upd_same
    have hA := hA.keep (KeepL.of s9)
    generalize upd H sh (.dK []) = H at S hA
    -- told = []; place = 0
    refine ⟨Nat.zero_le _, fun t ht => ?_⟩
    have s0 : Same H (upd H t (.lst [])) := fun b o e => by rw [upd_ne (ne_of_none e ht)]; exact e
    refine ⟨fun m σ H' => ∃ (i fu : Nat) (cs : List PC) (rest : List (List (List Int))) (out : List Int) (v4 v5 v6 : Option V), σ = [some (.ref a), some (.ref sh), some (.ref t), some (.int (i : Int)), v4, v5, v6] ∧ m = rest.length ∧ SheetAt C H' sh cs ∧ Arg K H' a (l.map V.int) ∧ H' t = some (.lst (out.map V.int)) ∧ i ≤ l.length ∧
        PyFlat.calls PyWqatdt.shape fu (l.drop i) = some rest ∧ (∀ c ∈ rest, c ∈ all) ∧ outOf [] all = out ++ outOf (shOf cs) rest ∧ out.length + 201 * rest.length ≤ 201 * 400, ?_, ?_⟩
    · exact ⟨_, 0, l.length, [], all, [], none, none, none, rfl, rfl, S.same s0, hA.keep (KeepL.of s0), upd_same, Nat.zero_le _, hcalls, fun c h => h, rfl, by rw [List.length_nil]; omega⟩
    · rintro m σ H' ⟨i, fu, cs, rest, out, v4, v5, v6, rfl, rfl, S1, hA1, ht1, hi, hc, hsub, hout, hsz⟩
      refine ⟨_, rfl, _, rfl, a, _, rfl, .inl hA1.sq, _, _, rfl, rfl, _, rfl, ?_⟩
      refine ite2 (fun hlt => ?_) (fun hlt => ?_)
      · have hlt : i < l.length := by
          have := of_decide_eq_true hlt
          rw [List.length_map] at this
          omega
        obtain ⟨p, hp⟩ : ∃ p, l[i]? = some p := ⟨_, List.getElem?_eq_getElem hlt⟩
        have ed : l.drop i = p :: l.drop (i + 1) := by
          rw [List.drop_eq_getElem_cons hlt]
          congr 1
          exact (List.getElem?_eq_some_iff.mp hp).2
        rw [ed] at hc
        cases fu with
        | zero =>
          rw [calls_zero] at hc
          cases hc
        | succ fu =>
          obtain ⟨n, rest', hshape, hn, hc', rfl⟩ := calls_cons hc
          rw [List.length_drop] at hn
          rw [List.drop_drop] at hc'
          refine ⟨fun σ' H' => ∃ m', m' < ([p :: (l.drop (i + 1)).take n] :: rest').length ∧ ∃ (i fu : Nat) (cs : List PC) (rest : List (List (List Int))) (out : List Int) (v4 v5 v6 : Option V), σ' = [some (.ref a), some (.ref sh), some (.ref t), some (.int (i : Int)), v4, v5, v6] ∧ m' = rest.length ∧ SheetAt C H' sh cs ∧ Arg K H' a (l.map V.int) ∧ H' t = some (.lst (out.map V.int)) ∧ i ≤ l.length ∧
            PyFlat.calls PyWqatdt.shape fu (l.drop i) = some rest ∧ (∀ c ∈ rest, c ∈ all) ∧ outOf [] all = out ++ outOf (shOf cs) rest ∧ out.length + 201 * rest.length ≤ 201 * 400, fun σ' H' h => h, ?_⟩
          -- call = calls[place]
          have gp : atI (l.map V.int) (i : Int) = some (V.int p) := at_of (j := i) rfl (by rw [List.getElem?_map, hp]; rfl)
          refine ⟨_, rfl, _, rfl, a, _, _, _, rfl, rfl, hA1.sq, gp, ?_⟩
          -- end = place + 1 + NUMBERS_BEHIND[call]
          refine ⟨_, rfl, _, _, rfl, rfl, _, rfl, Sum.inl p, _, rfl, nb_at hshape, _, _, rfl, rfl, ?_⟩
          -- answer = answer_to(sheet, call, calls[place + 1:end])
          refine ⟨_, rfl, _, rfl, _, rfl, _, rfl, _, _, rfl, rfl, _, rfl, _, rfl, _, rfl, a, _, rfl, hA1.sq, fun nl hnl => ?_⟩
          have en : (l.drop (i + 1)).take n = (((l.drop (i + 1)).take n).map Int.toNat).map fun n : Nat => (n : Int) := cast_nat fun z hz => hnn z (List.mem_of_mem_drop (List.mem_of_mem_take hz))
          have ec : cutV (l.map V.int) (some ((i : Int) + 1)) (some ((i : Int) + 1 + (n : Int))) = nV (((l.drop (i + 1)).take n).map Int.toNat) := by
            have e1 : (i : Int) + 1 = ((i + 1 : Nat) : Int) := by omega
            have e2 : ((i + 1 : Nat) : Int) + (n : Int) = ((i + 1 + n : Nat) : Int) := by omega
            rw [e1, e2, cut_map (by omega)]
            unfold nV
            generalize (l.drop (i + 1)).take n = r at en
            rw [List.map_map] at en ⊢
            have e3 : r.map V.int = (r.map ((fun n : Nat => (n : Int)) ∘ Int.toNat)).map V.int := by rw [← en]
            rw [e3, List.map_map]
            rfl
          have el : (((l.drop (i + 1)).take n).map Int.toNat).length = n := by
            rw [List.length_map, List.length_take, List.length_drop]
            omega
          have s2 : Same H' (upd H' nl (.lst (cutV (l.map V.int) (some ((i : Int) + 1)) (some ((i : Int) + 1 + (n : Int)))))) := fun b o e => by rw [upd_ne (ne_of_none e hnl)]; exact e
          refine ⟨sh, cs, p, nl, ((l.drop (i + 1)).take n).map Int.toNat, rfl, S1.same s2, by rw [upd_same, ec], by rw [el]; exact hshape, fun H3 cs3 q An S3 est hq hAn hnq kl => ?_⟩
          rw [← en] at est
          have kl3 : KeepL H' H3 := (KeepL.of s2).trans kl
          have ht3 := kl3.l _ _ ht1
          have ntq : t ≠ q := fun z => by
            refine hnq (out.map V.int) ?_
            rw [← z]
            exact s2 _ _ ht1
          -- told.append(len(answer))
          have hlo : out.length ≤ 201 * 400 := by omega
          refine ⟨_, rfl, .inl ⟨rfl, _, SqL.of ht3⟩, _, rfl, q, _, rfl, .inl (SqL.of hq), t, _, _, rfl, rfl, ht3, (by rw [List.length_map]; exact Nat.lt_of_le_of_lt hlo (by decide)), ?_⟩
          -- told.extend(answer)
          have hq4 : (upd H3 t (.lst (out.map V.int ++ [V.int ((An.map V.int).length : Nat)]))) q = some (.lst (An.map V.int)) := by rw [upd_ne (Ne.symm ntq)]; exact hq
          refine ⟨_, rfl, .inl ⟨rfl, _, SqL.of upd_same⟩, _, rfl, t, q, _, _, rfl, rfl, upd_same, hq4, ?_, ?_⟩
          · rw [List.length_append, List.length_map, List.length_map]
            have : sizeLine = 16777216 := sizeLine_eq
            rw [this]
            show out.length + 1 + An.length ≤ 16777216
            omega
          -- place = end
          rw [upd_upd]
          refine ⟨_, rfl, rest'.length, (by rw [List.length_cons]; omega), i + 1 + n, fu, cs3, rest', out ++ (An.length : Int) :: An, some (.int p), some (.int ((i : Int) + 1 + (n : Int))), some (.ref q), ?_, rfl, S3.upd ht3, (hA1.keep kl3).upd ht3, ?_, (by omega), hc', fun c h => hsub c (List.mem_cons_of_mem _ h), ?_, ?_⟩
          · have e2 : ((i + 1 + n : Nat) : Int) = (i : Int) + 1 + (n : Int) := by omega
            rw [e2]
            rfl
          · rw [upd_same, List.map_append, List.map_cons, List.length_map, List.append_assoc]
            rfl
          · rw [hout, outOf_cons]
            have e1 : nstep (shOf cs) [p :: (l.drop (i + 1)).take n] = (shOf cs3, An) := est
            rw [e1, List.append_assoc]
          · rw [List.length_append, List.length_cons]
            rw [List.length_cons] at hsz
            omega
      · have hge : ¬ i < l.length := fun z => hlt (decide_eq_true (by rw [List.length_map]; omega))
        have ei : l.drop i = [] := List.drop_eq_nil_of_le (by omega)
        rw [ei, calls_nil] at hc
        cases hc
        rw [outOf_nil, List.append_nil] at hout
        rw [← hout] at ht1
        exact ⟨_, rfl, k _ t ht1⟩
end
end Cu
set_option Elab.async false
set_option linter.all false
set_option maxRecDepth 100000
set_option maxHeartbeats 2000000
namespace Cu
open PySem PySem.Spec PyProof.Rows L2 Sg
open PySem.W (Codec)
/-- a whole number of the module -/
def TopInt (K : PySem.W.Frag) (x : Str) (z : Int) : Prop := ∃ t, PySem.W.nsIn K mainGlobals x = some (some (.int z t))
theorem topInt {K : PySem.W.Frag} {x : Str} {z : Int} {t : Tok} (h : PySem.W.nsIn K mainGlobals x = some (some (.int z t))) : TopInt K x z := ⟨t, h⟩
theorem TopInt.mg {K : PySem.W.Frag} {h : Heap} {mg : Str → Option Value} {x : Str} {z : Int} (t : TopInt K x z) (X : K.In h) (G : h.Ns mainGlobals mg) : ∃ t, mg x = some (.int z t) := by
  obtain ⟨t, e⟩ := t
  exact ⟨t, PySem.W.mg_of X G e⟩
/-- a def of the module -/
def TopFn (K : PySem.W.Frag) (x : Str) (st : Stmt) (f : Addr) (fd : FuncData) : Prop := PySem.W.nsIn K mainGlobals x = some (some (.ref f)) ∧ Fun K x x st f fd
theorem topFn {K : PySem.W.Frag} {x : Str} {st : Stmt} {f : Addr} {oc : Value} {od an : Option Addr} {osl : Array (Option Value)} {kV doc pm cdv ct : Value} (a : PySem.W.nsIn K mainGlobals x = some (some (.ref f)))
    (l : K.lookup f = some ⟨oc, od, .func (PySem.W.fnOf x x (defArgs st) (defBody st) (defScope st) .none kV doc pm an cdv ct), osl⟩) (c : PySem.W.codeIn K cdv x = true) (k : PySem.W.keepIn K (.ref f) = true) :
    TopFn K x st f (PySem.W.fnOf x x (defArgs st) (defBody st) (defScope st) .none kV doc pm an cdv ct) := ⟨a, fun_mk l c k⟩
def TopDef (K : PySem.W.Frag) (x : Str) (st : Stmt) : Prop := ∃ f fd, TopFn K x st f fd
theorem topDef {K : PySem.W.Frag} {x : Str} {st : Stmt} {f : Addr} {oc : Value} {od an : Option Addr} {osl : Array (Option Value)} {kV doc pm cdv ct : Value} (a : PySem.W.nsIn K mainGlobals x = some (some (.ref f)))
    (l : K.lookup f = some ⟨oc, od, .func (PySem.W.fnOf x x (defArgs st) (defBody st) (defScope st) .none kV doc pm an cdv ct), osl⟩) (c : PySem.W.codeIn K cdv x = true) (k : PySem.W.keepIn K (.ref f) = true) :
    TopDef K x st := ⟨_, _, topFn a l c k⟩
theorem TopDef.has {K : PySem.W.Frag} {h : Heap} {mg : Str → Option Value} {x : Str} {st : Stmt} {ps : List Str} (t : TopDef K x st) (X : K.In h) (G : h.Ns mainGlobals mg)
    (b : ∀ (kV doc pm : Value) (an : Option Addr) (cdv ct : Value) (us : List Value), us.length = ps.length → bindArgs (PySem.W.fnOf x x (defArgs st) (defBody st) (defScope st) .none kV doc pm an cdv ct) ⟨us, []⟩ = pure (ps.zip us)) : Has K mg x st ps := by
  obtain ⟨f, fd, a, F⟩ := t
  exact ⟨f, fd, F, PySem.W.mg_of X G a, F.binds b⟩
/-- the dict of the module -/
theorem kdict {K : PySem.W.Frag} {P : Program} {w : World} {nb : Addr} {ep : Nat} {a0 b0 a1 b1 a2 b2 a3 b3 a4 b4 a5 b5 a6 b6 a7 b7 a8 b8 a9 b9 a10 b10 a11 b11 : Tok} (l : K.lookup nb = some ⟨.type "dict", none, .dict #[⟨0, .int 0 a0, .int 4 b0⟩, ⟨1, .int 1 a1, .int 3 b1⟩, ⟨2, .int 2 a2, .int 2 b2⟩, ⟨3, .int 3 a3, .int 3 b3⟩, ⟨4, .int 4 a4, .int 1 b4⟩, ⟨5, .int 5 a5, .int 1 b5⟩, ⟨6, .int 6 a6, .int 0 b6⟩, ⟨7, .int 7 a7, .int 0 b7⟩, ⟨8, .int 8 a8, .int 1 b8⟩, ⟨9, .int 9 a9, .int 1 b9⟩, ⟨10, .int 10 a10, .int 1 b10⟩, ⟨11, .int 11 a11, .int 2 b11⟩] ep, #[]⟩) : KDict K P w nb nbPairs := by
  refine ⟨_, _, ep, [(Sum.inl 0, .int 4 b0), (Sum.inl 1, .int 3 b1), (Sum.inl 2, .int 2 b2), (Sum.inl 3, .int 3 b3), (Sum.inl 4, .int 1 b4), (Sum.inl 5, .int 1 b5), (Sum.inl 6, .int 0 b6), (Sum.inl 7, .int 0 b7), (Sum.inl 8, .int 1 b8), (Sum.inl 9, .int 1 b9), (Sum.inl 10, .int 1 b10), (Sum.inl 11, .int 2 b11)], l, ⟨rfl, rfl, rfl⟩, rfl, ?_, ?_, (show ([Sum.inl 0, Sum.inl 1, Sum.inl 2, Sum.inl 3, Sum.inl 4, Sum.inl 5, Sum.inl 6, Sum.inl 7, Sum.inl 8, Sum.inl 9, Sum.inl 10, Sum.inl 11] : List Key).Nodup by decide +kernel), ?_⟩
  · intro e he
    have he := Array.mem_toList_iff.mpr he
    rcases List.mem_cons.mp he with rfl | he
    · exact ⟨Sum.inl 0, mixKind_int _ _ _ _, rfl⟩
    rcases List.mem_cons.mp he with rfl | he
    · exact ⟨Sum.inl 1, mixKind_int _ _ _ _, rfl⟩
    rcases List.mem_cons.mp he with rfl | he
    · exact ⟨Sum.inl 2, mixKind_int _ _ _ _, rfl⟩
    rcases List.mem_cons.mp he with rfl | he
    · exact ⟨Sum.inl 3, mixKind_int _ _ _ _, rfl⟩
    rcases List.mem_cons.mp he with rfl | he
    · exact ⟨Sum.inl 4, mixKind_int _ _ _ _, rfl⟩
    rcases List.mem_cons.mp he with rfl | he
    · exact ⟨Sum.inl 5, mixKind_int _ _ _ _, rfl⟩
    rcases List.mem_cons.mp he with rfl | he
    · exact ⟨Sum.inl 6, mixKind_int _ _ _ _, rfl⟩
    rcases List.mem_cons.mp he with rfl | he
    · exact ⟨Sum.inl 7, mixKind_int _ _ _ _, rfl⟩
    rcases List.mem_cons.mp he with rfl | he
    · exact ⟨Sum.inl 8, mixKind_int _ _ _ _, rfl⟩
    rcases List.mem_cons.mp he with rfl | he
    · exact ⟨Sum.inl 9, mixKind_int _ _ _ _, rfl⟩
    rcases List.mem_cons.mp he with rfl | he
    · exact ⟨Sum.inl 10, mixKind_int _ _ _ _, rfl⟩
    rcases List.mem_cons.mp he with rfl | he
    · exact ⟨Sum.inl 11, mixKind_int _ _ _ _, rfl⟩
    cases he
  · exact .cons (mixKind_int _ _ _ _) rfl (.cons (mixKind_int _ _ _ _) rfl (.cons (mixKind_int _ _ _ _) rfl (.cons (mixKind_int _ _ _ _) rfl (.cons (mixKind_int _ _ _ _) rfl (.cons (mixKind_int _ _ _ _) rfl (.cons (mixKind_int _ _ _ _) rfl (.cons (mixKind_int _ _ _ _) rfl (.cons (mixKind_int _ _ _ _) rfl (.cons (mixKind_int _ _ _ _) rfl (.cons (mixKind_int _ _ _ _) rfl (.cons (mixKind_int _ _ _ _) rfl (.nil))))))))))))
  · exact .cons ⟨rfl, _, rfl⟩ (.cons ⟨rfl, _, rfl⟩ (.cons ⟨rfl, _, rfl⟩ (.cons ⟨rfl, _, rfl⟩ (.cons ⟨rfl, _, rfl⟩ (.cons ⟨rfl, _, rfl⟩ (.cons ⟨rfl, _, rfl⟩ (.cons ⟨rfl, _, rfl⟩ (.cons ⟨rfl, _, rfl⟩ (.cons ⟨rfl, _, rfl⟩ (.cons ⟨rfl, _, rfl⟩ (.cons ⟨rfl, _, rfl⟩ (.nil))))))))))))
theorem all_mk {P : Program} {w : World} {K : PySem.W.Frag} {h : Heap} {mg : Str → Option Value} {fa C fI nb f29 : Addr} (X : K.In h) (G : h.Ns mainGlobals mg) (hfa : mg "answers" = some (.ref fa))
    (i_LAST_NUMBER : TopInt K "LAST_NUMBER" 9999)
    (i_LAST_CHANNEL : TopInt K "LAST_CHANNEL" 64)
    (i_TOP_LEVEL : TopInt K "TOP_LEVEL" 100)
    (i_MOST_CUES : TopInt K "MOST_CUES" 24)
    (i_ALONE : TopInt K "ALONE" 1)
    (i_IMPOSSIBLE : TopInt K "IMPOSSIBLE" (-1))
    (i_NOT_SO : TopInt K "NOT_SO" (-3))
    (i_NO_CUE : TopInt K "NO_CUE" (-4))
    (i_NO_ROOM : TopInt K "NO_ROOM" (-5))
    (i_RECORD : TopInt K "RECORD" 0)
    (i_RELEASE : TopInt K "RELEASE" 1)
    (i_DELETE : TopInt K "DELETE" 2)
    (i_COPY : TopInt K "COPY" 3)
    (i_BLOCK : TopInt K "BLOCK" 4)
    (i_UNBLOCK : TopInt K "UNBLOCK" 5)
    (i_CLEAN : TopInt K "CLEAN" 6)
    (i_CUES : TopInt K "CUES" 7)
    (i_MOVES : TopInt K "MOVES" 8)
    (i_LOOK : TopInt K "LOOK" 9)
    (i_TRACK : TopInt K "TRACK" 10)
    (n_len : PySem.W.nsIn K mainGlobals "len" = some none)
    (n_sorted : PySem.W.nsIn K mainGlobals "sorted" = some none)
    (n_range : PySem.W.nsIn K mainGlobals "range" = some none)
    (n_list : PySem.W.nsIn K mainGlobals "list" = some none)
    (n_dict : PySem.W.nsIn K mainGlobals "dict" = some none)
    (n_sum : PySem.W.nsIn K mainGlobals "sum" = some none)
    (d_is_number : TopDef K "is_number" s_is_number)
    (d_is_channel : TopDef K "is_channel" s_is_channel)
    (d_is_level : TopDef K "is_level" s_is_level)
    (d_is_how : TopDef K "is_how" s_is_how)
    (d_lacks_room : TopDef K "lacks_room" s_lacks_room)
    (d_look_at : TopDef K "look_at" s_look_at)
    (d_look_before : TopDef K "look_before" s_look_before)
    (d_moves_of : TopDef K "moves_of" s_moves_of)
    (d_add_moves : TopDef K "add_moves" s_add_moves)
    (d_drop_needless : TopDef K "drop_needless" s_drop_needless)
    (d_held_number : TopDef K "held_number" s_held_number)
    (d_replace_cue : TopDef K "replace_cue" s_replace_cue)
    (d_edit : TopDef K "edit" s_edit)
    (d_record_move : TopDef K "record_move" s_record_move)
    (d_release_move : TopDef K "release_move" s_release_move)
    (d_delete_cue : TopDef K "delete_cue" s_delete_cue)
    (d_copy_cue : TopDef K "copy_cue" s_copy_cue)
    (d_block_cue : TopDef K "block_cue" s_block_cue)
    (d_unblock_cue : TopDef K "unblock_cue" s_unblock_cue)
    (d_clean_sheet : TopDef K "clean_sheet" s_clean_sheet)
    (d_told_cues : TopDef K "told_cues" s_told_cues)
    (d_told_moves : TopDef K "told_moves" s_told_moves)
    (d_told_look : TopDef K "told_look" s_told_look)
    (d_told_track : TopDef K "told_track" s_told_track)
    (d_told_differences : TopDef K "told_differences" s_told_differences)
    (d_changed : TopDef K "changed" s_changed)
    (d_asked : TopDef K "asked" s_asked)
    (d_answer_to : TopDef K "answer_to" s_answer_to)
    {ocI kVI dcI pmI cdI ctI oc kV dc pm cd ct : Value} {odI anI od an : Option Addr} {slI sl : Array (Option Value)}
    (aC : PySem.W.nsIn K mainGlobals "Cue" = some (some (.ref C))) (pg : PySem.W.plainGet K C Str.empty = true) (hd : PySem.W.hasDictIn K C = true) (po : PySem.W.plainOver K C = true) (sa : PySem.W.findIn K (.ref C) "__setattr__" = some (some (.builtin "object.__setattr__"))) (mk : PySem.W.makesIn K C = true) (kc : PySem.W.keepIn K (.ref C) = true)
    (nM : PySem.W.findIn K (.ref C) "moves" = some none) (nB : PySem.W.findIn K (.ref C) "blocked" = some none)
    (aI : PySem.W.findIn K (.ref C) "__init__" = some (some (.ref fI))) (iI : PySem.W.isFn K (.ref fI) = true) (lI : K.lookup fI = some ⟨ocI, odI, .func (PySem.W.fnOf "__init__" "Cue.__init__" (defArgs s_Cue_init) (defBody s_Cue_init) (defScope s_Cue_init) .none kVI dcI pmI anI cdI ctI), slI⟩) (cI : PySem.W.codeIn K cdI "Cue.__init__" = true) (kI : PySem.W.keepIn K (.ref fI) = true)
    (aN : PySem.W.nsIn K mainGlobals "NUMBERS_BEHIND" = some (some (.ref nb))) (lN : KDict K P w nb nbPairs)
    (aA : PySem.W.nsIn K mainGlobals "answers" = some (some (.ref f29))) (lA : K.lookup f29 = some ⟨oc, od, .func (PySem.W.fnOf "answers" "answers" (defArgs s_answers) (defBody s_answers) (defScope s_answers) .none kV dc pm an cd ct), sl⟩) (cA : PySem.W.codeIn K cd "answers" = true) (kA : PySem.W.keepIn K (.ref f29) = true) :
    ∃ fd : FuncData, (∀ (s : Shared) (us : List Value), us.length = (["calls"] : List Str).length → BindsTo s fd ⟨us, []⟩ ((["calls"] : List Str).zip us)) ∧ ∀ base : Heap, K.In base → base.Ns mainGlobals mg → FnOk P w K mg base CX0 8 fa fd ["calls"] (spAns K) := by
  have e := hfa.symm.trans (PySem.W.mg_of X G aA)
  cases e
  have T : Txt K mg C := ⟨⟨pg, hd, po, sa⟩, nM, nB, PySem.W.mg_of X G aC, i_LAST_NUMBER.mg X G, i_LAST_CHANNEL.mg X G, i_TOP_LEVEL.mg X G, i_MOST_CUES.mg X G, i_ALONE.mg X G, i_IMPOSSIBLE.mg X G, i_NOT_SO.mg X G, i_NO_CUE.mg X G, i_NO_ROOM.mg X G, PySem.W.mg_none_of X G n_len, PySem.W.mg_none_of X G n_sorted, PySem.W.mg_none_of X G n_range, PySem.W.mg_none_of X G n_list, PySem.W.mg_none_of X G n_dict, PySem.W.mg_none_of X G n_sum⟩
  have T2 : Txt2 mg := ⟨i_RECORD.mg X G, i_RELEASE.mg X G, i_DELETE.mg X G, i_COPY.mg X G, i_BLOCK.mg X G, i_UNBLOCK.mg X G, i_CLEAN.mg X G, i_CUES.mg X G, i_MOVES.mg X G, i_LOOK.mg X G, i_TRACK.mg X G⟩
  have FI := fun_mk (st := s_Cue_init) lI cI kI
  have FA := fun_mk (st := s_answers) lA cA kA
  have bI := FI.binds (ps := ["self"]) fun _ _ _ _ _ _ us hl => match us, hl with | [_], _ => rfl
  refine ⟨PySem.W.fnOf "answers" "answers" (defArgs s_answers) (defBody s_answers) (defScope s_answers) .none kV dc pm an cd ct, fun s us hu => match us, hu with | [_], _ => .of_eq rfl, fun base _ _ => ?_⟩
  have M : OkMake P w K mg base C := ⟨fI, _, ⟨mk, aI, iI, kc⟩, ok_init FI T, bI⟩
  have h_is_number : Has K mg "is_number" s_is_number ["number"] := d_is_number.has X G fun _ _ _ _ _ _ us hl => match us, hl with | [_], _ => rfl
  have h_is_channel : Has K mg "is_channel" s_is_channel ["channel"] := d_is_channel.has X G fun _ _ _ _ _ _ us hl => match us, hl with | [_], _ => rfl
  have h_is_level : Has K mg "is_level" s_is_level ["level"] := d_is_level.has X G fun _ _ _ _ _ _ us hl => match us, hl with | [_], _ => rfl
  have h_is_how : Has K mg "is_how" s_is_how ["how"] := d_is_how.has X G fun _ _ _ _ _ _ us hl => match us, hl with | [_], _ => rfl
  have h_lacks_room : Has K mg "lacks_room" s_lacks_room ["sheet", "number"] := d_lacks_room.has X G fun _ _ _ _ _ _ us hl => match us, hl with | [_, _], _ => rfl
  have h_look_at : Has K mg "look_at" s_look_at ["sheet", "number"] := d_look_at.has X G fun _ _ _ _ _ _ us hl => match us, hl with | [_, _], _ => rfl
  have h_look_before : Has K mg "look_before" s_look_before ["sheet", "number"] := d_look_before.has X G fun _ _ _ _ _ _ us hl => match us, hl with | [_, _], _ => rfl
  have h_moves_of : Has K mg "moves_of" s_moves_of ["sheet", "number"] := d_moves_of.has X G fun _ _ _ _ _ _ us hl => match us, hl with | [_, _], _ => rfl
  have h_add_moves : Has K mg "add_moves" s_add_moves ["moves", "look", "wanted"] := d_add_moves.has X G fun _ _ _ _ _ _ us hl => match us, hl with | [_, _, _], _ => rfl
  have h_drop_needless : Has K mg "drop_needless" s_drop_needless ["sheet", "number"] := d_drop_needless.has X G fun _ _ _ _ _ _ us hl => match us, hl with | [_, _], _ => rfl
  have h_held_number : Has K mg "held_number" s_held_number ["sheet", "number", "how"] := d_held_number.has X G fun _ _ _ _ _ _ us hl => match us, hl with | [_, _, _], _ => rfl
  have h_replace_cue : Has K mg "replace_cue" s_replace_cue ["sheet", "number", "moves"] := d_replace_cue.has X G fun _ _ _ _ _ _ us hl => match us, hl with | [_, _, _], _ => rfl
  have h_edit : Has K mg "edit" s_edit ["sheet", "number", "moves", "how"] := d_edit.has X G fun _ _ _ _ _ _ us hl => match us, hl with | [_, _, _, _], _ => rfl
  have h_record_move : Has K mg "record_move" s_record_move ["sheet", "number", "channel", "level", "how"] := d_record_move.has X G fun _ _ _ _ _ _ us hl => match us, hl with | [_, _, _, _, _], _ => rfl
  have h_release_move : Has K mg "release_move" s_release_move ["sheet", "number", "channel", "how"] := d_release_move.has X G fun _ _ _ _ _ _ us hl => match us, hl with | [_, _, _, _], _ => rfl
  have h_delete_cue : Has K mg "delete_cue" s_delete_cue ["sheet", "number", "how"] := d_delete_cue.has X G fun _ _ _ _ _ _ us hl => match us, hl with | [_, _, _], _ => rfl
  have h_copy_cue : Has K mg "copy_cue" s_copy_cue ["sheet", "source", "to", "how"] := d_copy_cue.has X G fun _ _ _ _ _ _ us hl => match us, hl with | [_, _, _, _], _ => rfl
  have h_block_cue : Has K mg "block_cue" s_block_cue ["sheet", "number"] := d_block_cue.has X G fun _ _ _ _ _ _ us hl => match us, hl with | [_, _], _ => rfl
  have h_unblock_cue : Has K mg "unblock_cue" s_unblock_cue ["sheet", "number"] := d_unblock_cue.has X G fun _ _ _ _ _ _ us hl => match us, hl with | [_, _], _ => rfl
  have h_clean_sheet : Has K mg "clean_sheet" s_clean_sheet ["sheet"] := d_clean_sheet.has X G fun _ _ _ _ _ _ us hl => match us, hl with | [_], _ => rfl
  have h_told_cues : Has K mg "told_cues" s_told_cues ["sheet"] := d_told_cues.has X G fun _ _ _ _ _ _ us hl => match us, hl with | [_], _ => rfl
  have h_told_moves : Has K mg "told_moves" s_told_moves ["sheet", "number"] := d_told_moves.has X G fun _ _ _ _ _ _ us hl => match us, hl with | [_, _], _ => rfl
  have h_told_look : Has K mg "told_look" s_told_look ["sheet", "number"] := d_told_look.has X G fun _ _ _ _ _ _ us hl => match us, hl with | [_, _], _ => rfl
  have h_told_track : Has K mg "told_track" s_told_track ["sheet", "channel"] := d_told_track.has X G fun _ _ _ _ _ _ us hl => match us, hl with | [_, _], _ => rfl
  have h_told_differences : Has K mg "told_differences" s_told_differences ["sheet", "first", "second"] := d_told_differences.has X G fun _ _ _ _ _ _ us hl => match us, hl with | [_, _, _], _ => rfl
  have h_changed : Has K mg "changed" s_changed ["sheet", "call", "numbers"] := d_changed.has X G fun _ _ _ _ _ _ us hl => match us, hl with | [_, _, _], _ => rfl
  have h_asked : Has K mg "asked" s_asked ["sheet", "call", "numbers"] := d_asked.has X G fun _ _ _ _ _ _ us hl => match us, hl with | [_, _, _], _ => rfl
  have h_answer_to : Has K mg "answer_to" s_answer_to ["sheet", "call", "numbers"] := d_answer_to.has X G fun _ _ _ _ _ _ us hl => match us, hl with | [_, _, _], _ => rfl
  have o_is_number := ok_is_number (P := P) (w := w) (base := base) h_is_number T
  have o_is_channel := ok_is_channel (P := P) (w := w) (base := base) h_is_channel T
  have o_is_level := ok_is_level (P := P) (w := w) (base := base) h_is_level T
  have o_is_how := ok_is_how (P := P) (w := w) (base := base) h_is_how T
  have o_lacks_room := ok_lacks_room (P := P) (w := w) (base := base) h_lacks_room T
  have o_look_at := ok_look_at (P := P) (w := w) (base := base) h_look_at T
  have o_look_before := ok_look_before (P := P) (w := w) (base := base) h_look_before T o_look_at
  have o_moves_of := ok_moves_of (P := P) (w := w) (base := base) h_moves_of T
  have o_add_moves := ok_add_moves (P := P) (w := w) (base := base) h_add_moves T
  have o_drop_needless := ok_drop_needless (P := P) (w := w) (base := base) h_drop_needless T o_look_before
  have o_held_number := ok_held_number (P := P) (w := w) (base := base) h_held_number T
  have o_replace_cue := ok_replace_cue (P := P) (w := w) (base := base) h_replace_cue T M
  have o_edit := ok_edit (P := P) (w := w) (base := base) h_edit T o_held_number o_look_at o_replace_cue o_add_moves
  have o_record_move := ok_record_move (P := P) (w := w) (base := base) h_record_move T o_is_number o_is_channel o_is_level o_is_how o_lacks_room o_moves_of o_edit
  have o_release_move := ok_release_move (P := P) (w := w) (base := base) h_release_move T o_is_number o_is_channel o_is_how o_moves_of o_edit
  have o_delete_cue := ok_delete_cue (P := P) (w := w) (base := base) h_delete_cue T o_is_number o_is_how o_edit
  have o_copy_cue := ok_copy_cue (P := P) (w := w) (base := base) h_copy_cue T o_is_number o_is_how o_lacks_room o_moves_of o_look_at o_add_moves o_edit
  have o_block_cue := ok_block_cue (P := P) (w := w) (base := base) h_block_cue T o_look_at
  have o_unblock_cue := ok_unblock_cue (P := P) (w := w) (base := base) h_unblock_cue T o_drop_needless
  have o_clean_sheet := ok_clean_sheet (P := P) (w := w) (base := base) h_clean_sheet T o_drop_needless
  have o_told_cues := ok_told_cues (P := P) (w := w) (base := base) h_told_cues T
  have o_told_moves := ok_told_moves (P := P) (w := w) (base := base) h_told_moves T
  have o_told_look := ok_told_look (P := P) (w := w) (base := base) h_told_look T o_look_at
  have o_told_track := ok_told_track (P := P) (w := w) (base := base) h_told_track T o_is_channel
  have o_told_differences := ok_told_differences (P := P) (w := w) (base := base) h_told_differences T o_look_at
  have o_changed := ok_changed (P := P) (w := w) (base := base) h_changed T2 o_record_move o_release_move o_delete_cue o_copy_cue o_block_cue o_unblock_cue o_clean_sheet
  have o_asked := ok_asked (P := P) (w := w) (base := base) h_asked T2 o_told_cues o_told_moves o_told_look o_told_track o_told_differences
  have o_answer_to := ok_answer_to (P := P) (w := w) (base := base) h_answer_to T2 o_changed o_asked
  exact ok_answers FA T.len (PySem.W.mg_of X G aN) lN o_answer_to
/-- the request that is locked -/
theorem arg_of {K : PySem.W.Frag} {H : Hp} {a : Addr} {xs : List V} (hO : OnlyF H) (h : SqL K H a xs) : Arg K H a xs := by
  rcases h with h | h
  · rcases h with h | h
    · rcases hO a with e | ⟨o, u, e⟩
      · rw [e] at h
        cases h
      · rw [e] at h
        cases h
    · exact .inl h
  · exact .inr fun H' => .inr h
theorem request {K : PySem.W.Frag} {H : Hp} {a : Addr} {l : List Int} {Q : VK} {E : XK} (hO : OnlyF H) (hs : SqL K H a (l.map V.int)) (hnn : ∀ z ∈ l, 0 ≤ z) (hask : PyWqatdt.answers_asked l = true) (k : ∀ (H' : Hp) (p : Addr), H' p = some (.lst ((PyWqatdt.answers l).map V.int)) → Q (.ref p) H') : spAns K [.ref a] H Q E := by
  obtain ⟨cs, h1, h2, _, h4⟩ := asked_open hask
  exact ⟨a, l, cs, rfl, arg_of hO hs, hnn, h1, h2, fun H' p hp => k H' p (by rw [h4]; exact hp)⟩
end Cu
open PySem PySem.W PyProof.Rows
set_option maxRecDepth 100000 in
set_option maxHeartbeats 0 in
theorem PySem.Challenge.cw_cuesheets_s01_answers_holds : PySem.Challenge.rw_cuesheets_s01_answers.Holds := by
  w_on; k_headS; (case hw => exact ⟨[.list [.int 7]], by decide +kernel, by decide +kernel⟩)
  k_fillS
  refine L2.walk_specK (r := PySem.Challenge.rw_cuesheets_s01_answers) (k := 8) (CX := L2.CX0) (ps := ["calls"]) (sp := Cu.spAns) (by decide +kernel) rfl rfl ⟨rfl, by decide, by decide⟩ (fun w h Y => PySem.W.kIn_of Y) ?F ?S (fun _ _ _ _ z => z)
  case F =>
    intro w mg fa h Y KX G hmg
    refine' Cu.all_mk KX G hmg ?i_LAST_NUMBER ?i_LAST_CHANNEL ?i_TOP_LEVEL ?i_MOST_CUES ?i_ALONE ?i_IMPOSSIBLE ?i_NOT_SO ?i_NO_CUE ?i_NO_ROOM ?i_RECORD ?i_RELEASE ?i_DELETE ?i_COPY ?i_BLOCK ?i_UNBLOCK ?i_CLEAN ?i_CUES ?i_MOVES ?i_LOOK ?i_TRACK ?n_len ?n_sorted ?n_range ?n_list ?n_dict ?n_sum ?d_is_number ?d_is_channel ?d_is_level ?d_is_how ?d_lacks_room ?d_look_at ?d_look_before ?d_moves_of ?d_add_moves ?d_drop_needless ?d_held_number ?d_replace_cue ?d_edit ?d_record_move ?d_release_move ?d_delete_cue ?d_copy_cue ?d_block_cue ?d_unblock_cue ?d_clean_sheet ?d_told_cues ?d_told_moves ?d_told_look ?d_told_track ?d_told_differences ?d_changed ?d_asked ?d_answer_to ?aC ?pg ?hd ?po ?sa ?mk ?kc ?nM ?nB ?aI ?iI ?lI ?cI ?kI ?aN ?lN ?aA ?lA ?cA ?kA
    (case i_LAST_NUMBER => (refine' Cu.topInt ?e; (case e => k_is)))
    (case i_LAST_CHANNEL => (refine' Cu.topInt ?e; (case e => k_is)))
    (case i_TOP_LEVEL => (refine' Cu.topInt ?e; (case e => k_is)))
    (case i_MOST_CUES => (refine' Cu.topInt ?e; (case e => k_is)))
    (case i_ALONE => (refine' Cu.topInt ?e; (case e => k_is)))
    (case i_IMPOSSIBLE => (refine' Cu.topInt ?e; (case e => k_is)))
    (case i_NOT_SO => (refine' Cu.topInt ?e; (case e => k_is)))
    (case i_NO_CUE => (refine' Cu.topInt ?e; (case e => k_is)))
    (case i_NO_ROOM => (refine' Cu.topInt ?e; (case e => k_is)))
    (case i_RECORD => (refine' Cu.topInt ?e; (case e => k_is)))
    (case i_RELEASE => (refine' Cu.topInt ?e; (case e => k_is)))
    (case i_DELETE => (refine' Cu.topInt ?e; (case e => k_is)))
    (case i_COPY => (refine' Cu.topInt ?e; (case e => k_is)))
    (case i_BLOCK => (refine' Cu.topInt ?e; (case e => k_is)))
    (case i_UNBLOCK => (refine' Cu.topInt ?e; (case e => k_is)))
    (case i_CLEAN => (refine' Cu.topInt ?e; (case e => k_is)))
    (case i_CUES => (refine' Cu.topInt ?e; (case e => k_is)))
    (case i_MOVES => (refine' Cu.topInt ?e; (case e => k_is)))
    (case i_LOOK => (refine' Cu.topInt ?e; (case e => k_is)))
    (case i_TRACK => (refine' Cu.topInt ?e; (case e => k_is)))
    (case n_len => k_is)
    (case n_sorted => k_is)
    (case n_range => k_is)
    (case n_list => k_is)
    (case n_dict => k_is)
    (case n_sum => k_is)
    (case d_is_number => (refine' Cu.topDef ?a ?l ?c ?k; (case a => k_is); (case l => k_is); (case c => k_is); (case k => k_is)))
    (case d_is_channel => (refine' Cu.topDef ?a ?l ?c ?k; (case a => k_is); (case l => k_is); (case c => k_is); (case k => k_is)))
    (case d_is_level => (refine' Cu.topDef ?a ?l ?c ?k; (case a => k_is); (case l => k_is); (case c => k_is); (case k => k_is)))
    (case d_is_how => (refine' Cu.topDef ?a ?l ?c ?k; (case a => k_is); (case l => k_is); (case c => k_is); (case k => k_is)))
    (case d_lacks_room => (refine' Cu.topDef ?a ?l ?c ?k; (case a => k_is); (case l => k_is); (case c => k_is); (case k => k_is)))
    (case d_look_at => (refine' Cu.topDef ?a ?l ?c ?k; (case a => k_is); (case l => k_is); (case c => k_is); (case k => k_is)))
    (case d_look_before => (refine' Cu.topDef ?a ?l ?c ?k; (case a => k_is); (case l => k_is); (case c => k_is); (case k => k_is)))
    (case d_moves_of => (refine' Cu.topDef ?a ?l ?c ?k; (case a => k_is); (case l => k_is); (case c => k_is); (case k => k_is)))
    (case d_add_moves => (refine' Cu.topDef ?a ?l ?c ?k; (case a => k_is); (case l => k_is); (case c => k_is); (case k => k_is)))
    (case d_drop_needless => (refine' Cu.topDef ?a ?l ?c ?k; (case a => k_is); (case l => k_is); (case c => k_is); (case k => k_is)))
    (case d_held_number => (refine' Cu.topDef ?a ?l ?c ?k; (case a => k_is); (case l => k_is); (case c => k_is); (case k => k_is)))
    (case d_replace_cue => (refine' Cu.topDef ?a ?l ?c ?k; (case a => k_is); (case l => k_is); (case c => k_is); (case k => k_is)))
    (case d_edit => (refine' Cu.topDef ?a ?l ?c ?k; (case a => k_is); (case l => k_is); (case c => k_is); (case k => k_is)))
    (case d_record_move => (refine' Cu.topDef ?a ?l ?c ?k; (case a => k_is); (case l => k_is); (case c => k_is); (case k => k_is)))
    (case d_release_move => (refine' Cu.topDef ?a ?l ?c ?k; (case a => k_is); (case l => k_is); (case c => k_is); (case k => k_is)))
    (case d_delete_cue => (refine' Cu.topDef ?a ?l ?c ?k; (case a => k_is); (case l => k_is); (case c => k_is); (case k => k_is)))
    (case d_copy_cue => (refine' Cu.topDef ?a ?l ?c ?k; (case a => k_is); (case l => k_is); (case c => k_is); (case k => k_is)))
    (case d_block_cue => (refine' Cu.topDef ?a ?l ?c ?k; (case a => k_is); (case l => k_is); (case c => k_is); (case k => k_is)))
    (case d_unblock_cue => (refine' Cu.topDef ?a ?l ?c ?k; (case a => k_is); (case l => k_is); (case c => k_is); (case k => k_is)))
    (case d_clean_sheet => (refine' Cu.topDef ?a ?l ?c ?k; (case a => k_is); (case l => k_is); (case c => k_is); (case k => k_is)))
    (case d_told_cues => (refine' Cu.topDef ?a ?l ?c ?k; (case a => k_is); (case l => k_is); (case c => k_is); (case k => k_is)))
    (case d_told_moves => (refine' Cu.topDef ?a ?l ?c ?k; (case a => k_is); (case l => k_is); (case c => k_is); (case k => k_is)))
    (case d_told_look => (refine' Cu.topDef ?a ?l ?c ?k; (case a => k_is); (case l => k_is); (case c => k_is); (case k => k_is)))
    (case d_told_track => (refine' Cu.topDef ?a ?l ?c ?k; (case a => k_is); (case l => k_is); (case c => k_is); (case k => k_is)))
    (case d_told_differences => (refine' Cu.topDef ?a ?l ?c ?k; (case a => k_is); (case l => k_is); (case c => k_is); (case k => k_is)))
    (case d_changed => (refine' Cu.topDef ?a ?l ?c ?k; (case a => k_is); (case l => k_is); (case c => k_is); (case k => k_is)))
    (case d_asked => (refine' Cu.topDef ?a ?l ?c ?k; (case a => k_is); (case l => k_is); (case c => k_is); (case k => k_is)))
    (case d_answer_to => (refine' Cu.topDef ?a ?l ?c ?k; (case a => k_is); (case l => k_is); (case c => k_is); (case k => k_is)))
    (case aC => k_is)
    (case pg => k_is)
    (case hd => k_is)
    (case po => k_is)
    (case sa => k_is)
    (case mk => k_is)
    (case kc => k_is)
    (case nM => k_is)
    (case nB => k_is)
    (case aI => k_is)
    (case iI => k_is)
    (case lI => k_is)
    (case cI => k_is)
    (case kI => k_is)
    (case aN => k_is)
    (case lN => (refine' Cu.kdict ?l; (case l => k_is)))
    (case aA => k_is)
    (case lA => k_is)
    (case cA => k_is)
    (case kA => k_is)
  case S =>
    intro K H xs a hO hwi hask hx
    cases hx with
    | cons h1 h2 =>
      cases h2
      cases h1 with
      | lst hs ha =>
        have e := L2.ints_dw a.1 _ ha
        subst e
        have q : ((Codec.inLen 0 31000 a.1 && a.1.all (Codec.inInt 0 4294967295)) && true) = true := hwi
        rw [Bool.and_eq_true, Bool.and_eq_true] at q
        exact Cu.request hO hs (fun z hz => (Codec.inInt_iff.mp (List.all_eq_true.mp q.1.2 z hz)).1) hask fun H' p hp => .lst (L2.SqL.of hp) (L2.dw_ints _)
#print axioms PySem.Challenge.cw_cuesheets_s01_answers_holds
