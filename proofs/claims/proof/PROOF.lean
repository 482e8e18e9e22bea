import PyProof.Rows.All
import Wide.All
import OpenK.AllK
import Wide.FinOn
import PyProof.EqAt
import PyProof.EqKinds
import PyProof.TupleCall
import KE.BitLaws
import Open.SpecLaws
import KE.OsHead
import KE.OsGo
import PySem.Challenge.RW_onetext_s01_answers
section
set_option Elab.async false
set_option linter.all false
set_option maxRecDepth 100000
namespace L2
open PySem PySem.Spec PyProof.Rows
abbrev Key := Sum Int Str
def keyIs : Key → Value → Bool
  | .inl k, v => Value.isInt k v
  | .inr x, v => Value.isStrOf x v
def keyH (w : World) : Key → Int
  | .inl k => hashInt k
  | .inr x => hashStr w x
theorem keyIs_shape : ∀ {k : Key} {v : Value}, keyIs k v = true → (∃ i t, k = Sum.inl i ∧ v = Value.int i t) ∨ (∃ x t, k = Sum.inr x ∧ v = Value.str x t)
  | .inl i, v, h => by
    obtain ⟨t, e⟩ := Value.isInt_shape (k := i) (v := v) h
    exact .inl ⟨i, t, rfl, e⟩
  | .inr x, v, h => by
    obtain ⟨t, e⟩ := Value.isStrOf_shape (x := x) (v := v) h
    exact .inr ⟨x, t, rfl, e⟩
theorem keyIs_int (i : Int) (t : Tok) : keyIs (.inl i) (.int i t) = true := by simp [keyIs, Value.isInt]
theorem keyIs_str (x : Str) (t : Tok) : keyIs (.inr x) (.str x t) = true := by simp [keyIs, Value.isStrOf]
theorem key_ll (a b : Int) : decide ((Sum.inl a : Key) = Sum.inl b) = (a == b) := by
  by_cases e : a = b
  · subst e; simp
  · have h : ¬ (Sum.inl a : Key) = Sum.inl b := fun q => e (Sum.inl.inj q)
    rw [decide_eq_false h]
    exact (beq_eq_false_iff_ne.mpr e).symm
theorem key_rr (a b : Str) : decide ((Sum.inr a : Key) = Sum.inr b) = decide (a = b) := by
  by_cases e : a = b
  · subst e; simp
  · have h : ¬ (Sum.inr a : Key) = Sum.inr b := fun q => e (Sum.inr.inj q)
    rw [decide_eq_false h, decide_eq_false e]
theorem key_lr (a : Int) (b : Str) : decide ((Sum.inl a : Key) = Sum.inr b) = false := decide_eq_false (fun q => nomatch q)
theorem key_rl (a : Str) (b : Int) : decide ((Sum.inr a : Key) = Sum.inl b) = false := decide_eq_false (fun q => nomatch q)
def mixKind (prog : Program) (w : World) : PySem.KeyKind prog w Key where
  is := keyIs
  hash := keyH w
  inj := fun v a b ha hb => by
    rcases keyIs_shape ha with ⟨i, t, rfl, rfl⟩ | ⟨x, t, rfl, rfl⟩
    · rcases keyIs_shape hb with ⟨j, u, rfl, e⟩ | ⟨y, u, rfl, e⟩
      · injection e with e1 _; rw [e1]
      · exact nomatch e
    · rcases keyIs_shape hb with ⟨j, u, rfl, e⟩ | ⟨y, u, rfl, e⟩
      · exact nomatch e
      · injection e with e1 _; rw [e1]
  byValue := fun k v h => by
    rcases keyIs_shape h with ⟨i, t, rfl, rfl⟩ | ⟨x, t, rfl, rfl⟩ <;> rfl
  pyHash := fun hv h => by
    rcases keyIs_shape hv with ⟨i, t, rfl, rfl⟩ | ⟨x, t, rfl, rfl⟩
    · exact wpAny_pyHash_int h
    · exact wpAny_pyHash_str h
  eqBool := fun hu hv h => by
    rcases keyIs_shape hu with ⟨i, t, rfl, rfl⟩ | ⟨x, t, rfl, rfl⟩
    · rcases keyIs_shape hv with ⟨j, u, rfl, rfl⟩ | ⟨y, u, rfl, rfl⟩
      · rw [key_ll] at h; exact wpAny_eqBool_int h
      · rw [key_lr] at h; exact SeqAt.EqAt.int_str i t y u _ _ _ _ h
    · rcases keyIs_shape hv with ⟨j, u, rfl, rfl⟩ | ⟨y, u, rfl, rfl⟩
      · rw [key_rl] at h; exact SeqAt.EqAt.str_int x t j u _ _ _ _ h
      · rw [key_rr] at h; exact wpAny_eqBool_str h
  «strs» := fun k x t v h => by
    rcases keyIs_shape h with ⟨i, u, rfl, e⟩ | ⟨y, u, rfl, e⟩
    · exact nomatch e
    · injection e with e1 _
      subst e1
      cases v <;> rfl
theorem mixKind_int (prog : Program) (w : World) (i : Int) (t : Tok) : (mixKind prog w).is (.inl i) (.int i t) = true := keyIs_int i t
theorem mixKind_str (prog : Program) (w : World) (x : Str) (t : Tok) : (mixKind prog w).is (.inr x) (.str x t) = true := keyIs_str x t
end L2
namespace L2
open PySem PySem.Spec PyProof.Rows
inductive V where
  | non | bl (b : Bool) | int (i : Int) | str (x : Str) | byt (b : Array UInt8) | flt (b : UInt64) | ref (a : Addr) | ty (n : String)
  deriving DecidableEq
def RelV : V → Value → Prop
  | .non, u => u = Value.none
  | .bl b, u => u = Value.bool b
  | .int i, u => ∃ t, u = Value.int i t
  | .str x, u => ∃ t, u = Value.str x t
  | .byt b, u => ∃ t, u = Value.bytes b t
  | .flt b, u => ∃ t, u = Value.float b t
  | .ref a, u => u = Value.ref a
  | .ty n, u => u = Value.type n
abbrev Vals : List V → List Value → Prop := Paired RelV
theorem Vals.length {xs : List V} {us : List Value} (r : Vals xs us) : xs.length = us.length := Paired.length r
theorem Vals.get : ∀ {xs : List V} {us : List Value} {i : Nat} {x : V}, Vals xs us → xs[i]? = some x → ∃ u, us[i]? = some u ∧ RelV x u
  | _, _, _, _, .nil, e => by simp at e
  | _, _, 0, _, .cons r _, e => by simp at e; subst e; exact ⟨_, rfl, r⟩
  | _, _, i + 1, x, .cons _ t, e => by
    obtain ⟨u, h1, h2⟩ := Vals.get (i := i) (x := x) t (by simpa using e)
    exact ⟨u, by simpa using h1, h2⟩
theorem Vals.set {x : V} {u : Value} (r : RelV x u) : ∀ {xs : List V} {us : List Value} (i : Nat), Vals xs us → Vals (xs.set i x) (us.set i u)
  | _, _, _, .nil => .nil
  | _, _, 0, .cons _ t => .cons r t
  | _, _, i + 1, .cons q t => .cons q (Vals.set r i t)
theorem Vals.append : ∀ {xs ys : List V} {us ws : List Value}, Vals xs us → Vals ys ws → Vals (xs ++ ys) (us ++ ws)
  | _, _, _, _, .nil, s => s
  | _, _, _, _, .cons r t, s => .cons r (Vals.append t s)
theorem Vals.take : ∀ {xs : List V} {us : List Value} (n : Nat), Vals xs us → Vals (xs.take n) (us.take n)
  | _, _, 0, _ => .nil
  | _, _, _ + 1, .nil => .nil
  | _, _, n + 1, .cons r t => .cons r (Vals.take n t)
theorem Vals.drop : ∀ {xs : List V} {us : List Value} (n : Nat), Vals xs us → Vals (xs.drop n) (us.drop n)
  | _, _, 0, r => r
  | _, _, _ + 1, .nil => .nil
  | _, _, n + 1, .cons _ t => Vals.drop n t
theorem Vals.none_of : ∀ {xs : List V} {us : List Value} {i : Nat}, Vals xs us → xs[i]? = none → us[i]? = none := fun {xs us i} r e => by
  have h1 := r.length
  have h2 : xs.length ≤ i := List.getElem?_eq_none_iff.mp e
  exact List.getElem?_eq_none_iff.mpr (by omega)
def RelO : Option V → Option Value → Prop
  | some v, some u => RelV v u
  | none, none => True
  | _, _ => False
def KV {κ : Type} : List (κ × V) → List (κ × Value) → Prop := Paired fun (p : κ × V) (q : κ × Value) => p.1 = q.1 ∧ RelV p.2 q.2
def kV : Key → V
  | .inl i => .int i
  | .inr x => .str x
inductive HO where
  /-- a list -/
  | lst (xs : List V)
  /-- a tuple (never changes) -/
  | tup (xs : List V)
  /-- a dict whose keys are ints and texts; one whose keys are tuples of ints and texts (the empty one is both) -/
  | dK (kvs : List (Key × V)) | dT (kvs : List (List Key × V))
  /-- a set of ints: its members, its size -/
  | set (S : Int → Bool) (n : Nat)
  /-- an instance of the class at C, its dict at dx, its attributes -/
  | ins (C dx : Addr) (fs : List (Str × V))
  /-- the dict of the instance at x -/
  | own (x : Addr)
  /-- the dict of an exception -/
  | xd (fs : List (Str × V))
  /-- a bound method, f of x -/
  | met (f x : Addr)
  /-- a range object lo, lo + 1, .. below hi -/
  | rng (lo hi : Int)
  /-- a thing that is known to the object (the script; a dict while a loop walks it): read, never written while it is so -/
  | frz (o : Obj) (u : HO)
  /-- a code object's table -/
  | tbl (ps : Array Value)
  /-- any other thing, by what is true of its one object (a def of one's own: SetO a S n := HO.ext fun h => ..) -/
  | ext (φ : Heap → Prop)
abbrev Hp := Addr → Option HO
def upd (H : Hp) (a : Addr) (o : HO) : Hp := fun b => if b = a then some o else H b
theorem upd_same {H : Hp} {a : Addr} {o : HO} : upd H a o a = some o := by unfold upd; rw [if_pos rfl]
theorem upd_ne {H : Hp} {a b : Addr} {o : HO} (h : b ≠ a) : upd H a o b = H b := by unfold upd; rw [if_neg h]
theorem ne_of {H : Hp} {a b : Addr} {o u : HO} (h : H a = some o) (h' : H b = some u) (d : o ≠ u) : a ≠ b := by
  intro e; subst e; rw [h] at h'; exact d (Option.some.inj h')
theorem ne_of_none {H : Hp} {a b : Addr} {o : HO} (h : H a = some o) (h' : H b = none) : a ≠ b := by
  intro e; subst e; rw [h] at h'; cases h'
section
variable (P : Program) (w : World)
def ObjOk (H : Hp) (h : Heap) (a : Addr) : HO → Prop
  | .lst xs => xs.length ≤ sizeLine ∧ ∃ (its : List Value) (n : Nat), Vals xs its ∧ h.get? a = some { cls := .type "list", data := .seq its.toArray n }
  | .tup xs => xs.length ≤ sizeLine ∧ ∃ its : List Value, Vals xs its ∧ IsTup h a its.toArray
  | .dK kvs => kvs.length ≤ sizeLine ∧ (a == sysModules) = false ∧ ∃ vs, KV kvs vs ∧ h.DictOf (mixKind P w) a vs
  | .dT kvs => kvs.length ≤ sizeLine ∧ (a == sysModules) = false ∧ ∃ xs : List (List Key × Addr × Value),
      Paired (fun (p : List Key × V) (q : List Key × Addr × Value) => p.1 = q.1 ∧ H q.2.1 = some (.tup (p.1.map kV)) ∧ RelV p.2 q.2.2) kvs xs ∧
      ∃ o es ep, h.get? a = some o ∧ o.ExactDict ∧ o.data = .dict es ep ∧ es.toList = xs.map (entryOfKey (tupleKind (mixKind P w))) ∧ (xs.map (·.1)).Nodup
  | .set S n => h.SetOf (intKind P w) a S n
  | .ins C dx fs => H dx = some (.own a) ∧ fs.length ≤ 1000 ∧ dx ≠ a ∧ h.get? a = some (PySem.W.instObj C dx) ∧
      ∃ mA, h.Ns1 dx mA ∧ (∀ f, RelO (fs.lookup f) (mA f)) ∧ PySem.Within mA (fs.map (·.1))
  | .own _ => ∃ o, h.get? a = some o
  | .xd fs => ∃ mA, h.Ns1 a mA ∧ ∀ f, RelO (fs.lookup f) (mA f)
  | .rng lo hi => ∃ t u v, h.get? a = some { cls := .type "range", data := .fields #[.int lo t, .int hi u, .int 1 v] }
  | .frz o u => h.get? a = some o ∧ ObjOk H h a u
  | .tbl ps => h.get? a = some { cls := .none, data := .fields ps }
  | .met f x => h.get? a = some (PySem.W.methodObj (.ref f) (.ref x))
  | .ext φ => φ h ∧ (∃ o, h.get? a = some o) ∧ ∀ h1 h2 : Heap, φ h1 → (∀ o, h1.get? a = some o → h2.get? a = some o) → φ h2
def HOk (H : Hp) (h : Heap) : Prop := ∀ a o, H a = some o → ObjOk P w H h a o
end
section
variable {P : Program} {w : World} {H H' : Hp} {h h' : Heap} {a : Addr} {o : HO}
theorem ObjOk.lt (x : ObjOk P w H h a o) : a < h.objs.size := by
  cases o with
  | lst xs => obtain ⟨_, _, _, _, e⟩ := x; exact Heap.lt_size e
  | tup xs => obtain ⟨_, _, _, p⟩ := x; exact p.lt
  | dK kvs => obtain ⟨_, _, _, _, o, _, _, e, _⟩ := x; exact Heap.lt_size e
  | dT kvs => obtain ⟨_, _, _, _, o, _, _, e, _⟩ := x; exact Heap.lt_size e
  | set S n => obtain ⟨o, _, _, _, e, _⟩ := x; exact Heap.lt_size e
  | ins C dx fs => obtain ⟨_, _, _, e, _⟩ := x; exact Heap.lt_size e
  | own y => obtain ⟨_, e⟩ := x; exact Heap.lt_size e
  | xd fs => obtain ⟨_, ⟨_, _, _, e, _⟩, _⟩ := x; exact Heap.lt_size e
  | rng lo hi => obtain ⟨_, _, _, e⟩ := x; exact Heap.lt_size e
  | frz ob u => obtain ⟨e, _⟩ := x; exact Heap.lt_size e
  | tbl ps => exact Heap.lt_size (show h.get? a = some _ from x)
  | met f y => exact Heap.lt_size (show h.get? a = some _ from x)
  | ext φ => obtain ⟨_, ⟨_, e⟩, _⟩ := x; exact Heap.lt_size e
theorem Paired.mapP {α β : Type} {F G : α → β → Prop} : ∀ {l₁ : List α} {l₂ : List β}, Paired F l₁ l₂ → (∀ a b, F a b → G a b) → Paired G l₁ l₂
  | _, _, .nil, _ => .nil
  | _, _, .cons r t, f => .cons (f _ _ r) (Paired.mapP t f)
theorem ObjOk.stay (x : ObjOk P w H h a o) (k : ∀ b u, (b = a ∨ H b = some (.own a)) → h.get? b = some u → h'.get? b = some u)
    (ho : ∀ b, H b = some (.own a) → H' b = some (.own a)) (ht : ∀ b xs, H b = some (.tup xs) → H' b = some (.tup xs)) : ObjOk P w H' h' a o := by
  induction o with
  | lst xs => obtain ⟨z, its, n, r, e⟩ := x; exact ⟨z, its, n, r, k _ _ (.inl rfl) e⟩
  | tup xs => obtain ⟨z, its, r, ob, e, c⟩ := x; exact ⟨z, its, r, ob, k _ _ (.inl rfl) e, c⟩
  | dK kvs => obtain ⟨z, y, vs, r, ob, es, ep, e, c⟩ := x; exact ⟨z, y, vs, r, ob, es, ep, k _ _ (.inl rfl) e, c⟩
  | dT kvs =>
    obtain ⟨z, y, xs, r, ob, es, ep, e, c⟩ := x
    exact ⟨z, y, xs, Paired.mapP r fun p q z => ⟨z.1, ht _ _ z.2.1, z.2.2⟩, ob, es, ep, k _ _ (.inl rfl) e, c⟩
  | set S n => obtain ⟨ob, es, ep, t, e, c⟩ := x; exact ⟨ob, es, ep, t, k _ _ (.inl rfl) e, c⟩
  | ins C dx fs =>
    obtain ⟨d, z, ne, e, mA, ⟨od, es, ep, e2, c⟩, r⟩ := x
    exact ⟨ho _ d, z, ne, k _ _ (.inl rfl) e, mA, ⟨od, es, ep, k _ _ (.inr d) e2, c⟩, r⟩
  | own y => obtain ⟨ob, e⟩ := x; exact ⟨ob, k _ _ (.inl rfl) e⟩
  | xd fs => obtain ⟨mA, ⟨od, es, ep, e, c⟩, r⟩ := x; exact ⟨mA, ⟨od, es, ep, k _ _ (.inl rfl) e, c⟩, r⟩
  | rng lo hi => obtain ⟨t, u, v, e⟩ := x; exact ⟨t, u, v, k _ _ (.inl rfl) e⟩
  | frz ob u ih => obtain ⟨e, q⟩ := x; exact ⟨k _ _ (.inl rfl) e, ih q⟩
  | tbl ps =>
    have e : h.get? a = some { cls := .none, data := .fields ps } := x
    show h'.get? a = some { cls := .none, data := .fields ps }
    exact k a _ (.inl rfl) e
  | met f y =>
    have e : h.get? a = some (PySem.W.methodObj (.ref f) (.ref y)) := x
    show h'.get? a = some (PySem.W.methodObj (.ref f) (.ref y))
    exact k a _ (.inl rfl) e
  | ext φ => obtain ⟨p, ⟨o, e⟩, st⟩ := x; exact ⟨st _ _ p fun o q => k _ _ (.inl rfl) q, ⟨o, k _ _ (.inl rfl) e⟩, st⟩
theorem HOk.lt (x : HOk P w H h) (e : H a = some o) : a < h.objs.size := (x a o e).lt
theorem HOk.fresh (x : HOk P w H h) (e : h.objs.size ≤ a) : H a = none := by
  cases q : H a with
  | none => rfl
  | some u => exact absurd (Nat.lt_of_lt_of_le (x.lt q) e) (Nat.lt_irrefl _)
theorem HOk.kept (x : HOk P w H h) (k : ∀ b u, h.get? b = some u → h'.get? b = some u) : HOk P w H h' := fun a o e =>
  (x a o e).stay (fun b u _ q => k b u q) (fun _ q => q) fun _ _ q => q
theorem HOk.laid (x : HOk P w H h) (k : ∀ b u, h.get? b = some u → h'.get? b = some u) (hp : h.objs.size ≤ a) (new : ObjOk P w (upd H a o) h' a o) : HOk P w (upd H a o) h' := fun b u e => by
  have hn := x.fresh hp
  by_cases hb : b = a
  · subst hb; rw [upd_same] at e; cases e; exact new
  · rw [upd_ne hb] at e
    exact (x b u e).stay (fun c v _ q => k c v q) (fun c q => by rw [upd_ne (ne_of_none q hn)]; exact q) fun c xs q => by rw [upd_ne (ne_of_none q hn)]; exact q
end
def Rd (H : Hp) (a : Addr) (u : HO) : Prop := H a = some u ∨ ∃ o, H a = some (.frz o u)
theorem Rd.of {H : Hp} {a : Addr} {u : HO} (h : H a = some u) : Rd H a u := .inl h
theorem Rd.ok {P : Program} {w : World} {H : Hp} {h : Heap} {a : Addr} {u : HO} (r : Rd H a u) (x : HOk P w H h) : ObjOk P w H h a u := by
  rcases r with r | ⟨o, r⟩
  · exact x a u r
  · obtain ⟨_, q⟩ := x a _ r
    exact q
def Mut : Option HO → Prop
  | some (.lst _) => True
  | some (.dK _) => True
  | some (.dT _) => True
  | some (.set _ _) => True
  | some (.ins _ _ _) => True
  | some (.ext _) => True
  | _ => False
section
variable {P : Program} {w : World} {H : Hp} {h h' : Heap} {x e : Addr} {o' : HO}
theorem HOk.write (ok : HOk P w H h) (mu : Mut (H x)) (he : e = x ∨ H e = some (.own x)) (k : ∀ b u, b ≠ e → h.get? b = some u → h'.get? b = some u) (heo : ∃ u, h'.get? e = some u)
    (new : ObjOk P w (upd H x o') h' x o') : HOk P w (upd H x o') h' := fun b u q => by
  have nown : ∀ c y, H c = some (.own y) → c ≠ x := fun c y r z => by subst z; rw [r] at mu; exact mu
  have ntup : ∀ c xs, H c = some (.tup xs) → c ≠ x := fun c xs r z => by subst z; rw [r] at mu; exact mu
  by_cases hb : b = x
  · subst hb; rw [upd_same] at q; cases q; exact new
  · rw [upd_ne hb] at q
    by_cases hbe : b = e
    · have q' : H b = some (.own x) := by
        rcases he with z | z
        · exact absurd (hbe.trans z) hb
        · rw [hbe]; exact z
      rw [q] at q'; cases q'
      obtain ⟨v, hv⟩ := heo
      exact ⟨v, by rw [hbe]; exact hv⟩
    · refine (ok b u q).stay (fun c v hc r => k c v ?_ r) (fun c r => by rw [upd_ne (nown c b r)]; exact r) fun c xs r => by rw [upd_ne (ntup c xs r)]; exact r
      rcases hc with rfl | hc
      · exact hbe
      · rintro rfl
        rcases he with z | z
        · exact nown c b hc z
        · rw [hc] at z; cases z; exact hb rfl
end
structure Un (fs ex : List Addr) (H H' : Hp) (h h' : Heap) : Prop where
  keep : ∀ b o, h.get? b = some o → H b = none → b ∉ fs → b ∉ ex → h'.get? b = some o
  slot : ∀ b o, h.get? b = some o → H b = none → b ∈ fs → b ∉ ex → ∃ sl, h'.get? b = some { o with slots := sl }
  free : ∀ b o, h.get? b = some o → H b = none → b ∉ ex → H' b = none
  there : ∀ b o, h.get? b = some o → b ∉ ex → ∃ o', h'.get? b = some o'
  tups : ∀ b xs, H b = some (.tup xs) → H' b = some (.tup xs)
  frzs : ∀ b o u, H b = some (.frz o u) → H' b = some (.frz o u)
  tbls : ∀ b ps, H b = some (.tbl ps) → ∃ more, H' b = some (.tbl (ps ++ more))
section
variable {fs fs' ex ex' : List Addr} {H H1 H2 : Hp} {h h1 h2 h' : Heap} {a x e : Addr} {o : HO}
theorem Un.any (u : Un fs ex H H1 h h1) {b : Addr} {ob : Obj} (q : h.get? b = some ob) (n : H b = none) (hx : b ∉ ex) : ∃ sl, h1.get? b = some { ob with slots := sl } := by
  by_cases hb : b ∈ fs
  · exact u.slot b ob q n hb hx
  · exact ⟨ob.slots, u.keep b ob q n hb hx⟩
theorem Un.trans (a : Un fs ex H H1 h h1) (b : Un fs ex H1 H2 h1 h2) : Un fs ex H H2 h h2 where
  keep := fun c ob q n hc hx => b.keep c ob (a.keep c ob q n hc hx) (a.free c ob q n hx) hc hx
  slot := fun c ob q n hc hx => by
    obtain ⟨sl, e1⟩ := a.slot c ob q n hc hx
    obtain ⟨sl', e2⟩ := b.slot c _ e1 (a.free c ob q n hx) hc hx
    exact ⟨sl', e2⟩
  free := fun c ob q n hx => by
    obtain ⟨o', e1⟩ := a.there c ob q hx
    exact b.free c o' e1 (a.free c ob q n hx) hx
  there := fun c ob q hx => by
    obtain ⟨o', e1⟩ := a.there c ob q hx
    exact b.there c o' e1 hx
  tups := fun c xs q => b.tups c xs (a.tups c xs q)
  frzs := fun c ob xs q => b.frzs c ob xs (a.frzs c ob xs q)
  tbls := fun c ps q => by
    obtain ⟨m1, e1⟩ := a.tbls c ps q
    obtain ⟨m2, e2⟩ := b.tbls c _ e1
    exact ⟨m1 ++ m2, by rw [e2, Array.append_assoc]⟩
theorem Un.kept (k : ∀ b u, h.get? b = some u → h'.get? b = some u) : Un fs ex H H h h' :=
  ⟨fun b ob q _ _ _ => k b ob q, fun b ob q _ _ _ => ⟨ob.slots, k b ob q⟩, fun _ _ _ n _ => n, fun b ob q _ => ⟨ob, k b ob q⟩, fun _ _ q => q, fun _ _ _ q => q, fun _ ps q => ⟨#[], by rw [q]; simp⟩⟩
theorem Un.refl : Un fs ex H H h h := Un.kept fun _ _ q => q
theorem Un.laid (k : ∀ b u, h.get? b = some u → h'.get? b = some u) (hp : h.objs.size ≤ a) (hn : H a = none) : Un fs ex H (upd H a o) h h' where
  keep := fun b u q _ _ _ => k b u q
  slot := fun b u q _ _ _ => ⟨u.slots, k b u q⟩
  free := fun b u q n _ => by rw [upd_ne (Nat.ne_of_lt (Nat.lt_of_lt_of_le (Heap.lt_size q) hp))]; exact n
  there := fun b u q _ => ⟨u, k b u q⟩
  tups := fun b xs q => by rw [upd_ne (ne_of_none q hn)]; exact q
  frzs := fun b u xs q => by rw [upd_ne (ne_of_none q hn)]; exact q
  tbls := fun b ps q => ⟨#[], by rw [upd_ne (ne_of_none q hn), q]; simp⟩
theorem Un.write (mu : Mut (H x)) (he : e = x ∨ H e = some (.own x)) (k : ∀ b u, b ≠ e → h.get? b = some u → h'.get? b = some u) (heo : ∃ u, h'.get? e = some u) : Un fs ex H (upd H x o) h h' := by
  have hx : ∀ b, H b = none → b ≠ x := fun b n z => by subst z; rw [n] at mu; exact mu
  have hb : ∀ b, H b = none → b ≠ e := fun b n z => by
    subst z
    rcases he with r | r
    · exact hx b n r
    · rw [n] at r; cases r
  have hm : ∀ b u, H b = some u → ¬ Mut (some u) → b ≠ x := fun b u q nm z => by subst z; rw [q] at mu; exact nm mu
  refine ⟨fun b u q n _ _ => k b u (hb b n) q, fun b u q n _ _ => ⟨u.slots, k b u (hb b n) q⟩, fun b u q n _ => by rw [upd_ne (hx b n)]; exact n, fun b u q _ => ?_,
    fun b xs q => by rw [upd_ne (hm b _ q fun z => z)]; exact q, fun b u xs q => by rw [upd_ne (hm b _ q fun z => z)]; exact q, fun b ps q => ⟨#[], by rw [upd_ne (hm b _ q fun z => z), q]; simp⟩⟩
  by_cases hbe : b = e
  · subst hbe; exact heo
  · exact ⟨u, k b u hbe q⟩
theorem Un.mono (u : Un fs ex H H1 h h1) (hs : ∀ b ∈ fs, b ∈ fs') (hx : ∀ b ∈ ex, b ∈ ex') : Un fs' ex' H H1 h h1 :=
  ⟨fun b ob q n hb he => u.keep b ob q n (fun z => hb (hs b z)) fun z => he (hx b z), fun _ _ q n _ he => u.any q n fun z => he (hx _ z), fun b ob q n he => u.free b ob q n fun z => he (hx b z), fun b ob q he => u.there b ob q fun z => he (hx b z), u.tups, u.frzs, u.tbls⟩
end
def trk (h : Heap) (H : Hp) : List Addr := (List.range h.objs.size).filter fun a => (H a).isSome
def hidT (h : Heap) (H : Hp) : Heap := PySem.W.hideAll h (trk h H)
theorem hidT_size (h : Heap) (H : Hp) : (hidT h H).objs.size = h.objs.size := PySem.W.hideAll_size _ _
theorem hidT_get {h : Heap} {H : Hp} {b : Addr} {o : Obj} (e : h.get? b = some o) (n : H b = none) : (hidT h H).get? b = some o :=
  PySem.W.hideAll_get _ e fun hm => by
    have q : (H b).isSome = true := (List.mem_filter.mp hm).2
    rw [n] at q; simp at q
theorem of_hidT {h : Heap} {H : Hp} {b : Addr} {o : Obj} (e : (hidT h H).get? b = some o) : h.get? b = some o ∧ H b = none := by
  have e' : h.get? b = some o := PySem.W.of_hideAll (trk h H) e
  refine ⟨e', ?_⟩
  cases q : H b with
  | none => rfl
  | some x =>
    have hm : b ∈ trk h H := List.mem_filter.mpr ⟨List.mem_range.mpr (Heap.lt_size e'), by simp [q]⟩
    have z : (hidT h H).get? b = none := PySem.W.hideAll_none (trk h H) hm
    rw [z] at e; cases e
def allNews (g h : Heap) (L : Addr) : List (Addr × Obj) := (List.range h.objs.size).filterMap fun a => if a = L ∨ (g.get? a).isSome = true then none else (h.get? a).map fun o => (a, o)
def rest (g h : Heap) (L d : Addr) : List (Addr × Obj) := (allNews g h L).filter fun p => decide (p.1 ≠ d)
end L2
namespace L2
open PySem PySem.Spec PyProof.Rows
structure Mod (K : PySem.W.Frag) (mg : Str → Option Value) (base : Heap) : Prop where
  kin : K.In base
  glob : base.Ns mainGlobals mg
  blt : ∃ mb, base.Ns builtinsNs mb ∧ ∀ x : Str, x ≠ "__name__" → mb x = bootBuiltins x
  nolimit : base.NoLimit
structure Cx where
  prog : Program
  w : World
  K : PySem.W.Frag
  mg : Str → Option Value
  base : Heap
  A : Around
  N : List Str
  s_0 : Shared
  H_0 : Hp
  env : Env
  outer : List Env
  stack : List Env
  ex : List Addr
  fn : Str → Bool
  calm : Bool
  pn : List (Addr × Obj)
  xe : Value → Shared → Prop
def frs (l : List Env) : List Addr := l.filterMap (·.frame)
abbrev Cx.fs (X : Cx) : List Addr := frs X.outer
def Vis (sc : Scope) (x : Str) : Prop := sc.names.lookup x = some .local ∨ sc.names.lookup x = some .cell ∨ sc.names.lookup x = some .free
def Loc (sc : Scope) (x : Str) : Prop := sc.names.lookup x = some .local ∨ sc.names.lookup x = some .cell
def Look (env : Env) (h : Heap) (m : Str → Option Value) (x : Str) (u : Value) : Prop :=
  (env.kindOf x = some .local ∧ m x = some u) ∨ ((env.kindOf x = some .cell ∨ env.kindOf x = some .free) ∧ ∃ c, env.cells.lookup x = some c ∧ h.IsCell c (some u))
structure Cx.Ok (X : Cx) : Prop where
  mod : Mod X.K X.mg X.base
  kind : X.env.scope.kind = .function
  glob : X.env.globals = mainGlobals
  blt : X.env.builtins = builtinsNs
  above : X.s_0.heap.objs.size ≤ X.env.locals
  inj : ∀ x y c, X.env.cells.lookup x = some c → X.env.cells.lookup y = some c → x = y
  has : ∀ x, (X.env.kindOf x = some .cell ∨ X.env.kindOf x = some .free) → ∃ c, X.env.cells.lookup x = some c
  cab : ∀ x c, X.fn x = true → X.env.cells.lookup x = some c → X.s_0.heap.objs.size ≤ c
  hd : X.calm = true → X.A.handled = none
  frames : X.A.frames = some X.stack
  stk : X.stack = X.outer ∨ (X.stack = X.env :: X.outer ∧ X.env.frame = some X.env.locals)
  exf : ∀ b ∈ X.ex, b ≠ X.env.locals ∧ ∀ x c, X.env.cells.lookup x = some c → c ≠ b
  bs : ∀ b o, X.base.get? b = some o → X.s_0.heap.get? b = some o ∧ X.H_0 b = none
  bsz : X.base.objs.size ≤ X.s_0.heap.objs.size
  noex : ∀ b o, X.base.get? b = some o → b ∉ X.ex
  exfs : ∀ b ∈ X.ex, b ∉ X.fs
  funs : X.s_0.heap.FunFrames X.base X.outer
  frf : ∀ b ∈ X.fs, X.H_0 b = none
structure Inv (X : Cx) (pins : List (Addr × Obj)) (σ : List (Option V)) (H : Hp) (s : Shared) : Prop where
  ok : X.Ok
  os : s.os = X.s_0.os
  bare : AllBare s.gens
  base : Un X.fs X.ex X.H_0 H X.s_0.heap s.heap
  loc : ∃ m, s.heap.Ns X.env.locals m ∧ ∀ (i : Nat) (x : Str) (v : V), X.N[i]? = some x → σ[i]? = some (some v) → Vis X.env.scope x → ∃ u, RelV v u ∧ Look X.env s.heap m x u
  cell : ∀ x c, X.env.cells.lookup x = some c → ∃ v, s.heap.IsCell c v
  free : H X.env.locals = none
  freeC : ∀ x c, X.env.cells.lookup x = some c → H c = none
  pin : ∀ p ∈ X.pn ++ pins, s.heap.get? p.1 = some p.2 ∧ H p.1 = none ∧ p.1 ≠ X.env.locals ∧ p.1 ∉ X.fs ∧ ∀ v, p.2.data ≠ .cell v
  hok : HOk X.prog X.w H s.heap
  len : σ.length = X.N.length
section
variable {X : Cx} {pins : List (Addr × Obj)} {σ : List (Option V)} {H H' : Hp} {s : Shared} {h' : Heap}
theorem Cx.Ok.nofr (ok : X.Ok) {b : Addr} {o : Obj} (e : X.base.get? b = some o) : b ∉ X.fs := fun hb => by
  have := (ok.funs.mem hb).1
  rw [e] at this; cases this
theorem Inv.bs (I : Inv X pins σ H s) : ∀ b o, X.base.get? b = some o → s.heap.get? b = some o ∧ H b = none := fun b o e =>
  ⟨I.base.keep b o (I.ok.bs b o e).1 (I.ok.bs b o e).2 (I.ok.nofr e) (I.ok.noex b o e), I.base.free b o (I.ok.bs b o e).1 (I.ok.bs b o e).2 (I.ok.noex b o e)⟩
theorem Inv.bk (I : Inv X pins σ H s) : ∀ b o, X.base.get? b = some o → s.heap.get? b = some o := fun b o e => (I.bs b o e).1
theorem Inv.mod (I : Inv X pins σ H s) : Mod X.K X.mg X.base := I.ok.mod
theorem Inv.kIn (I : Inv X pins σ H s) : X.K.In s.heap := I.ok.mod.kin.keeps I.bk
theorem Inv.nolimit (I : Inv X pins σ H s) : s.heap.NoLimit := I.ok.mod.nolimit.keeps I.bk
theorem Inv.fr (I : Inv X pins σ H s) : ∃ m, Fr X.base X.env.locals s.heap m :=
  let ⟨m, hn, _⟩ := I.loc
  ⟨m, hn, I.bk, Nat.le_trans I.ok.bsz I.ok.above⟩
theorem Inv.lt (I : Inv X pins σ H s) : X.env.locals < s.heap.objs.size := let ⟨_, hn, _⟩ := I.loc; hn.lt
theorem Inv.sz (I : Inv X pins σ H s) : X.s_0.heap.objs.size ≤ s.heap.objs.size := Nat.le_trans I.ok.above (Nat.le_of_lt I.lt)
theorem Inv.nofs (I : Inv X pins σ H s) {a : Addr} (h : s.heap.objs.size ≤ a) : a ∉ X.fs := fun hb => by
  obtain ⟨_, o, ho, _⟩ := I.ok.funs.mem hb
  exact absurd (Nat.lt_of_lt_of_le (Heap.lt_size ho) (Nat.le_trans I.sz h)) (Nat.lt_irrefl _)
theorem Inv.cne (I : Inv X pins σ H s) : ∀ x c, X.env.cells.lookup x = some c → c ≠ X.env.locals := fun x c e z => by
  obtain ⟨v, o, ho, hd⟩ := I.cell x c e
  obtain ⟨m, ⟨o', es, ep, ho', hd', _⟩, _⟩ := I.loc
  rw [z, ho'] at ho; cases ho; rw [hd'] at hd; cases hd
theorem Inv.funs (I : Inv X pins σ H s) : s.heap.FunFrames X.base X.outer := by
  have all : ∀ (l : List Env), (∀ b ∈ frs l, b ∈ X.fs) → X.s_0.heap.FunFrames X.base l → s.heap.FunFrames X.base l := by
    intro l
    induction l with
    | nil => intro _ _; trivial
    | cons env r ih =>
      intro hs hl
      obtain ⟨hk, ⟨L, o, hf, hn, ho, hd⟩, hr⟩ := hl
      have hL : L ∈ X.fs := hs L (by unfold frs; rw [List.filterMap_cons, hf]; exact List.mem_cons_self)
      obtain ⟨sl, e⟩ := I.base.slot L o ho (I.ok.frf L hL) hL fun z => I.ok.exfs L z hL
      exact ⟨hk, ⟨L, _, hf, hn, e, hd⟩, ih (fun b hb => hs b (by unfold frs; rw [List.filterMap_cons, hf]; exact List.mem_cons_of_mem _ hb)) hr⟩
  exact all X.outer (fun _ hb => hb) I.ok.funs
theorem Inv.stack (I : Inv X pins σ H s) : s.heap.FunFrames X.base X.stack := by
  rcases I.ok.stk with e | ⟨e, hf⟩
  · rw [e]; exact I.funs
  · rw [e]
    obtain ⟨m, hn, _⟩ := I.loc
    refine .cons (by rw [I.ok.kind]; decide) hf hn ?_ I.funs
    exact Heap.get?_none_of_le (Nat.le_trans I.ok.bsz I.ok.above)
theorem Inv.stkSub (I : Inv X pins σ H s) : ∀ b ∈ frs X.stack, b ∈ X.env.locals :: X.fs := fun b hb => by
  rcases I.ok.stk with e | ⟨e, hf⟩
  · rw [e] at hb; exact List.mem_cons_of_mem _ hb
  · rw [e] at hb
    unfold frs at hb
    rw [List.filterMap_cons, hf] at hb
    exact hb
theorem Inv.stkFree (I : Inv X pins σ H s) : ∀ b ∈ frs X.stack, H b = none := fun b hb => by
  rcases List.mem_cons.mp (I.stkSub b hb) with e | hb
  · rw [e]; exact I.free
  · obtain ⟨_, o, ho, _⟩ := I.ok.funs.mem hb
    exact I.base.free b o ho (I.ok.frf b hb) fun z => I.ok.exfs b z hb
theorem Inv.step {g' : Array GenState} {t' : Nat} {d' : Drawn} {ch : List Addr} (I : Inv X pins σ H s)
    (hch : ∀ b ∈ ch, (b ∈ X.ex ∨ X.s_0.heap.objs.size ≤ b) ∧ b ≠ X.env.locals ∧ (∀ x c, X.env.cells.lookup x = some c → c ≠ b) ∧ ∀ p ∈ X.pn ++ pins, p.1 ≠ b)
    (keep : ∀ b o, b ≠ X.env.locals → b ∉ X.fs → b ∉ ch → s.heap.get? b = some o → H b = none → h'.get? b = some o)
    (slot : ∀ b o, b ≠ X.env.locals → b ∈ X.fs → b ∉ ch → s.heap.get? b = some o → H b = none → ∃ sl, h'.get? b = some { o with slots := sl }) (free : ∀ b o, b ∉ ch → s.heap.get? b = some o → H b = none → H' b = none)
    (there : ∀ b o, b ∉ ch → s.heap.get? b = some o → ∃ o', h'.get? b = some o')
    (tups : ∀ b xs, H b = some (.tup xs) → H' b = some (.tup xs)) (frzs : ∀ b o u, H b = some (.frz o u) → H' b = some (.frz o u)) (tbls : ∀ b ps, H b = some (.tbl ps) → ∃ more, H' b = some (.tbl (ps ++ more)))
    (ns : ∀ m, s.heap.Ns X.env.locals m → h'.Ns X.env.locals m) (hok : HOk X.prog X.w H' h') (hg : AllBare g') :
    Inv X pins σ H' { s with heap := h', gens := g', drawn := d', toks := t' } := by
  have neL : ∀ b o, X.s_0.heap.get? b = some o → b ≠ X.env.locals := fun b o e => Nat.ne_of_lt (Nat.lt_of_lt_of_le (Heap.lt_size e) I.ok.above)
  have neC : ∀ b o, X.s_0.heap.get? b = some o → b ∉ X.ex → b ∉ ch := fun b o e hx hb => by
    rcases (hch b hb).1 with z | z
    · exact hx z
    · exact absurd (Nat.lt_of_lt_of_le (Heap.lt_size e) z) (Nat.lt_irrefl _)
  have cellK : ∀ x c, X.env.cells.lookup x = some c → ∀ v, s.heap.IsCell c v → h'.IsCell c v := fun x c e v ⟨o, ho, hd⟩ => by
    have nch : c ∉ ch := fun z => (hch c z).2.2.1 x c e rfl
    by_cases hc : c ∈ X.fs
    · obtain ⟨sl, q⟩ := slot c o (I.cne x c e) hc nch ho (I.freeC x c e)
      exact ⟨_, q, hd⟩
    · exact ⟨o, keep c o (I.cne x c e) hc nch ho (I.freeC x c e), hd⟩
  refine ⟨I.ok, I.os, hg, ⟨fun b o e n hb hx => ?_, fun b o e n hb hx => ?_, fun b o e n hx => ?_, fun b o e hx => ?_, fun b xs e => tups b xs (I.base.tups b xs e), fun b o xs e => frzs b o xs (I.base.frzs b o xs e), fun b ps e => ?_⟩, ?_, fun x c e => ?_, ?_, fun x c e => ?_, fun p hp => ?_, hok, I.len⟩
  · exact keep b o (neL b o e) hb (neC b o e hx) (I.base.keep b o e n hb hx) (I.base.free b o e n hx)
  · obtain ⟨sl, e1⟩ := I.base.slot b o e n hb hx
    obtain ⟨sl', e2⟩ := slot b _ (neL b o e) hb (neC b o e hx) e1 (I.base.free b o e n hx)
    exact ⟨sl', e2⟩
  · obtain ⟨o', e1⟩ := I.base.there b o e hx
    exact free b o' (neC b o e hx) e1 (I.base.free b o e n hx)
  · obtain ⟨o', e1⟩ := I.base.there b o e hx
    exact there b o' (neC b o e hx) e1
  · obtain ⟨m1, e1⟩ := I.base.tbls b ps e
    obtain ⟨m2, e2⟩ := tbls b _ e1
    exact ⟨m1 ++ m2, by rw [e2, Array.append_assoc]⟩
  · obtain ⟨m, hn, hl⟩ := I.loc
    refine ⟨m, ns m hn, fun i x v e1 e2 e3 => ?_⟩
    obtain ⟨u, r, l⟩ := hl i x v e1 e2 e3
    refine ⟨u, r, ?_⟩
    rcases l with l | ⟨k, c, e, z⟩
    · exact .inl l
    · exact .inr ⟨k, c, e, cellK x c e _ z⟩
  · obtain ⟨v, z⟩ := I.cell x c e
    exact ⟨v, cellK x c e v z⟩
  · obtain ⟨m, ⟨o, _, _, ho, _⟩, _⟩ := I.loc
    exact free _ o (fun z => (hch _ z).2.1 rfl) ho I.free
  · obtain ⟨v, o, ho, hd⟩ := I.cell x c e
    exact free c o (fun z => (hch c z).2.2.1 x c e rfl) ho (I.freeC x c e)
  · obtain ⟨e, n, ne, nf, d⟩ := I.pin p hp
    have nch : p.1 ∉ ch := fun z => (hch p.1 z).2.2.2 p hp rfl
    exact ⟨keep p.1 p.2 ne nf nch e n, free p.1 p.2 nch e n, ne, nf, d⟩
theorem Inv.un {t' : Nat} (I : Inv X pins σ H s) (u : Un X.fs [] H H' s.heap h') (hok : HOk X.prog X.w H' h') : Inv X pins σ H' { s with heap := h', toks := t' } := by
  obtain ⟨m, ⟨o, es, ep, ho, r⟩, _⟩ := id I.loc
  obtain ⟨sl, hL⟩ := u.any ho I.free (by simp)
  exact I.step (g' := s.gens) (d' := s.drawn) (ch := []) (fun _ z => nomatch z) (fun b o _ hb _ e n => u.keep b o e n hb (by simp)) (fun b o _ hb _ e n => u.slot b o e n hb (by simp)) (fun b o _ e n => u.free b o e n (by simp)) (fun b o _ e => u.there b o e (by simp)) u.tups u.frzs u.tbls (fun m' hm => by
    obtain ⟨o', es', ep', ho', r'⟩ := hm
    rw [ho] at ho'; cases ho'
    exact ⟨_, es', ep', hL, r'⟩) hok I.bare
theorem Inv.call {g' : Array GenState} {t' : Nat} {d' : Drawn} {ch : List Addr} (I : Inv X pins σ H s) (u : Un (frs X.stack) ch H H' s.heap h') (hok : HOk X.prog X.w H' h') (hg : AllBare g')
    (hch : ∀ b ∈ ch, (b ∈ X.ex ∨ X.s_0.heap.objs.size ≤ b) ∧ b ≠ X.env.locals ∧ (∀ x c, X.env.cells.lookup x = some c → c ≠ b) ∧ ∀ p ∈ X.pn ++ pins, p.1 ≠ b) :
    Inv X pins σ H' { s with heap := h', gens := g', drawn := d', toks := t' } := by
  obtain ⟨m, ⟨o, es, ep, ho, r⟩, _⟩ := id I.loc
  obtain ⟨sl, hL⟩ := u.any ho I.free fun z => (hch _ z).2.1 rfl
  exact I.step (ch := ch) hch (fun b o hL hb hc e n => u.keep b o e n (fun z => (List.mem_cons.mp (I.stkSub b z)).elim hL hb) hc) (fun b o _ _ hc e n => u.any e n hc) (fun b o hc e n => u.free b o e n hc) (fun b o hc e => u.there b o e hc) u.tups u.frzs u.tbls (fun m' hm => by
    obtain ⟨o', es', ep', ho', r'⟩ := hm
    rw [ho] at ho'; cases ho'
    exact ⟨_, es', ep', hL, r'⟩) hok hg
theorem Inv.turned {t' : Nat} {it : Addr} (I : Inv X pins σ H s) (k : ∀ b o, b ≠ it → s.heap.get? b = some o → h'.get? b = some o) (hn : H it = none) (hL : it ≠ X.env.locals)
    (h1 : it ∈ X.ex ∨ X.s_0.heap.objs.size ≤ it) (h2 : ∀ x c, X.env.cells.lookup x = some c → c ≠ it) (h3 : ∀ p ∈ X.pn ++ pins, p.1 ≠ it) : Inv X pins σ H { s with heap := h', toks := t' } := by
  have nit : ∀ b u, H b = some u → b ≠ it := fun b u e z => by rw [z, hn] at e; cases e
  refine I.step (g' := s.gens) (d' := s.drawn) (ch := [it]) (fun b hb => ?_) (fun b o _ _ hc e _ => k b o (fun z => hc (by simp [z])) e) (fun b o _ _ hc e _ => ⟨o.slots, k b o (fun z => hc (by simp [z])) e⟩) (fun _ _ _ _ n => n)
    (fun b o hc e => ⟨o, k b o (fun z => hc (by simp [z])) e⟩) (fun _ _ e => e) (fun _ _ _ e => e) (fun b ps e => ⟨#[], by rw [e]; simp⟩) (fun m hm => ?_) (fun b u e => ?_) I.bare
  · have e : b = it := by simpa using hb
    subst e
    exact ⟨h1, hL, h2, h3⟩
  · obtain ⟨o, es, ep, ho, r⟩ := hm
    exact ⟨o, es, ep, k _ o (Ne.symm hL) ho, r⟩
  · refine (I.hok b u e).stay (fun c v hc q => k c v ?_ q) (fun _ q => q) fun _ _ q => q
    rcases hc with z | z
    · rw [z]; exact nit b u e
    · exact nit c _ z
theorem Inv.tok (I : Inv X pins σ H s) (t : Nat) : Inv X pins σ H { s with toks := t } := I.un (h' := s.heap) (t' := t) Un.refl I.hok
theorem Inv.kept {t' : Nat} (I : Inv X pins σ H s) (k : ∀ b u, s.heap.get? b = some u → h'.get? b = some u) : Inv X pins σ H { s with heap := h', toks := t' } := I.un (Un.kept k) (I.hok.kept k)
theorem Inv.laid {a : Addr} {o : HO} {t' : Nat} (I : Inv X pins σ H s) (k : ∀ b u, s.heap.get? b = some u → h'.get? b = some u) (hp : s.heap.objs.size ≤ a) (new : ObjOk X.prog X.w (upd H a o) h' a o) :
    Inv X pins σ (upd H a o) { s with heap := h', toks := t' } := I.un (Un.laid k hp (I.hok.fresh hp)) (I.hok.laid k hp new)
theorem Inv.write {x e : Addr} {o : HO} {t' : Nat} (I : Inv X pins σ H s) (mu : Mut (H x)) (he : e = x ∨ H e = some (.own x)) (k : ∀ b u, b ≠ e → s.heap.get? b = some u → h'.get? b = some u) (heo : ∃ u, h'.get? e = some u)
    (new : ObjOk X.prog X.w (upd H x o) h' x o) : Inv X pins σ (upd H x o) { s with heap := h', toks := t' } := I.un (Un.write mu he k heo) (I.hok.write mu he k heo new)
theorem Inv.weak {σ' : List (Option V)} (I : Inv X pins σ H s) (hl : σ'.length = σ.length) (w : ∀ (i : Nat) v, σ'[i]? = some (some v) → σ[i]? = some (some v)) : Inv X pins σ' H s :=
  ⟨I.ok, I.os, I.bare, I.base, let ⟨m, hn, hl'⟩ := I.loc; ⟨m, hn, fun i x v e1 e2 e3 => hl' i x v e1 (w i v e2) e3⟩, I.cell, I.free, I.freeC, I.pin, I.hok, hl.trans I.len⟩
theorem Inv.pins_of {pins' : List (Addr × Obj)} (I : Inv X pins σ H s) (h : ∀ p ∈ pins', s.heap.get? p.1 = some p.2 ∧ H p.1 = none ∧ p.1 ≠ X.env.locals ∧ p.1 ∉ X.fs ∧ ∀ v, p.2.data ≠ .cell v) : Inv X pins' σ H s :=
  ⟨I.ok, I.os, I.bare, I.base, I.loc, I.cell, I.free, I.freeC, fun p hp => (List.mem_append.mp hp).elim (fun z => I.pin p (List.mem_append_left _ z)) (h p), I.hok, I.len⟩
theorem nodup_ix {N : List Str} (hN : N.Nodup) {i j : Nat} {x : Str} (a : N[i]? = some x) (b : N[j]? = some x) : i = j := by
  obtain ⟨h1, e1⟩ := List.getElem?_eq_some_iff.mp a
  obtain ⟨h2, e2⟩ := List.getElem?_eq_some_iff.mp b
  exact (List.getElem_inj hN).mp (e1.trans e2.symm)
theorem store_ok2 {M : Model} {A : Around} {E : Value → Shared → Prop} {i : Nat} {x : Str} {v : V} {u : Value} {Q : Unit → Shared → Prop} (I : Inv X pins σ H s) (hN : X.N.Nodup) (hi : X.N[i]? = some x) (hx : Loc X.env.scope x) (r : RelV v u)
    (h : ∀ s', Inv X pins (σ.set i (some v)) H s' → (∃ a, Heap.SameBut a s.heap s'.heap ∧ (a = X.env.locals ∨ X.env.cells.lookup x = some a)) → Q () s') (hf : X.fn x = true ∨ X.env.scope.names.lookup x = some .local := by first | exact .inl rfl | exact .inr rfl | assumption) : wpAny M A (storeName X.env x u) Q E s := by
  obtain ⟨m, hn, hl⟩ := id I.loc
  have hcls : (X.env.scope.kind == .class || (X.env.scope.kind == .module && X.env.locals != X.env.globals)) = false := by rw [I.ok.kind]; rfl
  have hiσ : i < σ.length := by rw [I.len]; exact (List.getElem?_eq_some_iff.mp hi).1
  have cne := I.cne
  have tracked : ∀ {a : Addr} {h' : Heap}, (∃ o, s.heap.get? a = some o ∧ H a = none) → Heap.SameBut a s.heap h' → HOk X.prog X.w H h' := fun {a h'} ha hs b ob e => by
    obtain ⟨_, _, hfree⟩ := ha
    refine (I.hok b ob e).stay (fun c w' hc q => (hs.2 c ?_).trans q) (fun _ q => q) fun _ _ q => q
    rintro rfl
    rcases hc with rfl | hc
    · rw [hfree] at e; cases e
    · rw [hfree] at hc; cases hc
  rcases hx with hk | hk
  · refine wpAny_storeName_local hk hn (fun h' hn' hs => ?_) hcls
    obtain ⟨oL, _, _, hoL, _⟩ := id hn
    refine h _ ⟨I.ok, I.os, I.bare, ⟨fun b o e n hb hx => ?_, fun b o e n hb hx => ?_, I.base.free, fun b o e hx => ?_, I.base.tups, I.base.frzs, I.base.tbls⟩, ⟨_, hn', fun j y v' e1 e2 e3 => ?_⟩, fun y c e => ?_, I.free, I.freeC, fun p hp => ?_, tracked ⟨oL, hoL, I.free⟩ hs, by simpa using I.len⟩ ⟨_, hs, .inl rfl⟩
    · exact (hs.2 b (Nat.ne_of_lt (Nat.lt_of_lt_of_le (Heap.lt_size e) I.ok.above))).trans (I.base.keep b o e n hb hx)
    · obtain ⟨sl, e1⟩ := I.base.slot b o e n hb hx
      exact ⟨sl, (hs.2 b (Nat.ne_of_lt (Nat.lt_of_lt_of_le (Heap.lt_size e) I.ok.above))).trans e1⟩
    · obtain ⟨o', e1⟩ := I.base.there b o e hx
      exact ⟨o', (hs.2 b (Nat.ne_of_lt (Nat.lt_of_lt_of_le (Heap.lt_size e) I.ok.above))).trans e1⟩
    · by_cases hj : j = i
      · subst hj
        rw [hi] at e1; cases e1
        rw [List.getElem?_set_self hiσ] at e2
        cases e2
        exact ⟨u, r, .inl ⟨hk, by simp⟩⟩
      · rw [List.getElem?_set_ne (Ne.symm hj)] at e2
        obtain ⟨u', r', q⟩ := hl j y v' e1 e2 e3
        refine ⟨u', r', ?_⟩
        rcases q with ⟨k, e⟩ | ⟨k, c, e, z⟩
        · refine .inl ⟨k, ?_⟩
          have : y ≠ x := fun e => hj (nodup_ix hN e1 (e ▸ hi))
          simp [this, e]
        · exact .inr ⟨k, c, e, z.sameBut hs (cne y c e)⟩
    · obtain ⟨w', z⟩ := I.cell y c e
      exact ⟨w', z.sameBut hs (cne y c e)⟩
    · obtain ⟨e, n, ne, nf, d⟩ := I.pin p hp
      exact ⟨(hs.2 p.1 ne).trans e, n, ne, nf, d⟩
  · have hfn : X.fn x = true := by
      rcases hf with z | z
      · exact z
      · rw [z] at hk; cases hk
    obtain ⟨c, hc⟩ := I.ok.has x (.inl hk)
    obtain ⟨w', z⟩ := I.cell x c hc
    refine wpAny_storeName_cell I.ok.kind hk hc z (fun h' hc' hs => ?_)
    obtain ⟨oc, hoc, hocd⟩ := id z
    refine h { s with heap := h' } ⟨I.ok, I.os, I.bare, ⟨fun b o e n hb hx => ?_, fun b o e n hb hx => ?_, I.base.free, fun b o e hx => ?_, I.base.tups, I.base.frzs, I.base.tbls⟩, ⟨m, hn.sameBut hs (Ne.symm (cne x c hc)), fun j y v' e1 e2 e3 => ?_⟩, fun y c' e => ?_, I.free, I.freeC, fun p hp => ?_, tracked ⟨oc, hoc, I.freeC x c hc⟩ hs, by simpa using I.len⟩ ⟨c, hs, .inr hc⟩
    · exact (hs.2 b (Nat.ne_of_lt (Nat.lt_of_lt_of_le (Heap.lt_size e) (I.ok.cab x c hfn hc)))).trans (I.base.keep b o e n hb hx)
    · obtain ⟨sl, e1⟩ := I.base.slot b o e n hb hx
      exact ⟨sl, (hs.2 b (Nat.ne_of_lt (Nat.lt_of_lt_of_le (Heap.lt_size e) (I.ok.cab x c hfn hc)))).trans e1⟩
    · obtain ⟨o', e1⟩ := I.base.there b o e hx
      exact ⟨o', (hs.2 b (Nat.ne_of_lt (Nat.lt_of_lt_of_le (Heap.lt_size e) (I.ok.cab x c hfn hc)))).trans e1⟩
    · by_cases hj : j = i
      · subst hj
        rw [hi] at e1; cases e1
        rw [List.getElem?_set_self hiσ] at e2
        cases e2
        exact ⟨u, r, .inr ⟨.inl hk, c, hc, hc'⟩⟩
      · rw [List.getElem?_set_ne (Ne.symm hj)] at e2
        obtain ⟨u', r', q⟩ := hl j y v' e1 e2 e3
        refine ⟨u', r', ?_⟩
        rcases q with q | ⟨k, c', e, z'⟩
        · exact .inl q
        · refine .inr ⟨k, c', e, z'.sameBut hs ?_⟩
          rintro rfl
          exact hj (nodup_ix hN e1 (I.ok.inj _ _ _ e hc ▸ hi))
    · by_cases hcc : c' = c
      · subst hcc; exact ⟨_, hc'⟩
      · obtain ⟨w2, z2⟩ := I.cell y c' e
        exact ⟨w2, z2.sameBut hs hcc⟩
    · obtain ⟨e, n, ne, nf, d⟩ := I.pin p hp
      refine ⟨(hs.2 p.1 ?_).trans e, n, ne, nf, d⟩
      intro q
      rw [q, hoc] at e
      have q' : oc = p.2 := Option.some.inj e
      exact d w' (by rw [← q']; exact hocd)
theorem store_ok {M : Model} {A : Around} {E : Value → Shared → Prop} {i : Nat} {x : Str} {v : V} {u : Value} {Q : Unit → Shared → Prop} (I : Inv X pins σ H s) (hN : X.N.Nodup) (hi : X.N[i]? = some x) (hx : Loc X.env.scope x) (r : RelV v u)
    (h : ∀ s', Inv X pins (σ.set i (some v)) H s' → Q () s') (hf : X.fn x = true ∨ X.env.scope.names.lookup x = some .local := by first | exact .inl rfl | exact .inr rfl | assumption) : wpAny M A (storeName X.env x u) Q E s :=
  store_ok2 I hN hi hx r (fun s' I' _ => h s' I') hf
theorem Inv.call' {s' : Shared} {ch : List Addr} (I : Inv X pins σ H s) (ho : s'.os = s.os) (u : Un (frs X.stack) ch H H' s.heap s'.heap) (hok : HOk X.prog X.w H' s'.heap) (hg : AllBare s'.gens)
    (hch : ∀ b ∈ ch, (b ∈ X.ex ∨ X.s_0.heap.objs.size ≤ b) ∧ b ≠ X.env.locals ∧ (∀ x c, X.env.cells.lookup x = some c → c ≠ b) ∧ ∀ p ∈ X.pn ++ pins, p.1 ≠ b) : Inv X pins σ H' s' := by
  obtain ⟨h', g', d', t', o'⟩ := s'
  have e : o' = s.os := ho
  subst e
  exact I.call (g' := g') (t' := t') (d' := d') u hok hg hch
end
abbrev XK := Value → Option Addr → Hp → Prop
abbrev St := List (Option V)
abbrev VK := V → Hp → Prop
abbrev TE := St → Hp → VK → Prop
abbrev TT := St → Hp → (Bool → Hp → Prop) → Prop
abbrev TA := St → Hp → (List V → Hp → Prop) → Prop
structure Ends where
  nx : St → Hp → Prop
  rt : VK
  bk : St → Hp → Prop := fun _ _ => False
  ct : St → Hp → Prop := fun _ _ => False
abbrev TS := Ends → St → Hp → Prop
def EP (X : Cx) (pins : List (Addr × Obj)) (σ : St) (Q : VK) (u : Value) (s' : Shared) : Prop := ∃ v H', Inv X pins σ H' s' ∧ RelV v u ∧ Q v H'
def TP (X : Cx) (pins : List (Addr × Obj)) (σ : St) (Q : Bool → Hp → Prop) (b : Bool) (s' : Shared) : Prop := ∃ H', Inv X pins σ H' s' ∧ Q b H'
def AP (X : Cx) (pins : List (Addr × Obj)) (σ : St) (Q : List V → Hp → Prop) (us : List Value) (s' : Shared) : Prop := ∃ vs H', Inv X pins σ H' s' ∧ Vals vs us ∧ Q vs H'
def SP (X : Cx) (pins : List (Addr × Obj)) (D : Ends) (f : Flow) (s' : Shared) : Prop :=
  match f with
  | .next => ∃ σ' H', Inv X pins σ' H' s' ∧ D.nx σ' H'
  | .brk => ∃ σ' H', Inv X pins σ' H' s' ∧ D.bk σ' H'
  | .cont => ∃ σ' H', Inv X pins σ' H' s' ∧ D.ct σ' H'
  | .ret u => ∃ v σ' H', Inv X pins σ' H' s' ∧ RelV v u ∧ D.rt v H'
def PE (X : Cx) (e : Expr) (t : TE) : Prop :=
  ∀ (pins : List (Addr × Obj)) (s : Shared) (σ : St) (H : Hp) (Q : VK), Inv X pins σ H s → t σ H Q → wpAny (model X.prog X.w) X.A (eval e X.env) (EP X pins σ Q) X.xe s
def PT (X : Cx) (e : Expr) (t : TT) : Prop :=
  ∀ (pins : List (Addr × Obj)) (s : Shared) (σ : St) (H : Hp) (Q : Bool → Hp → Prop), Inv X pins σ H s → t σ H Q → wpAny (model X.prog X.w) X.A (isTrue e X.env (eval e X.env)) (TP X pins σ Q) X.xe s
def PW (X : Cx) (e : Expr) (t : TT) : Prop :=
  ∀ (whole : Sem Value) (pins : List (Addr × Obj)) (s : Shared) (σ : St) (H : Hp) (Q : Bool → Hp → Prop), Inv X pins σ H s → t σ H Q → wpAny (model X.prog X.w) X.A (isTrue e X.env whole) (TP X pins σ Q) X.xe s
theorem PW.pt {X : Cx} {e : Expr} {t : TT} (h : PW X e t) : PT X e t := h _
def PA (X : Cx) (es : List Expr) (t : TA) : Prop :=
  ∀ (pos : Pos) (pins : List (Addr × Obj)) (s : Shared) (σ : St) (H : Hp) (Q : List V → Hp → Prop), Inv X pins σ H s → t σ H Q → wpAny (model X.prog X.w) X.A (spliced (backTo pos (starEach es X.env))) (AP X pins σ Q) X.xe s
def PS (X : Cx) (st : Stmt) (t : TS) : Prop :=
  ∀ (pins : List (Addr × Obj)) (s : Shared) (σ : St) (H : Hp) (D : Ends), Inv X pins σ H s → t D σ H → wpAny (model X.prog X.w) X.A (exec st X.env) (SP X pins D) X.xe s
def PSs (X : Cx) (st : List Stmt) (t : TS) : Prop :=
  ∀ (pins : List (Addr × Obj)) (s : Shared) (σ : St) (H : Hp) (D : Ends), Inv X pins σ H s → t D σ H → wpAny (model X.prog X.w) X.A (execs st X.env) (SP X pins D) X.xe s
theorem thn {α : Type} {t : Sem α} {Q Q' : α → Shared → Prop} {M : Model} {A : Around} {E : Value → Shared → Prop} {s : Shared} (h : wpAny M A t Q E s) (hQ : ∀ a s, Q a s → Q' a s) : wpAny M A t Q' E s := wpAny_mono h hQ fun _ _ x => x
end L2
namespace L2
open PySem PySem.Spec PyProof.Rows
section
variable {X : Cx}
def tVar (i : Nat) : TE := fun σ H Q => ∃ v, σ[i]? = some (some v) ∧ Q v H
def tC (v : V) : TE := fun _ H Q => Q v H
theorem pe_var {i : Nat} {x : Str} {pos : Pos} (hN : X.N[i]? = some x) (hv : Vis X.env.scope x) (hd : (x == ("__debug__" : Str)) = false := by decide) (hcd : (x == ("__classdict__" : Str)) = false := by decide) : PE X (.Name x pos) (tVar i) := by
  intro pins s σ H Q I h
  obtain ⟨v, e, h⟩ := h
  obtain ⟨m, hn, hl⟩ := I.loc
  obtain ⟨u, r, l⟩ := hl i x v hN e hv
  have fin : EP X pins σ Q u s := ⟨v, H, I, r, h⟩
  rcases l with ⟨hk, hm⟩ | ⟨hk, c, hc, hcell⟩
  · exact wpAny_Name (wpAny_loadName_local I.ok.kind hk hn hm fin) hd
  · rcases hk with hk | hk
    · exact wpAny_Name (wpAny_loadName_cell I.ok.kind hk hc hcell fin) hd
    · exact wpAny_Name (wpAny_loadName_free I.ok.kind hk hc hcell fin hcd) hd
theorem pe_int {i j pos} : PE X (.Constant (.int i) j pos) (tC (.int i)) := fun _ _ _ H _ I h => wpAny_Constant_int ⟨.int i, H, I.tok _, ⟨_, rfl⟩, h⟩
theorem pe_bl {b j pos} : PE X (.Constant (.bool b) j pos) (tC (.bl b)) := fun _ _ _ H _ I h => Constant_bool ⟨.bl b, H, I, rfl, h⟩
theorem pe_non {j pos} : PE X (.Constant .none j pos) (tC .non) := fun _ _ _ H _ I h => Constant_none ⟨.non, H, I, rfl, h⟩
def Gl (X : Cx) (x : Str) : Prop := X.env.kindOf x = some .globalImplicit
theorem ld_glob {E : Value → Shared → Prop} {pins : List (Addr × Obj)} {s : Shared} {σ : St} {H : Hp} {x : Str} {u : Value} {pos : Pos} {Q : Value → Shared → Prop} (I : Inv X pins σ H s) (hg : Gl X x) (hm : X.mg x = some u) (h : Q u s)
    (hd : (x == ("__debug__" : Str)) = false := by decide) : wpAny (model X.prog X.w) X.A (eval (.Name x pos) X.env) Q E s :=
  Calls.Name_function_global I.ok.kind hg (Calls.loadGlobal_global (by rw [I.ok.glob]; exact I.mod.glob.keeps I.bk) hm h) hd
theorem ld_blt {E : Value → Shared → Prop} {pins : List (Addr × Obj)} {s : Shared} {σ : St} {H : Hp} {x : Str} {u : Value} {pos : Pos} {Q : Value → Shared → Prop} (I : Inv X pins σ H s) (hg : Gl X x) (hm : X.mg x = none) (hv : bootBuiltins x = some u) (h : Q u s)
    (hn : x ≠ "__name__" := by decide) (hd : (x == ("__debug__" : Str)) = false := by decide) : wpAny (model X.prog X.w) X.A (eval (.Name x pos) X.env) Q E s := by
  obtain ⟨mb, h1, h2⟩ := I.mod.blt
  exact Calls.Name_function_global I.ok.kind hg (Calls.loadGlobal_builtin (by rw [I.ok.glob]; exact I.mod.glob.keeps I.bk) hm (by rw [I.ok.blt]; exact h1.keeps I.bk) ((h2 x hn).trans hv) h) hd
theorem pe_glob {x : Str} {v : V} {u : Value} {pos : Pos} (hg : Gl X x) (hm : X.mg x = some u) (r : RelV v u) (hd : (x == ("__debug__" : Str)) = false := by decide) : PE X (.Name x pos) (tC v) :=
  fun _ _ _ H _ I h => ld_glob I hg hm ⟨v, H, I, r, h⟩ hd
variable {a b : Expr} {ta tb : TE} {pos : Pos}
def PC (X : Cx) (op : CmpOp) (a b : Expr) (t : TE) : Prop :=
  ∀ (pins : List (Addr × Obj)) (s : Shared) (σ : St) (H : Hp) (Q : VK), Inv X pins σ H s → t σ H Q →
    wpAny (model X.prog X.w) X.A (eval a X.env) (fun v s₁ => wpAny (model X.prog X.w) X.A (eval b X.env) (fun u s₂ => wpAny (model X.prog X.w) X.A (compareOp op v u) (EP X pins σ Q) X.xe s₂) X.xe s₁) X.xe s
theorem nobehind (b : Expr) {op : CmpOp} (h : op ≠ .In) (h2 : op ≠ .NotIn) : behindInMarks op b = false := by
  have e1 : (op == CmpOp.In) = false := by cases op <;> first | rfl | exact absurd rfl h
  have e2 : (op == CmpOp.NotIn) = false := by cases op <;> first | rfl | exact absurd rfl h2
  cases b <;> simp [behindInMarks, e1, e2]
def tIsN (ta : TE) : TE := fun σ H Q => ta σ H fun x H1 => Q (.bl (decide (x = .non))) H1
def tNotN (ta : TE) : TE := fun σ H Q => ta σ H fun x H1 => Q (.bl (!decide (x = .non))) H1
theorem RelV.none_iff {x : V} {v : Value} (r : RelV x v) : (v == Value.none) = decide (x = .non) := by
  cases x with
  | non => cases r; rfl
  | bl _ => cases r; rfl
  | int _ => obtain ⟨t, rfl⟩ := r; rfl
  | str _ => obtain ⟨t, rfl⟩ := r; rfl
  | byt _ => obtain ⟨t, rfl⟩ := r; rfl
  | flt _ => obtain ⟨t, rfl⟩ := r; rfl
  | ref _ => cases r; rfl
  | ty _ => cases r; rfl
theorem pc_isN {j pos'} (ha : PE X a ta) : PC X .Is a (.Constant .none j pos') (tIsN ta) := by
  intro pins s σ H Q I h
  refine thn (ha pins s σ H _ I h) fun v s1 ⟨x, H1, I1, r1, q1⟩ => ?_
  exact Constant_none (is_none_gen ⟨.bl _, H1, I1, by rw [r1.none_iff]; rfl, q1⟩)
theorem pc_notN {j pos'} (ha : PE X a ta) : PC X .IsNot a (.Constant .none j pos') (tNotN ta) := by
  intro pins s σ H Q I h
  refine thn (ha pins s σ H _ I h) fun v s1 ⟨x, H1, I1, r1, q1⟩ => ?_
  exact Constant_none (isnot_none_gen ⟨.bl _, H1, I1, by rw [r1.none_iff]; rfl, q1⟩)
def tB (t : TE) : TT := fun σ H Q => t σ H fun x H1 => ∃ c, x = .bl c ∧ Q c H1
theorem pt_cmp {op : CmpOp} {t : TE} (h : PC X op a b t) (h1 : behindInMarks op b = false := by first | exact nobehind _ (by decide) (by decide) | rfl) : PT X (.Compare a [op] [b] pos) (tB t) := by
  intro pins s σ H Q I hw
  refine wpAny_isTrue_Compare1 (thn (h pins s σ H _ I hw) fun v s1 h1 => thn h1 fun u s2 h2 => thn h2 fun c s3 ⟨x, H1, I1, r1, q1⟩ => ?_) h1
  obtain ⟨d, rfl, q⟩ := q1
  cases r1
  exact wpAny_truthy_bool ⟨H1, I1, q⟩
theorem pt_val {e : Expr} {t : TE} (h : PE X e t) (he : ∀ whole, isTrue e X.env whole = (do let v ← whole; standAt e.pos; holding [v] (truthy v)) := by intro _; rfl) : PT X e (tB t) := by
  intro pins s σ H Q I hw
  refine isTrue_plain (thn (h pins s σ H _ I hw) fun v s1 ⟨x, H1, I1, r1, q1⟩ => ?_) (he _)
  obtain ⟨d, rfl, q⟩ := q1
  cases r1
  exact wpAny_truthy_bool ⟨H1, I1, q⟩
variable {tA tB' : TT} {rest : List Expr}
def tAnd (t u : TT) : TT := fun σ H Q => t σ H fun c H1 => if c = true then u σ H1 Q else Q false H1
def tOr (t u : TT) : TT := fun σ H Q => t σ H fun c H1 => if c = true then Q true H1 else u σ H1 Q
def tNot (t : TT) : TT := fun σ H Q => t σ H fun c H1 => Q (!c) H1
theorem pw_and1 (ha : PT X a tA) : PW X (.BoolOp .And [a] pos) tA := by
  intro wh pins s σ H Q I h
  refine isTrue_and (thn (ha pins s σ H Q I h) fun c s1 e => ?_)
  cases c with
  | true => exact isTrue_and_nil e
  | false => exact e
theorem pw_or1 (ha : PT X a tA) : PW X (.BoolOp .Or [a] pos) tA := by
  intro wh pins s σ H Q I h
  refine isTrue_or (thn (ha pins s σ H Q I h) fun c s1 e => ?_)
  cases c with
  | false => exact isTrue_or_nil e
  | true => exact e
theorem pw_and (ha : PT X a tA) (hb : PW X (.BoolOp .And (b :: rest) pos) tB') : PW X (.BoolOp .And (a :: b :: rest) pos) (tAnd tA tB') := by
  intro wh pins s σ H Q I h
  refine isTrue_and (thn (ha pins s σ H _ I h) fun c s1 ⟨H1, I1, q1⟩ => ?_)
  cases c with
  | true => exact hb wh pins s1 σ H1 Q I1 q1
  | false => exact ⟨H1, I1, q1⟩
theorem pw_or (ha : PT X a tA) (hb : PW X (.BoolOp .Or (b :: rest) pos) tB') : PW X (.BoolOp .Or (a :: b :: rest) pos) (tOr tA tB') := by
  intro wh pins s σ H Q I h
  refine isTrue_or (thn (ha pins s σ H _ I h) fun c s1 ⟨H1, I1, q1⟩ => ?_)
  cases c with
  | true => exact ⟨H1, I1, q1⟩
  | false => exact hb wh pins s1 σ H1 Q I1 q1
theorem pt_not (ha : PT X a tA) : PT X (.UnaryOp .Not a pos) (tNot tA) := by
  intro pins s σ H Q I h
  exact isTrue_not (ha pins s σ H (fun c H1 => Q (!c) H1) I h)
def tAndV (ta tb : TE) : TE := fun σ H Q => ta σ H fun x H1 => ∃ c, x = .bl c ∧ if c = true then tb σ H1 Q else Q (.bl false) H1
def tNotV (ta : TE) : TE := fun σ H Q => ta σ H fun x H1 => ∃ c, x = .bl c ∧ Q (.bl (!c)) H1
theorem pe_one {op} {t : TE} (h : PE X a t) : PE X (.BoolOp op [a] pos) t := fun pins s σ H Q I hw => BoolOp_one (h pins s σ H Q I hw)
theorem pe_and (ha : PE X a ta) (hb : PE X (.BoolOp .And (b :: rest) pos) tb) : PE X (.BoolOp .And (a :: b :: rest) pos) (tAndV ta tb) := by
  intro pins s σ H Q I h
  refine BoolOp_and (thn (ha pins s σ H _ I h) fun v s1 ⟨x, H1, I1, r1, q1⟩ => ?_)
  obtain ⟨c, rfl, q1⟩ := q1
  cases r1
  refine wpAny_truthy_bool ?_
  cases c with
  | true => exact hb pins s1 σ H1 Q I1 q1
  | false => exact ⟨.bl false, H1, I1, rfl, q1⟩
theorem pe_not (ha : PE X a ta) : PE X (.UnaryOp .Not a pos) (tNotV ta) := by
  intro pins s σ H Q I h
  refine UnaryOp_ (thn (ha pins s σ H _ I h) fun v s1 ⟨x, H1, I1, r1, q1⟩ => ?_)
  obtain ⟨c, rfl, q1⟩ := q1
  cases r1
  exact not_of (wpAny_truthy_bool ⟨.bl (!c), H1, I1, rfl, q1⟩)
end
end L2
namespace L2
open PySem PySem.Spec PyProof.Rows
def SqL (K : PySem.W.Frag) (H : Hp) (a : Addr) (xs : List V) : Prop :=
  Rd H a (.lst xs) ∨
    ∃ (o : Obj) (its : Array Value) (n : Nat), K.lookup a = some o ∧ o.cls = .type "list" ∧ o.dict = none ∧ o.data = .seq its n ∧ its.size ≤ sizeLine ∧ Vals xs its.toList
def SqT (K : PySem.W.Frag) (H : Hp) (a : Addr) (xs : List V) : Prop :=
  Rd H a (.tup xs) ∨
    ∃ (o : Obj) (its : Array Value) (n : Nat), K.lookup a = some o ∧ o.cls = .type "tuple" ∧ o.data = .seq its n ∧ its.size ≤ sizeLine ∧ Vals xs its.toList
def absV : Value → Option V
  | .none => some .non
  | .bool b => some (.bl b)
  | .int i _ => some (.int i)
  | .str x _ => some (.str x)
  | .bytes b _ => some (.byt b)
  | .float b _ => some (.flt b)
  | .ref a => some (.ref a)
  | .type n => some (.ty n)
  | _ => none
theorem RelV.abs {x : V} {u : Value} (r : RelV x u) : absV u = some x := by
  cases x with
  | non => cases r; rfl
  | bl _ => cases r; rfl
  | int _ => obtain ⟨t, rfl⟩ := r; rfl
  | str _ => obtain ⟨t, rfl⟩ := r; rfl
  | byt _ => obtain ⟨t, rfl⟩ := r; rfl
  | flt _ => obtain ⟨t, rfl⟩ := r; rfl
  | ref _ => cases r; rfl
  | ty _ => cases r; rfl
theorem RelV.inj {x y : V} {u : Value} (r : RelV x u) (q : RelV y u) : x = y := Option.some.inj (r.abs.symm.trans q.abs)
theorem Vals.inj : ∀ {xs ys : List V} {us : List Value}, Vals xs us → Vals ys us → xs = ys
  | _, _, _, .nil, .nil => rfl
  | _, _, _, .cons r t, .cons r' t' => by rw [r.inj r', Vals.inj t t']
section
variable {X : Cx} {pins : List (Addr × Obj)} {σ : St} {H : Hp} {s : Shared} {a : Addr} {xs ys : List V}
theorem SqL.of {K : PySem.W.Frag} (h : H a = some (.lst xs)) : SqL K H a xs := .inl (.inl h)
theorem SqT.of {K : PySem.W.Frag} (h : H a = some (.tup xs)) : SqT K H a xs := .inl (.inl h)
theorem Inv.list (I : Inv X pins σ H s) (h : SqL X.K H a xs) : ∃ its : List Value, Vals xs its ∧ PlainL s.heap a its.toArray ∧ xs.length ≤ sizeLine := by
  rcases h with h | ⟨o, its, n, hk, hc, hd, hs, hz, r⟩
  · obtain ⟨z, its, n, r, e⟩ := h.ok I.hok
    exact ⟨its, r, ⟨_, n, e, rfl, rfl, rfl⟩, z⟩
  · refine ⟨its.toList, r, ⟨o, n, I.kIn a o hk, hc, hd, by simpa using hs⟩, ?_⟩
    have e := r.length
    simp only [Array.length_toList] at e
    omega
theorem Inv.tuple (I : Inv X pins σ H s) (h : SqT X.K H a xs) : ∃ its : List Value, Vals xs its ∧ IsTup s.heap a its.toArray ∧ xs.length ≤ sizeLine := by
  rcases h with h | ⟨o, its, n, hk, hc, hs, hz, r⟩
  · obtain ⟨z, its, r, p⟩ := h.ok I.hok
    exact ⟨its, r, p, z⟩
  · refine ⟨its.toList, r, ⟨o, I.kIn a o hk, hc, n, by simpa using hs⟩, ?_⟩
    have e := r.length
    simp only [Array.length_toList] at e
    omega
theorem Inv.list_inj (I : Inv X pins σ H s) (h : SqL X.K H a xs) (h' : SqL X.K H a ys) : xs = ys := by
  obtain ⟨its, r, ⟨o, n, e, _, _, d⟩, _⟩ := I.list h
  obtain ⟨its', r', ⟨o', n', e', _, _, d'⟩, _⟩ := I.list h'
  rw [e] at e'; cases e'
  rw [d] at d'
  injection d' with d1 _
  have : its = its' := by simpa using congrArg Array.toList d1
  subst this
  exact r.inj r'
end
abbrev Cx.wish (X : Cx) (E : Value → Shared → Prop) : Cx := { X with xe := E }
abbrev Cx.nox (X : Cx) : Cx := X.wish fun _ _ => False
theorem Cx.Ok.wish {X : Cx} (ok : X.Ok) (E : Value → Shared → Prop) : (X.wish E).Ok :=
  ⟨ok.mod, ok.kind, ok.glob, ok.blt, ok.above, ok.inj, ok.has, ok.cab, ok.hd, ok.frames, ok.stk, ok.exf, ok.bs, ok.bsz, ok.noex, ok.exfs, ok.funs, ok.frf⟩
theorem Cx.Ok.unwish {X : Cx} {E : Value → Shared → Prop} (ok : (X.wish E).Ok) : X.Ok :=
  ⟨ok.mod, ok.kind, ok.glob, ok.blt, ok.above, ok.inj, ok.has, ok.cab, ok.hd, ok.frames, ok.stk, ok.exf, ok.bs, ok.bsz, ok.noex, ok.exfs, ok.funs, ok.frf⟩
section
variable {X : Cx} {pins : List (Addr × Obj)} {σ : St} {H : Hp} {s : Shared} {E : Value → Shared → Prop}
theorem Inv.wish (I : Inv X pins σ H s) (E : Value → Shared → Prop) : Inv (X.wish E) pins σ H s := ⟨I.ok.wish E, I.os, I.bare, I.base, I.loc, I.cell, I.free, I.freeC, I.pin, I.hok, I.len⟩
theorem Inv.unwish (I : Inv (X.wish E) pins σ H s) : Inv X pins σ H s := ⟨I.ok.unwish, I.os, I.bare, I.base, I.loc, I.cell, I.free, I.freeC, I.pin, I.hok, I.len⟩
theorem SP.unwish {D : Ends} {f : Flow} {s' : Shared} (h : SP (X.wish E) pins D f s') : SP X pins D f s' := by
  cases f with
  | next => obtain ⟨σ', H', I, q⟩ := h; exact ⟨σ', H', I.unwish, q⟩
  | brk => obtain ⟨σ', H', I, q⟩ := h; exact ⟨σ', H', I.unwish, q⟩
  | cont => obtain ⟨σ', H', I, q⟩ := h; exact ⟨σ', H', I.unwish, q⟩
  | ret u => obtain ⟨v, σ', H', I, r, q⟩ := h; exact ⟨v, σ', H', I.unwish, r, q⟩
theorem PE.nox {e : Expr} {t : TE} (h : PE X.nox e t) : PE X e t := fun pins s σ H Q I hw =>
  wpAny_mono (h pins s σ H Q (I.wish _) hw) (fun _ _ ⟨v, H', I', r, q⟩ => ⟨v, H', I'.unwish, r, q⟩) fun _ _ z => False.elim z
theorem PT.nox {e : Expr} {t : TT} (h : PT X.nox e t) : PT X e t := fun pins s σ H Q I hw =>
  wpAny_mono (h pins s σ H Q (I.wish _) hw) (fun _ _ ⟨H', I', q⟩ => ⟨H', I'.unwish, q⟩) fun _ _ z => False.elim z
theorem PSs.nox {st : List Stmt} {t : TS} (h : PSs X.nox st t) : PSs X st t := fun pins s σ H D I hw =>
  wpAny_mono (h pins s σ H D (I.wish _) hw) (fun _ _ q => q.unwish) fun _ _ z => False.elim z
end
section
variable {X : Cx} {st : Stmt} {rest : List Stmt} {t u : TS} {e : Expr} {te : TE} {pos : Pos}
def tNext : TS := fun D σ H => D.nx σ H
def tSeq (t u : TS) : TS := fun D σ H => t { D with nx := u D } σ H
theorem pss_nil : PSs X [] tNext := fun _ _ σ H _ I h => wpAny_execs_nil ⟨σ, H, I, h⟩
theorem pss_cons (h1 : PS X st t) (h2 : PSs X rest u) : PSs X (st :: rest) (tSeq t u) := by
  intro pins s σ H D I h
  refine wpAny_execs_cons (thn (h1 pins s σ H { D with nx := u D } I h) fun f s1 q => ?_)
  cases f with
  | next =>
    obtain ⟨σ', H', I', q⟩ := q
    exact h2 pins s1 σ' H' D I' q
  | ret v => exact q
  | brk => exact q
  | cont => exact q
theorem pss_one (h1 : PS X st t) : PSs X [st] t := by
  intro pins s σ H D I h
  refine wpAny_execs_cons (thn (h1 pins s σ H D I h) fun f s1 q => ?_)
  cases f with
  | next => exact wpAny_execs_nil q
  | ret v => exact q
  | brk => exact q
  | cont => exact q
theorem Inv.quiet {pins : List (Addr × Obj)} {σ : St} {H : Hp} {s : Shared} (I : Inv X pins σ H s) : interactive X.env = false := by simp [interactive, I.ok.kind]
def tDrop (te : TE) : TS := fun D σ H => te σ H fun _ H1 => D.nx σ H1
theorem ps_expr (he : PE X e te) (hs : swapsWith e none pos.line X.env = pure false := by rfl) : PS X (.Expr e pos) (tDrop te) := by
  intro pins s σ H D I h
  exact wpAny_Expr_any (thn (he pins s σ H _ I h) fun v s1 ⟨x, H1, I1, r1, q1⟩ => ⟨σ, H1, I1, q1⟩) I.quiet hs
def tRet (te : TE) : TS := fun D σ H => te σ H D.rt
theorem ps_ret (he : PE X e te) : PS X (.Return (some e) pos) (tRet te) := by
  intro pins s σ H D I h
  exact wpAny_Return_some (thn (he pins s σ H _ I h) fun v s1 ⟨x, H1, I1, r1, q1⟩ => ⟨x, σ, H1, I1, r1, q1⟩)
def tIfS (c : TT) (t u : TS) : TS := fun D σ H => c σ H fun b H1 => if b = true then t D σ H1 else u D σ H1
theorem ps_if {c : Expr} {a b : List Stmt} {tc : TT} (hc : PT X c tc) (ha : PSs X a t) (hb : PSs X b u) : PS X (.If c a b pos) (tIfS tc t u) := by
  intro pins s σ H D I h
  refine wpAny_If (thn (hc pins s σ H _ I h) fun d s1 ⟨H1, I1, q1⟩ => ?_)
  cases d with
  | true => exact ha pins s1 σ H1 D I1 q1
  | false => exact hb pins s1 σ H1 D I1 q1
end
abbrev TG := V → St → Hp → (St → Hp → Prop) → Prop
abbrev TGs := List V → St → Hp → (St → Hp → Prop) → Prop
def PG (X : Cx) (target : Expr) (t : TG) : Prop :=
  ∀ (pins : List (Addr × Obj)) (s : Shared) (σ : St) (H : Hp) (v : V) (u : Value) (Q : St → Hp → Prop), Inv X pins σ H s → RelV v u → t v σ H Q →
    wpAny (model X.prog X.w) X.A (assign target X.env u) (fun _ s' => ∃ σ' H', Inv X pins σ' H' s' ∧ Q σ' H') X.xe s
def PGs (X : Cx) (ts : List Expr) (t : TGs) : Prop :=
  ∀ (pins : List (Addr × Obj)) (s : Shared) (σ : St) (H : Hp) (vs : List V) (us : List Value) (Q : St → Hp → Prop), Inv X pins σ H s → Vals vs us → t vs σ H Q →
    wpAny (model X.prog X.w) X.A (assignInOrder ((assignEach ts X.env).map (·.2)) us) (fun _ s' => ∃ σ' H', Inv X pins σ' H' s' ∧ Q σ' H') X.xe s
abbrev TIp := V → V → Hp → VK → Prop
def PIp (X : Cx) (op : Operator) (t : TIp) : Prop :=
  ∀ (pins : List (Addr × Obj)) (s : Shared) (σ : St) (H : Hp) (x y : V) (v u : Value) (Q : VK), Inv X pins σ H s → RelV x v → RelV y u → t x y H Q →
    wpAny (model X.prog X.w) X.A (inplaceOp op v u) (EP X pins σ Q) X.xe s
section
variable {X : Cx} {pos : Pos}
def gName (i : Nat) : TG := fun v σ H Q => Q (σ.set i (some v)) H
theorem pg_name {i : Nat} {x : Str} (hN : X.N.Nodup) (hi : X.N[i]? = some x) (hx : Loc X.env.scope x) (hf : X.fn x = true ∨ X.env.scope.names.lookup x = some .local := by first | exact .inl rfl | exact .inr rfl | assumption) : PG X (.Name x pos) (gName i) := by
  intro pins s σ H v u Q I r h
  exact wpAny_assign_Name (store_ok I hN hi hx r (fun s' I' => ⟨_, H, I', h⟩) hf)
def gNil : TGs := fun vs σ H Q => vs = [] ∧ Q σ H
def gCons (t : TG) (u : TGs) : TGs := fun vs σ H Q => ∃ v r, vs = v :: r ∧ t v σ H fun σ' H' => u r σ' H' Q
theorem pgs_nil : PGs X [] gNil := by
  intro pins s σ H vs us Q I r h
  obtain ⟨e, h⟩ := h
  subst e
  cases r
  exact assignInOrder_nil ⟨σ, H, I, h⟩
theorem pgs_cons {e : Expr} {es : List Expr} {t : TG} {u : TGs} (h1 : PG X e t) (h2 : PGs X es u)
    (hs : (assignEach (e :: es) X.env).map (·.2) = assign e X.env :: (assignEach es X.env).map (·.2) := by rfl) : PGs X (e :: es) (gCons t u) := by
  intro pins s σ H vs us Q I r h
  obtain ⟨v, vr, e1, h⟩ := h
  subst e1
  cases r with
  | cons r rr =>
    rw [hs]
    refine assignInOrder_cons (thn (h1 pins s σ H _ _ _ I r h) fun _ s1 ⟨σ1, H1, I1, q1⟩ => ?_)
    exact h2 pins s1 σ1 H1 _ _ Q I1 rr q1
def gTup (K : PySem.W.Frag) (n : Nat) (t : TGs) : TG := fun v σ H Q => ∃ a xs, v = .ref a ∧ SqT K H a xs ∧ xs.length = n ∧ t xs σ H Q
theorem pg_tup {es : List Expr} {k : Nat} {t : TGs} {n : Nat} (hc : X.calm = true) (h : PGs X es t)
    (hn : (assignEach es X.env).length = n := by rfl) (hst : (assignEach es X.env).findIdx? (·.1) = none := by rfl) : PG X (.Tuple es k pos) (gTup X.K n t) := by
  intro pins s σ H v u Q I r hw
  obtain ⟨a, xs, e1, hq, hl, hw⟩ := hw
  subst e1
  cases r
  obtain ⟨its, rv, ht, hz⟩ := I.tuple hq
  refine assign_Tuple_tuple (I.ok.hd hc) ht (by simp [hn, ← hl, rv.length]) hst fun h' hx => ?_
  have I1 : Inv X pins σ H { s with heap := h' } := I.kept (t' := s.toks) fun b o e => hx b o (Nat.ne_of_lt (Heap.lt_size e)) e
  exact h pins _ σ H xs _ Q I1 (by simpa using rv) hw
def tAsg (te : TE) (g : TG) : TS := fun D σ H => te σ H fun x H1 => g x σ H1 D.nx
theorem ps_set {i : Nat} {x : Str} {e : Expr} {te : TE} {pos' : Pos} (hN : X.N.Nodup) (hi : X.N[i]? = some x) (hx : Loc X.env.scope x) (he : PE X e te) (hs : swapsWith e (some (.Name x pos')) pos.line X.env = pure false := by rfl) (hf : X.fn x = true ∨ X.env.scope.names.lookup x = some .local := by first | exact .inl rfl | exact .inr rfl | assumption) :
    PS X (.Assign [.Name x pos'] e pos) (tAsg te (gName i)) := by
  intro pins s σ H D I h
  refine wpAny_Assign_Name (thn (he pins s σ H _ I h) fun v s1 ⟨y, H1, I1, r1, q1⟩ => ?_) hs
  exact store_ok I1 hN hi hx r1 (fun s2 I2 => ⟨_, H1, I2, q1⟩) hf
def tAug (i : Nat) (te : TE) (ti : TIp) : TS := fun D σ H => ∃ x, σ[i]? = some (some x) ∧ te σ H fun y H1 => ti x y H1 fun z H2 => D.nx (σ.set i (some z)) H2
theorem ps_aug {i : Nat} {x : Str} {e : Expr} {te : TE} {op : Operator} {ti : TIp} {pos' : Pos} (hN : X.N.Nodup) (hi : X.N[i]? = some x) (hx : Loc X.env.scope x) (he : PE X e te) (ho : PIp X op ti) (hf : X.fn x = true ∨ X.env.scope.names.lookup x = some .local := by first | exact .inl rfl | exact .inr rfl | assumption) :
    PS X (.AugAssign (.Name x pos') op e pos) (tAug i te ti) := by
  intro pins s σ H D I h
  obtain ⟨v, e1, h⟩ := h
  obtain ⟨m, hn, hl⟩ := I.loc
  have vis : Vis X.env.scope x := by rcases hx with k | k; exact .inl k; exact .inr (.inl k)
  obtain ⟨u, r, l⟩ := hl i x v hi e1 vis
  refine wpAny_AugAssign_Name ?_
  have go : wpAny (model X.prog X.w) X.A (eval e X.env) (fun w s₂ => wpAny (model X.prog X.w) X.A (inplaceOp op u w) (fun r s₃ => wpAny (model X.prog X.w) X.A (storeName X.env x r) (fun _ => SP X pins D .next) X.xe s₃) X.xe s₂) X.xe s := by
    refine thn (he pins s σ H _ I h) fun w s1 ⟨y, H1, I1, r1, q1⟩ => ?_
    refine thn (ho pins s1 σ H1 v y u w _ I1 r r1 q1) fun z s2 ⟨zv, H2, I2, r2, q2⟩ => ?_
    exact store_ok I2 hN hi hx r2 (fun s3 I3 => ⟨_, H2, I3, q2⟩) hf
  rcases l with ⟨hk, hm⟩ | ⟨hk, c, hc, hcell⟩
  · exact wpAny_loadName_local I.ok.kind hk hn hm go
  · rcases hk with hk | hk
    · exact wpAny_loadName_cell I.ok.kind hk hc hcell go
    · rcases hx with k | k
      · have : X.env.scope.names.lookup x = some .free := hk
        rw [k] at this; cases this
      · have : X.env.scope.names.lookup x = some .free := hk
        rw [k] at this; cases this
def ipI (f : Int → Int → Int) : TIp := fun x y H Q => ∃ i j, x = .int i ∧ y = .int j ∧ Q (.int (f i j)) H
theorem ip_add : PIp X .Add (ipI fun i j => i + j) := by
  intro pins s σ H x y v u Q I r1 r2 h
  obtain ⟨i, j, e1, e2, q⟩ := h
  subst e1; subst e2
  obtain ⟨t, rfl⟩ := r1
  obtain ⟨t', rfl⟩ := r2
  exact iadd_int ⟨.int _, H, I.tok _, ⟨_, rfl⟩, q⟩
end
section
variable {X : Cx} {pos : Pos}
def tWhile (c : TT) (tb : TS) : TS := fun D σ H => ∃ W : Nat → St → Hp → Prop, (∃ m, W m σ H) ∧ ∀ m σ H, W m σ H →
  c σ H fun b H1 => if b = true then ∃ N : St → Hp → Prop, (∀ σ' H', N σ' H' → ∃ m', m' < m ∧ W m' σ' H') ∧ tb { D with nx := N, ct := N, bk := D.nx } σ H1 else D.nx σ H1
theorem ps_while {c : Expr} {body : List Stmt} {tc : TT} {tb : TS} (hp : PassesOwn (model X.prog X.w) X.A X.env X.xe) (hc : PT X c tc) (hb : PSs X body tb) : PS X (.While c body [] pos) (tWhile tc tb) := by
  intro pins s σ H D I h
  obtain ⟨W, ⟨m0, w0⟩, turn⟩ := h
  refine wpAny_While (codeAny_whileLoop (fun n s' => ∃ σ' H', Inv X pins σ' H' s' ∧ W n σ' H') ?_ m0 ⟨σ, H, I, w0⟩)
  rintro n s1 ⟨σ1, H1, I1, w1⟩
  refine wpAny_passesOwn hp (thn (hc pins s1 σ1 H1 _ I1 (turn n σ1 H1 w1)) fun b s2 ⟨H2, I2, q2⟩ => ?_)
  cases b with
  | true =>
    obtain ⟨N, hN, q2⟩ := q2
    rw [if_pos rfl]
    refine wpAny_passesOwn hp (thn (hb pins s2 σ1 H2 _ I2 q2) fun f s3 q3 => ?_)
    cases f with
    | next =>
      obtain ⟨σ3, H3, I3, n3⟩ := q3
      obtain ⟨m', hm, w3⟩ := hN σ3 H3 n3
      exact ⟨m', hm, σ3, H3, I3, w3⟩
    | cont =>
      obtain ⟨σ3, H3, I3, n3⟩ := q3
      obtain ⟨m', hm, w3⟩ := hN σ3 H3 n3
      exact ⟨m', hm, σ3, H3, I3, w3⟩
    | brk => exact q3
    | ret v => exact q3
  | false =>
    rw [if_neg Bool.false_ne_true]
    exact wpAny_execs_nil ⟨σ1, H2, I2, q2⟩
end
structure It where
  go : Nat → Hp → Prop
  yld : Nat → Hp → V → Hp → Prop
  stop : Nat → Hp → Prop
def FpOk (X : Cx) (pins : List (Addr × Obj)) (H : Hp) (b : Addr) : Prop :=
  H b = none ∧ b ≠ X.env.locals ∧ b ∉ X.fs ∧ (b ∈ X.ex ∨ X.s_0.heap.objs.size ≤ b) ∧ (∀ x c, X.env.cells.lookup x = some c → c ≠ b) ∧ ∀ p ∈ X.pn ++ pins, p.1 ≠ b
theorem Inv.fpOk {X : Cx} {pins : List (Addr × Obj)} {σ : St} {H H' : Hp} {s : Shared} {b : Addr} (I : Inv X pins σ H s) (hb : s.heap.objs.size ≤ b) (hn : H' b = none) : FpOk X pins H' b := by
  refine ⟨hn, Nat.ne_of_gt (Nat.lt_of_lt_of_le I.lt hb), I.nofs hb, .inr (Nat.le_trans I.sz hb), fun x c e z => ?_, fun p hp z => ?_⟩
  · obtain ⟨v, q⟩ := I.cell x c e
    exact absurd (Nat.lt_of_lt_of_le q.lt (by rw [z]; exact hb)) (Nat.lt_irrefl _)
  · exact absurd (Nat.lt_of_lt_of_le (Heap.lt_size (I.pin p hp).1) (by rw [z]; exact hb)) (Nat.lt_irrefl _)
structure Turn (P : Program) (w : World) (K : PySem.W.Frag) (tg : Expr) (J : It) (fp : List Addr) (it : Addr) (tn : Nat → Heap → Prop) : Prop where
  mem : it ∈ fp
  obj : ∀ i h, tn i h → ∀ b ∈ fp, ∃ o, h.get? b = some o ∧ ∀ v, o.data ≠ .cell v
  keep : ∀ i h h', tn i h → (∀ b ∈ fp, ∀ o, h.get? b = some o → h'.get? b = some o) → tn i h'
  item : ∀ (X : Cx), X.prog = P → X.w = w → X.K = K → X.calm = true → ∀ (i : Nat) (pins : List (Addr × Obj)) (s : Shared) (σ : St) (H : Hp) (E : Value → Shared → Prop), Inv X pins σ H s → (∀ b ∈ fp, FpOk X pins H b) → tn i s.heap → J.go i H →
    wpAny (model P w) X.A (pyNext (.ref it)) (fun r s1 => ∃ u, r = some u ∧
      wpAny (model P w) X.A (letOwnedTupleGo tg (.ref it) u) (fun _ s2 => ∃ x H', Inv X pins σ H' s2 ∧ RelV x u ∧ J.yld i H x H' ∧ tn (i + 1) s2.heap ∧ ∀ b ∈ fp, H' b = none) E s1) E s
  done : ∀ (X : Cx), X.prog = P → X.w = w → X.K = K → X.calm = true → ∀ (i : Nat) (pins : List (Addr × Obj)) (s : Shared) (σ : St) (H : Hp) (E : Value → Shared → Prop), Inv X pins σ H s → (∀ b ∈ fp, FpOk X pins H b) → tn i s.heap → J.stop i H →
    wpAny (model P w) X.A (pyNext (.ref it)) (fun r s1 => r = none ∧ Inv X pins σ H s1) E s
  self : ∀ (A : Around) (i : Nat) (s : Shared) (Q : Value → Shared → Prop) (E : Value → Shared → Prop), tn i s.heap → Q (.ref it) s → wpAny (model P w) A (pyIter (.ref it)) Q E s
abbrev TI := St → Hp → (It → Hp → Prop) → Prop
def PIE (X : Cx) (pins : List (Addr × Obj)) (σ : St) (tg : Expr) (R : It → Hp → Prop) (itv : Value) (s2 : Shared) : Prop :=
  ∃ (it : Addr) (fp : List Addr) (tn : Nat → Heap → Prop) (J : It) (H' : Hp), itv = .ref it ∧ Inv X pins σ H' s2 ∧ Turn X.prog X.w X.K tg J fp it tn ∧ tn 0 s2.heap ∧ (∀ b ∈ fp, FpOk X pins H' b) ∧ R J H'
def PI (X : Cx) (tg iter : Expr) (wi : TI) : Prop :=
  ∀ (pins : List (Addr × Obj)) (s : Shared) (σ : St) (H : Hp) (R : It → Hp → Prop), Inv X pins σ H s → wi σ H R →
    wpAny (model X.prog X.w) X.A (eval iter X.env) (fun v s1 => wpAny (model X.prog X.w) X.A (pyIter v) (PIE X pins σ tg R) X.xe s1) X.xe s
theorem go_of {M : Model} {A : Around} {E : Value → Shared → Prop} {s : Shared} {tg : Expr} {it : Addr} {u : Value} {o : Obj} {n : String} {vs : Array Value} {Q : Unit → Shared → Prop} (ho : s.heap.get? it = some o) (hc : o.cls = .type n) (hd : o.data = .fields vs)
    (hn : ["enumerate", "zip", "dict_itemiterator", "dict_reverseitemiterator", "odict_iterator", "itertools.zip_longest", "itertools.pairwise"].contains n = false) (hQ : Q () s) : wpAny M A (letOwnedTupleGo tg (.ref it) u) Q E s := by
  unfold letOwnedTupleGo
  cases tg <;> first
    | exact wpAny_pure hQ
    | (cases u <;> first
        | exact wpAny_pure hQ
        | (refine wpAny_bind (wpAny_load ho ?_)
           rw [hc, hd]
           show wpAny M A (if (["enumerate", "zip", "dict_itemiterator", "dict_reverseitemiterator", "odict_iterator", "itertools.zip_longest", "itertools.pairwise"].contains n && vs[0]? == some (rawInt _)) = true then _ else _) Q E s
           rw [if_neg (by intro h; rw [hn, Bool.false_and] at h; cases h)]
           exact wpAny_pure hQ))
def Itl (K : PySem.W.Frag) (a : Addr) : It :=
  ⟨fun i H => ∃ xs x, SqL K H a xs ∧ xs[i]? = some x, fun i H x H' => H' = H ∧ ∀ xs, SqL K H a xs → xs[i]? = some x, fun i H => ∃ xs, SqL K H a xs ∧ xs.length ≤ i⟩
theorem turn_list {P : Program} {w : World} {K : PySem.W.Frag} {tg : Expr} (a it : Addr) : Turn P w K tg (Itl K a) [it] it (fun i h => h.IsListIter it a i) where
  mem := by simp
  obj := fun i h st b hb => by
    have e : b = it := by simpa using hb
    subst e
    obtain ⟨o, e, c, d⟩ := st
    exact ⟨o, e, fun v z => by rw [d] at z; cases z⟩
  keep := fun i h h' st k => st.at fun o e => k it (by simp) o e
  item := by
    intro X hP hw hK hc i pins s σ H E I hf st hg
    subst hP hw hK
    obtain ⟨xs, x, hq, hx⟩ := hg
    obtain ⟨its, rv, p, hz⟩ := I.list hq
    obtain ⟨u, hu, ru⟩ := rv.get hx
    obtain ⟨f0, f1, f2, f3, f4, f5⟩ := hf it (by simp)
    refine wpAny_pyNext_list_item st p.isList (x := u) (by simpa using hu) fun h' st' sb => ?_
    have I1 : Inv X pins σ H { s with heap := h' } := I.turned (t' := s.toks) (fun b o hb e => (sb.2 b hb).trans e) f0 f1 f3 f4 f5
    obtain ⟨o, e, c, d⟩ := id st'
    exact ⟨u, rfl, go_of (s := { s with heap := h' }) e c d (by decide) ⟨x, H, I1, ru, ⟨rfl, fun ys hy => by rw [I.list_inj hy hq]; exact hx⟩, st', fun b hb => (hf b hb).1⟩⟩
  done := by
    intro X hP hw hK hc i pins s σ H E I hf st hg
    subst hP hw hK
    obtain ⟨xs, hq, hx⟩ := hg
    obtain ⟨its, rv, p, hz⟩ := I.list hq
    obtain ⟨f0, f1, f2, f3, f4, f5⟩ := hf it (by simp)
    have hl := rv.length
    exact wpAny_pyNext_list_end (I.ok.hd hc) st p.isList (by simp; omega) fun h' eb => ⟨rfl, I.turned (t' := s.toks) (fun b o hb e => eb b o hb e) f0 f1 f3 f4 f5⟩
  self := fun _ _ _ _ _ st h => wpAny_pyIter_listiter st h
end L2
namespace L2
open PySem PySem.Spec PyProof.Rows
section
variable {X : Cx} {tg : Expr}
def iList (K : PySem.W.Frag) (tl : TE) : TI := fun σ H R => tl σ H fun x H1 => ∃ a, x = .ref a ∧ (∃ xs, SqL K H1 a xs) ∧ R (Itl K a) H1
theorem pi_list {l : Expr} {tl : TE} (hl : PE X l tl) : PI X tg l (iList X.K tl) := by
  intro pins s σ H R I h
  refine thn (hl pins s σ H _ I h) fun v s1 ⟨x, H1, I1, r1, q1⟩ => ?_
  obtain ⟨a, e, ⟨xs, hq⟩, q⟩ := q1
  subst e
  cases r1
  obtain ⟨its, rv, p, hz⟩ := I1.list hq
  refine wpAny_pyIter_list p.isList ?_
  refine ⟨s1.heap.objs.size, [s1.heap.objs.size], _, _, H1, rfl, I1.kept (t' := s1.toks) fun b o e => Heap.get?_push_of_some _ e, turn_list a _, ⟨_, Heap.get?_push_size _ rfl, rfl, rfl⟩, fun b hb => ?_, q⟩
  have e : b = s1.heap.objs.size := by simpa using hb
  subst e
  exact I1.fpOk (Nat.le_refl _) (I1.hok.fresh (Nat.le_refl _))
def tFor (wi : TI) (g : TG) (tb : TS) : TS := fun D σ H => wi σ H fun J H1 => ∃ W : Nat → Nat → St → Hp → Prop, (∃ m, W 0 m σ H1) ∧ ∀ i m σ H, W i m σ H →
  (J.stop i H ∧ D.nx σ H) ∨ (J.go i H ∧ ∃ N : St → Hp → Prop, (∀ σ' H', N σ' H' → ∃ m', m' < m ∧ W (i + 1) m' σ' H') ∧ ∀ x H', J.yld i H x H' → g x σ H' fun σ2 H2 => tb { D with nx := N, ct := N, bk := D.nx } σ2 H2)
def pinsAt (fp : List Addr) (h : Heap) : List (Addr × Obj) := fp.filterMap fun b => (h.get? b).map fun o => (b, o)
theorem mem_pinsAt {fp : List Addr} {h : Heap} {b : Addr} {o : Obj} (hb : b ∈ fp) (e : h.get? b = some o) : (b, o) ∈ pinsAt fp h := List.mem_filterMap.mpr ⟨b, hb, by rw [e]; rfl⟩
theorem of_pinsAt {fp : List Addr} {h : Heap} {p : Addr × Obj} (hp : p ∈ pinsAt fp h) : p.1 ∈ fp ∧ h.get? p.1 = some p.2 := by
  obtain ⟨b, hb, e⟩ := List.mem_filterMap.mp hp
  cases q : h.get? b with
  | none => rw [q] at e; cases e
  | some o =>
    rw [q] at e
    have e' : (b, o) = p := Option.some.inj e
    subst e'
    exact ⟨hb, q⟩
theorem Inv.pinned {pins : List (Addr × Obj)} {σ : St} {H : Hp} {s : Shared} {fp : List Addr} (I : Inv X pins σ H s) (hf : ∀ b ∈ fp, FpOk X pins H b) (ho : ∀ b ∈ fp, ∃ o, s.heap.get? b = some o ∧ ∀ v, o.data ≠ .cell v) : Inv X (pins ++ pinsAt fp s.heap) σ H s :=
  I.pins_of fun p hp => (List.mem_append.mp hp).elim (fun z => I.pin p (List.mem_append_right _ z)) fun z => by
    obtain ⟨hb, e⟩ := of_pinsAt z
    obtain ⟨f0, f1, f2, _⟩ := hf p.1 hb
    obtain ⟨o, e', d⟩ := ho p.1 hb
    rw [e] at e'; cases e'
    exact ⟨e, f0, f1, f2, d⟩
theorem Inv.unpinned {pins pl : List (Addr × Obj)} {σ : St} {H : Hp} {s : Shared} (I : Inv X (pins ++ pl) σ H s) : Inv X pins σ H s := I.pins_of fun p hp => I.pin p (List.mem_append_right _ (List.mem_append_left _ hp))
theorem ps_for {iter : Expr} {body : List Stmt} {wi : TI} {g : TG} {tb : TS} {pos : Pos} (hp : PassesOwn (model X.prog X.w) X.A X.env X.xe) (hc : X.calm = true) (hi : PI X tg iter wi) (hg : PG X tg g) (hb : PSs X body tb)
    (hs : ∀ x, foldedSetIterable iter X.env x = pure x := by intro _; rfl) : PS X (.For tg iter body [] pos) (tFor wi g tb) := by
  intro pins s σ H D I h
  refine wpAny_For (thn (hi pins s σ H _ I h) fun v s1 h1 => thn h1 fun itv s2 h2 => ?_) hs
  obtain ⟨it, fp, tn, J, H2, e, I2, T, st2, f2, W, ⟨m0, w0⟩, turn⟩ := h2
  subst e
  -- what stays true of the iterator's objects through the loop
  have stat : ∀ {H' : Hp}, (∀ b ∈ fp, H' b = none) → ∀ b ∈ fp, FpOk X pins H' b := fun hn b hb => ⟨hn b hb, (f2 b hb).2⟩
  refine codeAny_forLoop_any (fun n s' => ∃ i σ' H', Inv X pins σ' H' s' ∧ tn i s'.heap ∧ (∀ b ∈ fp, H' b = none) ∧ W i n σ' H') ?_ m0 ⟨0, σ, H2, I2, st2, fun b hb => (f2 b hb).1, w0⟩
  rintro n s3 ⟨i, σ3, H3, I3, st3, fr3, w3⟩
  rcases turn i n σ3 H3 w3 with ⟨stop, qn⟩ | ⟨go, N, hN, step⟩
  · refine wpAny_passesOwn hp (thn (T.done X rfl rfl rfl hc i pins s3 σ3 H3 X.xe I3 (stat fr3) st3 stop) fun r s4 ⟨hr, I4⟩ => ?_)
    subst hr
    exact wpAny_execs_nil ⟨σ3, H3, I4, qn⟩
  · refine wpAny_passesOwn hp (thn (T.item X rfl rfl rfl hc i pins s3 σ3 H3 X.xe I3 (stat fr3) st3 go) fun r s4 ⟨u, hr, h4⟩ => ?_)
    subst hr
    refine wpAny_passesOwn hp (thn h4 fun _ s5 ⟨x, H5, I5, r5, y5, st5, fr5⟩ => ?_)
    have I5' := I5.pinned (stat fr5) (T.obj _ _ st5)
    refine wpAny_passesOwn hp (thn (hg _ s5 σ3 H5 x u _ I5' r5 (step x H5 y5)) fun _ s6 ⟨σ6, H6, I6, q6⟩ => ?_)
    refine wpAny_passesOwn hp (thn (hb _ s6 σ6 H6 _ I6 q6) fun f s7 q7 => ?_)
    have again : ∀ {σ7 : St} {H7 : Hp}, Inv X (pins ++ pinsAt fp s5.heap) σ7 H7 s7 → N σ7 H7 → ∃ m, m < n ∧ ∃ i σ' H', Inv X pins σ' H' s7 ∧ tn i s7.heap ∧ (∀ b ∈ fp, H' b = none) ∧ W i m σ' H' := fun {σ7 H7} I7 n7 => by
      obtain ⟨m', hm, w7⟩ := hN σ7 H7 n7
      refine ⟨m', hm, i + 1, σ7, H7, I7.unpinned, T.keep _ _ _ st5 fun b hb o e => (I7.pin (b, o) (List.mem_append_right _ (List.mem_append_right _ (mem_pinsAt hb e)))).1, fun b hb => ?_, w7⟩
      obtain ⟨o, e, d⟩ := T.obj _ _ st5 b hb
      exact (I7.pin (b, o) (List.mem_append_right _ (List.mem_append_right _ (mem_pinsAt hb e)))).2.1
    cases f with
    | next => obtain ⟨σ7, H7, I7, n7⟩ := q7; exact again I7 n7
    | cont => obtain ⟨σ7, H7, I7, n7⟩ := q7; exact again I7 n7
    | brk => obtain ⟨σ7, H7, I7, q7⟩ := q7; exact ⟨σ7, H7, I7.unpinned, q7⟩
    | ret v => obtain ⟨x7, σ7, H7, I7, r7, q7⟩ := q7; exact ⟨x7, σ7, H7, I7.unpinned, r7, q7⟩
end
theorem for_list {K : PySem.W.Frag} {a : Addr} {xs : List V} {g : TG} {tb : TS} {D : Ends} {σ : St} {H : Hp} (Pv : Nat → St → Hp → Prop) (h0 : Pv 0 σ H) (hl : ∀ i σ H, i ≤ xs.length → Pv i σ H → SqL K H a xs)
    (hs : ∀ i x σ H, xs[i]? = some x → Pv i σ H → g x σ H fun σ2 H2 => tb { D with nx := Pv (i + 1), ct := Pv (i + 1), bk := D.nx } σ2 H2) (hd : ∀ σ H, Pv xs.length σ H → D.nx σ H) :
    ∃ W : Nat → Nat → St → Hp → Prop, (∃ m, W 0 m σ H) ∧ ∀ i m σ H, W i m σ H →
      ((Itl K a).stop i H ∧ D.nx σ H) ∨ ((Itl K a).go i H ∧ ∃ N : St → Hp → Prop, (∀ σ' H', N σ' H' → ∃ m', m' < m ∧ W (i + 1) m' σ' H') ∧ ∀ x H', (Itl K a).yld i H x H' → g x σ H' fun σ2 H2 => tb { D with nx := N, ct := N, bk := D.nx } σ2 H2) := by
  refine ⟨fun i m σ H => m = xs.length - i ∧ i ≤ xs.length ∧ Pv i σ H, ⟨xs.length, by simp, Nat.zero_le _, h0⟩, ?_⟩
  rintro i m σ H ⟨rfl, hi, p⟩
  have q := hl i σ H hi p
  by_cases hlt : i < xs.length
  · refine .inr ⟨⟨xs, xs[i], q, by simp [hlt]⟩, Pv (i + 1), fun σ' H' p' => ⟨xs.length - (i + 1), by omega, rfl, hlt, p'⟩, fun x H' y => ?_⟩
    obtain ⟨e, y⟩ := y
    subst e
    exact hs i x σ _ (y xs q) p
  · have e : i = xs.length := by omega
    subst e
    exact .inl ⟨⟨xs, q, Nat.le_refl _⟩, hd σ H p⟩
end L2
namespace L2
open PySem PySem.Spec PyProof.Rows
abbrev R2 := V → V → Hp → VK → Prop
def OpR (X : Cx) (f : Value → Value → Sem Value) (r : R2) : Prop :=
  ∀ (pins : List (Addr × Obj)) (s : Shared) (σ : St) (H : Hp) (x y : V) (v u : Value) (Q : VK), Inv X pins σ H s → RelV x v → RelV y u → r x y H Q →
    wpAny (model X.prog X.w) X.A (f v u) (EP X pins σ Q) X.xe s
def CallR (X : Cx) (f : Value) (r : List V → Hp → VK → Prop) : Prop :=
  ∀ (pins : List (Addr × Obj)) (s : Shared) (σ : St) (H : Hp) (xs : List V) (us : List Value) (Q : VK), Inv X pins σ H s → Vals xs us → r xs H Q →
    wpAny (model X.prog X.w) X.A (call f us) (EP X pins σ Q) X.xe s
def tOp (r : R2) (ta tb : TE) : TE := fun σ H Q => ta σ H fun x H1 => tb σ H1 fun y H2 => r x y H2 Q
def rI (C : Int → Int → Prop) (g : Int → Int → V) : R2 := fun x y H Q => ∃ i j, x = .int i ∧ y = .int j ∧ C i j ∧ Q (g i j) H
def rI0 (g : Int → Int → V) : R2 := fun x y H Q => ∃ i j, x = .int i ∧ y = .int j ∧ Q (g i j) H
section
variable {X : Cx} {a b c : Expr} {ta tb tc : TE} {pos : Pos}
theorem binT (ha : PE X a ta) (hb : PE X b tb) {pins : List (Addr × Obj)} {s : Shared} {σ : St} {H : Hp} {R : V → V → Hp → Prop} (I : Inv X pins σ H s)
    (h : ta σ H fun x H1 => tb σ H1 fun y H2 => R x y H2) {Q : Value → Shared → Prop} {f : Value → Value → Sem Value}
    (hf : ∀ v u s2 x y H2, Inv X pins σ H2 s2 → RelV x v → RelV y u → R x y H2 → wpAny (model X.prog X.w) X.A (f v u) Q X.xe s2) :
    wpAny (model X.prog X.w) X.A (eval a X.env) (fun v s₁ => wpAny (model X.prog X.w) X.A (eval b X.env) (fun u s₂ => wpAny (model X.prog X.w) X.A (f v u) Q X.xe s₂) X.xe s₁) X.xe s := by
  refine thn (ha pins s σ H _ I h) fun v s1 ⟨x, H1, I1, r1, q1⟩ => ?_
  refine thn (hb pins s1 σ H1 _ I1 q1) fun u s2 ⟨y, H2, I2, r2, q2⟩ => ?_
  exact hf v u s2 x y H2 I2 r1 r2 q2
theorem pe_op {op : Operator} {r : R2} (ho : OpR X (binaryOp op) r) (ha : PE X a ta) (hb : PE X b tb) : PE X (.BinOp a op b pos) (tOp r ta tb) := by
  intro pins s σ H Q I h
  exact wpAny_BinOp (binT ha hb I h fun v u s2 x y H2 I2 rx ry q => ho pins s2 σ H2 x y v u Q I2 rx ry q)
theorem opI {f : Value → Value → Sem Value} {C : Int → Int → Prop} {g : Int → Int → Int}
    (rule : ∀ (i j : Int) (t u : Tok) (s : Shared) (Q : Value → Shared → Prop) (E : Value → Shared → Prop), C i j → Q (.int (g i j) s.toks) { s with toks := s.toks + 1 } → wpAny (model X.prog X.w) X.A (f (.int i t) (.int j u)) Q E s) :
    OpR X f (rI C fun i j => .int (g i j)) := by
  intro pins s σ H x y v u Q I rx ry h
  obtain ⟨i, j, rfl, rfl, hc, q⟩ := h
  obtain ⟨t, rfl⟩ := rx
  obtain ⟨t', rfl⟩ := ry
  exact rule i j t t' s _ _ hc ⟨.int (g i j), H, I.tok _, ⟨_, rfl⟩, q⟩
theorem opI0 {f : Value → Value → Sem Value} {g : Int → Int → Int}
    (rule : ∀ (i j : Int) (t u : Tok) (s : Shared) (Q : Value → Shared → Prop) (E : Value → Shared → Prop), Q (.int (g i j) s.toks) { s with toks := s.toks + 1 } → wpAny (model X.prog X.w) X.A (f (.int i t) (.int j u)) Q E s) :
    OpR X f (rI0 fun i j => .int (g i j)) := by
  intro pins s σ H x y v u Q I rx ry h
  obtain ⟨i, j, rfl, rfl, q⟩ := h
  obtain ⟨t, rfl⟩ := rx
  obtain ⟨t', rfl⟩ := ry
  exact rule i j t t' s _ _ ⟨.int (g i j), H, I.tok _, ⟨_, rfl⟩, q⟩
theorem opB0 {f : Value → Value → Sem Value} {g : Int → Int → Bool}
    (rule : ∀ (i j : Int) (t u : Tok) (s : Shared) (Q : Value → Shared → Prop) (E : Value → Shared → Prop), Q (.bool (g i j)) s → wpAny (model X.prog X.w) X.A (f (.int i t) (.int j u)) Q E s) :
    OpR X f (rI0 fun i j => .bl (g i j)) := by
  intro pins s σ H x y v u Q I rx ry h
  obtain ⟨i, j, rfl, rfl, q⟩ := h
  obtain ⟨t, rfl⟩ := rx
  obtain ⟨t', rfl⟩ := ry
  exact rule i j t t' s _ _ ⟨.bl (g i j), H, I, rfl, q⟩
def CDiv (i j : Int) : Prop := 0 < j ∧ j < 1073741824
def CMul (i j : Int) : Prop := (-(2 ^ 64) < i ∧ i < 2 ^ 64) ∨ (-(2 ^ 64) < j ∧ j < 2 ^ 64)
theorem CMul.ok {i j : Int} (h : CMul i j) : IntMulOk i j := by
  rcases h with ⟨h1, h2⟩ | ⟨h1, h2⟩
  · exact .of_left (intBits_le_64 h1 h2)
  · exact .of_right (intBits_le_64 h1 h2)
theorem op_add : OpR X (binaryOp .Add) (rI0 fun i j => .int (i + j)) := opI0 fun _ _ _ _ _ _ _ q => add_int q
theorem op_sub : OpR X (binaryOp .Sub) (rI0 fun i j => .int (i - j)) := opI0 fun _ _ _ _ _ _ _ q => sub_int q
theorem op_mul : OpR X (binaryOp .Mult) (rI CMul fun i j => .int (i * j)) := opI fun _ _ _ _ _ _ _ hc q => mul_int q hc.ok
theorem op_fdiv : OpR X (binaryOp .FloorDiv) (rI CDiv fun i j => .int (i / j)) := opI fun i j _ _ _ _ _ hc q => by
  have h1 : (0 : Int) < j := hc.1
  have h2 : j < 1073741824 := hc.2
  exact floordiv_int (by omega) (by rw [Int.fdiv_eq_ediv_of_nonneg i (by omega)]; exact q) (.inl (PyProof.noPylong_small (by omega)))
theorem op_mod : OpR X (binaryOp .Mod) (rI (fun _ j => 0 < j) fun i j => .int (i % j)) := opI fun i j _ _ _ _ _ hc q => by
  have h1 : (0 : Int) < j := hc
  exact mod_int' (by omega) (by rw [Int.fmod_eq_emod_of_nonneg i (by omega)]; exact q)
end
def scal : V → V → Bool
  | .non, .non => true | .non, .int _ => true | .int _, .non => true | .non, .bl _ => true | .bl _, .non => true | .non, .str _ => true | .str _, .non => true
  | .int _, .int _ => true | .bl _, .bl _ => true | .str _, .str _ => true | .byt _, .byt _ => true
  | .int _, .str _ => true | .str _, .int _ => true | .bl _, .str _ => true | .str _, .bl _ => true
  | _, _ => false
def rEq : R2 := fun x y H Q => scal x y = true ∧ Q (.bl (decide (x = y))) H
def rNe : R2 := fun x y H Q => scal x y = true ∧ Q (.bl (!decide (x = y))) H
theorem dec_int {i j : Int} : decide (V.int i = V.int j) = (i == j) := by
  rw [Bool.eq_iff_iff]
  simp
theorem dec_bl {i j : Bool} : decide (V.bl i = V.bl j) = (i == j) := by
  rw [Bool.eq_iff_iff]
  simp
theorem dec_str {i j : Str} : decide (V.str i = V.str j) = (i == j) := by
  rw [Bool.eq_iff_iff]
  simp
theorem dec_byt {i j : Array UInt8} : decide (V.byt i = V.byt j) = (i.toList == j.toList) := by
  rw [Bool.eq_iff_iff]
  cases i
  cases j
  simp
section
variable {X : Cx} {a b c : Expr} {ta tb tc : TE} {pos : Pos}
theorem fin_bl {pins : List (Addr × Obj)} {σ : St} {H : Hp} {s : Shared} {Q : VK} {k k' : Bool} (I : Inv X pins σ H s) (q : Q (.bl k) H) (e : k = k') : EP X pins σ Q (.bool k') s := by
  subst e
  exact ⟨.bl k, H, I, rfl, q⟩
theorem op_eq : OpR X (compareOp .Eq) rEq := by
  intro pins s σ H x y v u Q I rx ry h
  obtain ⟨hs, q⟩ := h
  cases x with
  | non =>
    cases rx
    cases y with
    | non => cases ry; exact PySem.EqNone.eq_none_none (fin_bl I q (by simp))
    | bl j => cases ry; exact PySem.EqNone.eq_none_bool (fin_bl I q (by simp))
    | int j => obtain ⟨t', rfl⟩ := ry; exact PySem.EqNone.eq_none_int (fin_bl I q (by simp))
    | str j => obtain ⟨t', rfl⟩ := ry; exact PySem.EqNone.eq_none_str (fin_bl I q (by simp))
    | _ => exact absurd (show false = true from hs) Bool.false_ne_true
  | bl i =>
    cases rx
    cases y with
    | non => cases ry; exact PySem.EqNone.eq_bool_none (fin_bl I q (by simp))
    | bl j => cases ry; exact eq_bool (fin_bl I q dec_bl)
    | str j => obtain ⟨t', rfl⟩ := ry; exact PySem.EqMixed.eq_bool_str (fin_bl I q (by simp))
    | _ => exact absurd (show false = true from hs) Bool.false_ne_true
  | int i =>
    obtain ⟨t, rfl⟩ := rx
    cases y with
    | non => cases ry; exact PySem.EqNone.eq_int_none (fin_bl I q (by simp))
    | int j => obtain ⟨t', rfl⟩ := ry; exact eq_int (fin_bl I q dec_int)
    | str j => obtain ⟨t', rfl⟩ := ry; exact PySem.EqMixed.eq_int_str (fin_bl I q (by simp))
    | _ => exact absurd (show false = true from hs) Bool.false_ne_true
  | str i =>
    obtain ⟨t, rfl⟩ := rx
    cases y with
    | non => cases ry; exact PySem.EqNone.eq_str_none (fin_bl I q (by simp))
    | bl j => cases ry; exact PySem.EqMixed.eq_str_bool (fin_bl I q (by simp))
    | int j => obtain ⟨t', rfl⟩ := ry; exact PySem.EqMixed.eq_str_int (fin_bl I q (by simp))
    | str j => obtain ⟨t', rfl⟩ := ry; exact eq_str (fin_bl I q dec_str)
    | _ => exact absurd (show false = true from hs) Bool.false_ne_true
  | byt i =>
    obtain ⟨t, rfl⟩ := rx
    cases y with
    | byt j => obtain ⟨t', rfl⟩ := ry; exact PySem.W.eq_bytes (fin_bl I q dec_byt)
    | _ => exact absurd (show false = true from hs) Bool.false_ne_true
  | _ => cases y <;> exact absurd (show false = true from hs) Bool.false_ne_true
theorem op_ne : OpR X (compareOp .NotEq) rNe := by
  intro pins s σ H x y v u Q I rx ry h
  obtain ⟨hs, q⟩ := h
  cases x with
  | non =>
    cases rx
    cases y with
    | non => cases ry; exact PySem.EqNone.ne_none_none (fin_bl I q (by simp))
    | bl j => cases ry; exact PySem.EqNone.ne_none_bool (fin_bl I q (by simp))
    | int j => obtain ⟨t', rfl⟩ := ry; exact PySem.EqNone.ne_none_int (fin_bl I q (by simp))
    | str j => obtain ⟨t', rfl⟩ := ry; exact PySem.EqNone.ne_none_str (fin_bl I q (by simp))
    | _ => exact absurd (show false = true from hs) Bool.false_ne_true
  | bl i =>
    cases rx
    cases y with
    | non => cases ry; exact PySem.EqNone.ne_bool_none (fin_bl I q (by simp))
    | bl j => cases ry; exact ne_bool (fin_bl I q (congrArg not dec_bl))
    | str j => obtain ⟨t', rfl⟩ := ry; exact PySem.EqMixed.ne_bool_str (fin_bl I q (by simp))
    | _ => exact absurd (show false = true from hs) Bool.false_ne_true
  | int i =>
    obtain ⟨t, rfl⟩ := rx
    cases y with
    | non => cases ry; exact PySem.EqNone.ne_int_none (fin_bl I q (by simp))
    | int j => obtain ⟨t', rfl⟩ := ry; exact ne_int (fin_bl I q (congrArg not dec_int))
    | str j => obtain ⟨t', rfl⟩ := ry; exact PySem.EqMixed.ne_int_str (fin_bl I q (by simp))
    | _ => exact absurd (show false = true from hs) Bool.false_ne_true
  | str i =>
    obtain ⟨t, rfl⟩ := rx
    cases y with
    | non => cases ry; exact PySem.EqNone.ne_str_none (fin_bl I q (by simp))
    | bl j => cases ry; exact PySem.EqMixed.ne_str_bool (fin_bl I q (by simp))
    | int j => obtain ⟨t', rfl⟩ := ry; exact PySem.EqMixed.ne_str_int (fin_bl I q (by simp))
    | str j => obtain ⟨t', rfl⟩ := ry; exact ne_str (fin_bl I q (congrArg not dec_str))
    | _ => exact absurd (show false = true from hs) Bool.false_ne_true
  | byt i =>
    obtain ⟨t, rfl⟩ := rx
    cases y with
    | byt j => obtain ⟨t', rfl⟩ := ry; exact PySem.W.ne_bytes (fin_bl I q (congrArg not dec_byt))
    | _ => exact absurd (show false = true from hs) Bool.false_ne_true
  | _ => cases y <;> exact absurd (show false = true from hs) Bool.false_ne_true
theorem op_lt : OpR X (compareOp .Lt) (rI0 fun i j => .bl (decide (i < j))) := opB0 fun _ _ _ _ _ _ _ q => lt_int q
theorem op_gt : OpR X (compareOp .Gt) (rI0 fun i j => .bl (decide (j < i))) := opB0 fun _ _ _ _ _ _ _ q => gt_int q
theorem op_ge : OpR X (compareOp .GtE) (rI0 fun i j => .bl (decide (j ≤ i))) := opB0 fun _ _ _ _ _ _ _ q => ge_int q
theorem OpR.or {f : Value → Value → Sem Value} {r r' : R2} (h : OpR X f r) (h' : OpR X f r') : OpR X f (fun x y H Q => r x y H Q ∨ r' x y H Q) := by
  intro pins s σ H x y v u Q I rx ry q
  rcases q with q | q
  · exact h pins s σ H x y v u Q I rx ry q
  · exact h' pins s σ H x y v u Q I rx ry q
theorem nomark (b : Expr) {op : CmpOp} (h : op ≠ .In := by decide) (h2 : op ≠ .NotIn := by decide) : behindInMarks op b = false := by
  have e1 : (op == CmpOp.In) = false := by cases op <;> first | rfl | exact absurd rfl h
  have e2 : (op == CmpOp.NotIn) = false := by cases op <;> first | rfl | exact absurd rfl h2
  cases b <;> simp [behindInMarks, e1, e2]
theorem pe_cmpR {op : CmpOp} {r : R2} (ho : OpR X (compareOp op) r) (ha : PE X a ta) (hb : PE X b tb) (hm : behindInMarks op b = false) : PE X (.Compare a [op] [b] pos) (tOp r ta tb) := by
  intro pins s σ H Q I h
  exact wpAny_Compare1 (binT ha hb I h fun v u s2 x y H2 I2 rx ry q => ho pins s2 σ H2 x y v u Q I2 rx ry q) hm
def tTest (t : TE) : TT := fun σ H Q => t σ H fun x H' => ∃ k, x = .bl k ∧ Q k H'
theorem pt_cmpR {op : CmpOp} {r : R2} (ho : OpR X (compareOp op) r) (ha : PE X a ta) (hb : PE X b tb) (hm : behindInMarks op b = false) : PT X (.Compare a [op] [b] pos) (tTest (tOp r ta tb)) := by
  intro pins s σ H Q I h
  refine wpAny_isTrue_Compare1 (thn (ha pins s σ H _ I h) fun v s1 ⟨x, H1, I1, r1, q1⟩ => thn (hb pins s1 σ H1 _ I1 q1) fun u s2 ⟨y, H2, I2, r2, q2⟩ =>
    thn (ho pins s2 σ H2 x y v u _ I2 r1 r2 q2) fun c s3 ⟨z, H3, I3, r3, k, e, q3⟩ => ?_) hm
  subst e
  cases r3
  exact wpAny_truthy_bool ⟨H3, I3, q3⟩
theorem line63 : (sizeLine : Nat) < 2 ^ 63 := by rw [sizeLine_eq]; decide
theorem vals1 {x : V} {us : List Value} (r : Vals [x] us) : ∃ u, us = [u] ∧ RelV x u := by
  cases r with
  | cons r1 r2 => cases r2; exact ⟨_, rfl, r1⟩
theorem vals2 {x y : V} {us : List Value} (r : Vals [x, y] us) : ∃ u w', us = [u, w'] ∧ RelV x u ∧ RelV y w' := by
  cases r with
  | cons r1 r2 =>
    cases r2 with
    | cons r3 r4 => cases r4; exact ⟨_, _, rfl, r1, r3⟩
theorem call_max2 (hc : X.calm = true) : CallR X (.builtin "max") (fun xs H Q => ∃ i j, xs = [.int i, .int j] ∧ Q (.int (if j > i then j else i)) H) := by
  intro pins s σ H xs us Q I r h
  obtain ⟨i, j, rfl, q⟩ := h
  obtain ⟨u, w', rfl, ⟨t, rfl⟩, ⟨t', rfl⟩⟩ := vals2 r
  refine max_two_ints (I.ok.hd hc) fun h' tk k => ⟨_, H, I.kept k, ?_, q⟩
  by_cases hj : j > i
  · rw [if_pos hj, if_pos hj]; exact ⟨_, rfl⟩
  · rw [if_neg hj, if_neg hj]; exact ⟨_, rfl⟩
theorem call_min2 (hc : X.calm = true) : CallR X (.builtin "min") (fun xs H Q => ∃ i j, xs = [.int i, .int j] ∧ Q (.int (if j < i then j else i)) H) := by
  intro pins s σ H xs us Q I r h
  obtain ⟨i, j, rfl, q⟩ := h
  obtain ⟨u, w', rfl, ⟨t, rfl⟩, ⟨t', rfl⟩⟩ := vals2 r
  refine min_two_ints (I.ok.hd hc) fun h' tk k => ⟨_, H, I.kept k, ?_, q⟩
  by_cases hj : j < i
  · rw [if_pos hj, if_pos hj]; exact ⟨_, rfl⟩
  · rw [if_neg hj, if_neg hj]; exact ⟨_, rfl⟩
def LenV (K : PySem.W.Frag) (x : V) (H : Hp) (n : Nat) : Prop :=
  match x with
  | .str y => y.length ≤ sizeLine ∧ n = y.length
  | .byt y => y.size ≤ sizeLine ∧ n = y.size
  | .ref p => (∃ xs, SqL K H p xs ∧ n = xs.length) ∨ ∃ xs, SqT K H p xs ∧ n = xs.length
  | _ => False
theorem call_len : CallR X (.builtin "len") (fun xs H Q => ∃ x n, xs = [x] ∧ LenV X.K x H n ∧ Q (.int n) H) := by
  intro pins s σ H xs us Q I r h
  obtain ⟨x, n, rfl, e, q⟩ := h
  obtain ⟨u, rfl, rx⟩ := vals1 r
  have hl := line63
  have hs : sizeLine = 16777216 := sizeLine_eq
  cases x with
  | str y =>
    obtain ⟨t, rfl⟩ := rx
    obtain ⟨hy, e'⟩ : y.length ≤ sizeLine ∧ n = y.length := e
    subst e'
    exact len_str (by omega) ⟨.int _, H, I.tok _, ⟨_, rfl⟩, q⟩
  | byt y =>
    obtain ⟨t, rfl⟩ := rx
    obtain ⟨hy, e'⟩ : y.size ≤ sizeLine ∧ n = y.size := e
    subst e'
    exact PySem.W.len_bytes (by omega) ⟨.int _, H, I.tok _, ⟨_, rfl⟩, q⟩
  | ref p =>
    cases rx
    have e' : (∃ xs, SqL X.K H p xs ∧ n = xs.length) ∨ ∃ xs, SqT X.K H p xs ∧ n = xs.length := e
    rcases e' with ⟨xs, hx, e'⟩ | ⟨xs, hx, e'⟩
    · subst e'
      obtain ⟨its, r', pl, hz⟩ := I.list hx
      have hlen := r'.length
      exact Calls.call_len_list pl.isList (by simp only [List.size_toArray]; omega) ⟨.int xs.length, H, I.tok _, ⟨_, by simp only [List.size_toArray]; rw [hlen]⟩, q⟩
    · subst e'
      obtain ⟨its, r', pl, hz⟩ := I.tuple hx
      have hlen := r'.length
      exact len_tuple pl (by simp only [List.size_toArray]; omega) ⟨.int xs.length, H, I.tok _, ⟨_, by simp only [List.size_toArray]; rw [hlen]⟩, q⟩
  | _ => exact (show False from e).elim
end
end L2
namespace L2
open PySem PySem.Spec PyProof.Rows
structure ObjM (h : Heap) (x dx C : Addr) (mA : Str → Option Value) : Prop where
  obj : h.get? x = some (PySem.W.instObj C dx)
  ns : h.Ns1 dx mA
  ne : dx ≠ x
theorem lookIn_ns {h : Heap} {dx : Addr} {mA : Str → Option Value} (n : h.Ns1 dx mA) : ∃ od, h.get? dx = some od ∧ ∀ name, PySem.W.lookIn name od = some (mA name) := by
  obtain ⟨o, es, ep, ho, hd, hk, _, hm⟩ := n
  refine ⟨o, ho, fun name => ?_⟩
  have e := hm name
  unfold nsFind findBy at e
  rw [← Array.find?_toList] at e
  unfold PySem.W.lookIn
  rw [hd]
  dsimp only
  split
  · rename_i y q
    rw [q] at e
    exact congrArg some e
  · rename_i q
    rw [q] at e
    have a : es.toList.any (·.refKey) = false := by
      rw [List.any_eq_false]
      intro y hy
      obtain ⟨z, t, hkey⟩ := hk y (Array.mem_toList_iff.mp hy)
      simp [DictEntry.refKey, hkey]
    have a' : ¬ es.toList.any (·.refKey) = true := by rw [a]; exact Bool.false_ne_true
    rw [if_neg a']
    exact congrArg some e
theorem ObjM.look {h : Heap} {x dx C : Addr} {mA : Str → Option Value} (I : ObjM h x dx C mA) : ∃ od, PySem.W.InstAt h x (PySem.W.instObj C dx) C (some od) ∧ ∀ name, PySem.W.lookIn name od = some (mA name) :=
  let ⟨od, ho, hl⟩ := lookIn_ns I.ns
  ⟨od, ⟨I.obj, rfl, rfl, ho⟩, hl⟩
section
variable {prog : Program} {w : World} {A : Around} {E : Value → Shared → Prop} {s : Shared} {K : PySem.W.Frag} {x dx C f : Addr} {mA : Str → Option Value} {name : Str} {v : Value}
theorem get_map {expr : Bool} {Q : Value → Shared → Prop} (X : K.In s.heap) (I : ObjM s.heap x dx C mA) (hg : PySem.W.plainGet K C name = true) (hh : PySem.W.hasDictIn K C = true)
    (ha : PySem.W.findIn K (.ref C) name = some none) (hv : mA name = some v) (hv' : PySem.W.handedIn v = true) (h : Q v { s with toks := s.toks + 1 }) :
    wpAny (model prog w) A (getAttr (.ref x) name expr) Q E s := by
  obtain ⟨od, J, hl⟩ := I.look
  exact PySem.W.get_value X J (PySem.W.plainGet_of hg).1 (PySem.W.findObj_own hh ha rfl (by rw [hl, hv])) hv' h
theorem get_meth {pl : Sem Bool} {Q : Value × List Value → Shared → Prop} (X : K.In s.heap) (I : ObjM s.heap x dx C mA) (hg : PySem.W.plainGet K C name = true)
    (hf : PySem.W.findIn K (.ref C) name = some (some (.ref f))) (ht : PySem.W.isFn K (.ref f) = true) (hv : mA name = none) (h : Q (.ref f, [.ref x]) s) :
    wpAny (model prog w) A (getMethod (.ref x) name pl) Q E s := by
  obtain ⟨od, J, hl⟩ := I.look
  exact PySem.W.method_fn X J (PySem.W.plainGet_of hg).1 (PySem.W.plainGet_of hg).2 hf (beq_iff_eq.mp ht) (by show (PySem.W.lookIn name od).map (·.isSome) = some false; rw [hl, hv]; rfl) h
theorem set_map {ns : List Str} {Q : Unit → Shared → Prop} (X : K.In s.heap) (I : ObjM s.heap x dx C mA)
    (hs : PySem.W.findIn K (.ref C) "__setattr__" = some (some (.builtin "object.__setattr__"))) (hp : PySem.W.plainOver K C = true) (ht : PySem.W.takerIn K C name = some none) (hh : PySem.W.hasDictIn K C = true)
    (hw : PySem.Within mA ns) (hsz : ns.length ≤ sizeLine)
    (h : ∀ h', ObjM h' x dx C (fun y => if y = name then some v else mA y) → Heap.SameBut dx s.heap h' → Q () { s with heap := h', toks := s.toks + 2 }) :
    wpAny (model prog w) A (setAttr (.ref x) name v) Q E s := by
  obtain ⟨od, J, hl⟩ := I.look
  refine PySem.W.set_plain X J hs (PySem.W.osa_open (s := { s with toks := s.toks + 1 }) (r := none) X J hp ht fun b => ?_)
  obtain ⟨cd, hc, hd'⟩ := PySem.W.any_some hh
  have hx : s.heap.get? x = some ⟨.ref C, some dx, .plain, #[]⟩ := I.obj
  refine wpAny_bind (wpAny_pure (wpAny_bind (wpAny_bind (wpAny_loadPart hx (wpAny_bind (PySem.W.Looks.here (s := { s with toks := s.toks + 1 }) (PySem.W.looks_clsIn X hc) ?_))))))
  rw [hd']
  refine wpAny_pure (a := some dx) (wpAny_bind (wpAny_pure (wpAny_bind ?_)))
  refine wpAny_nsSet1 (s := { s with toks := s.toks + 1 }) I.ns fun h' hn2 hs2 => ?_
  obtain ⟨oD, esD, epD, hoD, hdD, hcD⟩ := hn2.count (PySem.Within.cons name v hw)
  refine wpAny_bind (wpAny_lookBehind hoD (by rw [hdD]; exact pastItsLine_dict (Nat.le_trans hcD (by rw [List.length_cons]; omega))) ?_)
  exact wpAny_pure (h _ ⟨(hs2.2 _ (Ne.symm I.ne)).trans I.obj, hn2, I.ne⟩ hs2)
theorem make_map {R : Result → Shared → Prop} {vs : List Value} {kw : List (Str × Value)} (X : K.In s.heap) (hm : PySem.W.makesIn K C = true)
    (hi : PySem.W.findIn K (.ref C) "__init__" = some (some (.ref f))) (hf : PySem.W.typeIn K (.ref f) = some (.type "function"))
    (h : codeAny (model prog w) (A.under (.builtin "type.__call__" ⟨.ref C :: vs, kw⟩)) (.call (.ref f) ⟨.ref (s.heap.objs.size + 1) :: vs, kw⟩) (PySem.W.InitBack (s.heap.objs.size + 1) R)
      { s with heap := (s.heap.push PySem.W.emptyDict).push (PySem.W.instObj C s.heap.objs.size) }) :
    codeAny (model prog w) A (.call (.ref C) ⟨vs, kw⟩) R s := by
  obtain ⟨hh, g, d, t, os⟩ := s
  exact PySem.W.make_core (PySem.W.makes_of X hm) (PySem.W.looks_findIn X hi) (fun self => PySem.W.bind_fn X self hf) (.inl rfl) h
end
def putF (f : Str) (v : V) : List (Str × V) → List (Str × V)
  | [] => [(f, v)]
  | (g, x) :: r => if g = f then (g, v) :: r else (g, x) :: putF f v r
theorem lookup_putF (f g : Str) (v : V) : ∀ fs : List (Str × V), (putF f v fs).lookup g = if g = f then some v else fs.lookup g
  | [] => by
    show List.lookup g [(f, v)] = _
    by_cases h : g = f
    · have hb : (g == f) = true := beq_iff_eq.mpr h
      simp only [List.lookup, hb, if_pos h]
    · have hb : (g == f) = false := beq_eq_false_iff_ne.mpr h
      simp only [List.lookup, hb, if_neg h]
  | (k, x) :: r => by
    have ih := lookup_putF f g v r
    rw [show putF f v ((k, x) :: r) = (if k = f then (k, v) :: r else (k, x) :: putF f v r) from rfl]
    by_cases hk : k = f
    · rw [if_pos hk]
      by_cases h : g = k
      · have hb : (g == k) = true := beq_iff_eq.mpr h
        simp only [List.lookup, hb, if_pos (h.trans hk)]
      · have hb : (g == k) = false := beq_eq_false_iff_ne.mpr h
        simp only [List.lookup, hb, if_neg (fun e : g = f => h (e.trans hk.symm))]
    · rw [if_neg hk]
      by_cases h : g = k
      · have hb : (g == k) = true := beq_iff_eq.mpr h
        simp only [List.lookup, hb, if_neg (fun e : g = f => hk (h.symm.trans e))]
      · have hb : (g == k) = false := beq_eq_false_iff_ne.mpr h
        simp only [List.lookup, hb]
        exact ih
theorem keys_putF (f : Str) (v : V) : ∀ fs : List (Str × V), f ∈ (putF f v fs).map (·.1) ∧ ∀ g, g ∈ fs.map (·.1) → g ∈ (putF f v fs).map (·.1)
  | [] => ⟨by simp [putF], fun g h => by simp at h⟩
  | (k, x) :: r => by
    obtain ⟨i1, i2⟩ := keys_putF f v r
    rw [show putF f v ((k, x) :: r) = (if k = f then (k, v) :: r else (k, x) :: putF f v r) from rfl]
    by_cases hk : k = f
    · rw [if_pos hk]
      subst hk
      exact ⟨by simp, fun g h => by simpa using h⟩
    · rw [if_neg hk]
      refine ⟨?_, fun g h => ?_⟩
      · rw [List.map_cons]
        exact List.mem_cons_of_mem _ i1
      · rw [List.map_cons] at h ⊢
        rcases List.mem_cons.mp h with e | e
        · exact List.mem_cons.mpr (.inl e)
        · exact List.mem_cons_of_mem _ (i2 g e)
theorem length_putF (f : Str) (v : V) : ∀ fs : List (Str × V), (putF f v fs).length ≤ fs.length + 1
  | [] => by simp [putF]
  | (k, x) :: r => by
    have ih := length_putF f v r
    rw [show putF f v ((k, x) :: r) = (if k = f then (k, v) :: r else (k, x) :: putF f v r) from rfl]
    by_cases hk : k = f
    · rw [if_pos hk, List.length_cons, List.length_cons]; omega
    · rw [if_neg hk, List.length_cons, List.length_cons]; omega
theorem RelO.some_of {v : V} {o : Option Value} (r : RelO (some v) o) : ∃ u, o = some u ∧ RelV v u := by
  cases o with
  | none => exact (show False from r).elim
  | some u => exact ⟨u, rfl, r⟩
theorem RelO.none_of {o : Option Value} (r : RelO none o) : o = none := by
  cases o with
  | none => rfl
  | some u => exact (show False from r).elim
theorem handed_of {v : V} {u : Value} (r : RelV v u) : PySem.W.handedIn u = true := by
  cases v with
  | non => cases (show u = Value.none from r); rfl
  | bl b => cases (show u = Value.bool b from r); rfl
  | int i => obtain ⟨t, e⟩ := (show ∃ t, u = Value.int i t from r); cases e; rfl
  | str x => obtain ⟨t, e⟩ := (show ∃ t, u = Value.str x t from r); cases e; rfl
  | byt b => obtain ⟨t, e⟩ := (show ∃ t, u = Value.bytes b t from r); cases e; rfl
  | flt b => obtain ⟨t, e⟩ := (show ∃ t, u = Value.float b t from r); cases e; rfl
  | ref a => cases (show u = Value.ref a from r); rfl
  | ty n => cases (show u = Value.type n from r); rfl
section
variable {P : Program} {w : World} {H H' : Hp} {h h' : Heap} {a C dx : Addr} {fs fs' : List (Str × V)}
theorem ins_get (hok : HOk P w H h) (e : H a = some (.ins C dx fs)) : ∃ mA, ObjM h a dx C mA ∧ (∀ f, RelO (fs.lookup f) (mA f)) ∧ PySem.Within mA (fs.map (·.1)) ∧ fs.length ≤ 1000 ∧ H dx = some (.own a) := by
  obtain ⟨d, z, ne, ob, mA, n, r, q⟩ := (show ObjOk P w H h a (.ins C dx fs) from hok a _ e)
  exact ⟨mA, ⟨ob, n, ne⟩, r, q, z, d⟩
end
structure Cls (K : PySem.W.Frag) (C : Addr) : Prop where
  pg : PySem.W.plainGet K C Str.empty = true
  hd : PySem.W.hasDictIn K C = true
  po : PySem.W.plainOver K C = true
  sa : PySem.W.findIn K (.ref C) "__setattr__" = some (some (.builtin "object.__setattr__"))
theorem Cls.get {K : PySem.W.Frag} {C : Addr} (c : Cls K C) (f : Str) : PySem.W.plainGet K C f = true := c.pg
def NoAttr (K : PySem.W.Frag) (C : Addr) (f : Str) : Prop := PySem.W.findIn K (.ref C) f = some none
theorem NoAttr.taker {K : PySem.W.Frag} {C : Addr} {f : Str} (n : NoAttr K C f) : PySem.W.takerIn K C f = some none := by
  unfold PySem.W.takerIn
  rw [show PySem.W.findIn K (.ref C) f = some none from n]
  rfl
structure Meth (K : PySem.W.Frag) (C : Addr) (m : Str) (f : Addr) : Prop where
  at_ : PySem.W.findIn K (.ref C) m = some (some (.ref f))
  fn : PySem.W.isFn K (.ref f) = true
  kp : PySem.W.keepIn K (.ref f) = true
section
variable {X : Cx} {pins : List (Addr × Obj)} {σ : St} {H : Hp} {s : Shared} {a C dx : Addr} {fs : List (Str × V)} {f : Str} {v : V} {A : Around} {E : Value → Shared → Prop}
theorem getattr_ok {b : Bool} {Q : Value → Shared → Prop} (I : Inv X pins σ H s) (e : H a = some (.ins C dx fs)) (c : Cls X.K C) (n : NoAttr X.K C f) (l : fs.lookup f = some v)
    (h : ∀ u s', Inv X pins σ H s' → RelV v u → Q u s') : wpAny (model X.prog X.w) A (getAttr (.ref a) f b) Q E s := by
  obtain ⟨mA, O, r, _, _, _⟩ := ins_get I.hok e
  obtain ⟨u, hu, ru⟩ := RelO.some_of (v := v) (o := mA f) (by rw [← l]; exact r f)
  exact get_map I.kIn O (c.get f) c.hd n hu (handed_of ru) (h u _ (I.tok _) ru)
theorem getmeth_ok {m : Str} {g : Addr} {pl : Sem Bool} {Q : Value × List Value → Shared → Prop} (I : Inv X pins σ H s) (e : H a = some (.ins C dx fs)) (c : Cls X.K C) (k : Meth X.K C m g) (l : fs.lookup m = none)
    (h : Q (.ref g, [.ref a]) s) : wpAny (model X.prog X.w) A (getMethod (.ref a) m pl) Q E s := by
  obtain ⟨mA, O, r, _, _, _⟩ := ins_get I.hok e
  have hn : mA m = none := RelO.none_of (by rw [← l]; exact r m)
  exact get_meth I.kIn O (c.get m) k.at_ k.fn hn h
theorem setattr_ok {y : V} {u : Value} {Q : Unit → Shared → Prop} (I : Inv X pins σ H s) (e : H a = some (.ins C dx fs)) (c : Cls X.K C) (n : NoAttr X.K C f) (hl : fs.length < 1000) (ry : RelV y u)
    (h : ∀ s', Inv X pins σ (upd H a (.ins C dx (putF f y fs))) s' → Q () s') : wpAny (model X.prog X.w) A (setAttr (.ref a) f u) Q E s := by
  obtain ⟨mA, O, r, wi, _, ho⟩ := ins_get I.hok e
  have hz : (fs.map (·.1)).length ≤ sizeLine := by rw [List.length_map, sizeLine_eq]; omega
  refine set_map I.kIn O c.sa c.po n.taker c.hd wi hz fun h' O' sb => h _ ?_
  have hd : ∃ o, h'.get? dx = some o := let ⟨o, _, _, e', _⟩ := O'.ns; ⟨o, e'⟩
  refine I.write (x := a) (e := dx) (by rw [e]; exact True.intro) (.inr ho) (fun b q hb z => (sb.2 b hb).trans z) hd ?_
  refine ⟨by rw [upd_ne O.ne]; exact ho, ?_, O.ne, O'.obj, _, O'.ns, fun g => ?_, fun g hg => ?_⟩
  · have := length_putF f y fs; omega
  · show RelO ((putF f y fs).lookup g) (if g = f then some u else mA g)
    rw [lookup_putF]
    by_cases q : g = f
    · rw [if_pos q, if_pos q]; exact ry
    · rw [if_neg q, if_neg q]; exact r g
  · by_cases q : g = f
    · rw [q]; exact (keys_putF f y fs).1
    · refine (keys_putF f y fs).2 g (wi g fun z => hg ?_)
      show (if g = f then some u else mA g) = none
      rw [if_neg q]; exact z
theorem Inv.made (I : Inv X pins σ H s) : Inv X pins σ (upd (upd H s.heap.objs.size (.own (s.heap.objs.size + 1))) (s.heap.objs.size + 1) (.ins C s.heap.objs.size []))
    { s with heap := (s.heap.push PySem.W.emptyDict).push (PySem.W.instObj C s.heap.objs.size) } := by
  have e1 : (s.heap.push PySem.W.emptyDict).get? s.heap.objs.size = some PySem.W.emptyDict := Heap.get?_push_size s.heap rfl
  have e2 : ((s.heap.push PySem.W.emptyDict).push (PySem.W.instObj C s.heap.objs.size)).get? (s.heap.objs.size + 1) = some (PySem.W.instObj C s.heap.objs.size) := by
    have := Heap.get?_push_size (s.heap.push PySem.W.emptyDict) (o := PySem.W.instObj C s.heap.objs.size) rfl
    rwa [Heap.size_push] at this
  have e3 : (s.heap.push PySem.W.emptyDict).Ns s.heap.objs.size (fun _ => none) := ⟨PySem.W.emptyDict, #[], _, e1, rfl, (fun e he => absurd he (by simp)), fun _ => rfl⟩
  have I1 := I.laid (a := s.heap.objs.size) (o := .own (s.heap.objs.size + 1)) (h' := s.heap.push PySem.W.emptyDict) (t' := s.toks) (fun b u q => Heap.get?_push_of_some _ q) (Nat.le_refl _) ⟨_, e1⟩
  refine I1.laid (a := s.heap.objs.size + 1) (o := .ins C s.heap.objs.size []) (t' := s.toks) (fun b u q => Heap.get?_push_of_some _ q) (Nat.le_of_eq (Heap.size_push _ _)) ?_
  have ne : s.heap.objs.size ≠ s.heap.objs.size + 1 := Nat.ne_of_lt (Nat.lt_succ_self _)
  refine ⟨by rw [upd_ne ne, upd_same], Nat.zero_le _, ne, e2, fun _ => none, (Heap.Ns1.of_empty e3).at fun o q => Heap.get?_push_of_some _ q, fun _ => True.intro, fun y hy => absurd rfl hy⟩
theorem attr_of {prog : Program} {w : World} {env : Env} {e : Expr} {f : Str} {pos : Pos} {s : Shared} {Q : Value → Shared → Prop} (hb : attributeBase e f env (eval e env) = eval e env)
    (h : wpAny (model prog w) A (eval e env) (fun o s₁ => wpAny (model prog w) A (getAttr o f true) Q E s₁) E s) : wpAny (model prog w) A (eval (.Attribute e f pos) env) Q E s :=
  Attribute_any_ h (by rw [arm_eval_Attribute, hb])
end
def tFld (K : PySem.W.Frag) (ta : TE) (f : Str) : TE := fun σ H Q => ta σ H fun x H1 => ∃ a C dx fs v, x = .ref a ∧ H1 a = some (.ins C dx fs) ∧ Cls K C ∧ NoAttr K C f ∧ fs.lookup f = some v ∧ Q v H1
def sFld (K : PySem.W.Frag) (ta tv : TE) (f : Str) : TS := fun D σ H => tv σ H fun y H1 => ta σ H1 fun x H2 => ∃ a C dx fs, x = .ref a ∧ H2 a = some (.ins C dx fs) ∧ Cls K C ∧ NoAttr K C f ∧ fs.length < 1000 ∧
  D.nx σ (upd H2 a (.ins C dx (putF f y fs)))
def InOp (X : Cx) (op : Operator) (rd : V → V → Hp → VK → Prop) : Prop :=
  ∀ (pins : List (Addr × Obj)) (s : Shared) (σ : St) (H : Hp) (x y : V) (u v : Value) (Q : VK), Inv X pins σ H s → RelV x u → RelV y v → rd x y H Q → wpAny (model X.prog X.w) X.A (inplaceOp op u v) (EP X pins σ Q) X.xe s
def sFldAug (K : PySem.W.Frag) (ta tv : TE) (rd : V → V → Hp → VK → Prop) (f : Str) : TS := fun D σ H => ta σ H fun x H1 => ∃ a C dx fs v, x = .ref a ∧ H1 a = some (.ins C dx fs) ∧ Cls K C ∧ NoAttr K C f ∧ fs.lookup f = some v ∧
  tv σ H1 fun y H2 => rd v y H2 fun z H3 => ∃ dx' fs', H3 a = some (.ins C dx' fs') ∧ fs'.length < 1000 ∧ D.nx σ (upd H3 a (.ins C dx' (putF f z fs')))
section
variable {X : Cx} {o e value : Expr} {f : Str} {pos pos' tpos : Pos} {ta tv : TE}
theorem pe_fld (he : PE X e ta) (hb : attributeBase e f X.env (eval e X.env) = eval e X.env) : PE X (.Attribute e f pos) (tFld X.K ta f) := by
  intro pins s σ H Q I h
  refine attr_of hb (thn (he pins s σ H _ I h) fun u s1 ⟨x, H1, I1, rx, a, C, dx, fs, v, ex, ea, c, n, l, q⟩ => ?_)
  subst ex
  obtain rfl : u = Value.ref a := rx
  exact getattr_ok I1 ea c n l fun u' s2 I2 ru => ⟨v, H1, I2, ru, q⟩
theorem ps_fld (ha : PE X o ta) (hv : PE X value tv) (hs : swapsWith value (some (.Attribute o f pos')) pos.line X.env = pure false) : PS X (.Assign [.Attribute o f pos'] value pos) (sFld X.K ta tv f) := by
  intro pins s σ H D I h
  refine plainObj_wpAny_Assign_Attribute (thn (hv pins s σ H _ I h) fun u s1 ⟨y, H1, I1, ry, q⟩ => thn (ha pins s1 σ H1 _ I1 q) fun ov s2 ⟨x, H2, I2, rx, a, C, dx, fs, ex, ea, c, n, l, q2⟩ => ?_) hs
  subst ex
  obtain rfl : ov = Value.ref a := rx
  exact setattr_ok I2 ea c n l ry fun s3 I3 => ⟨σ, _, I3, q2⟩
theorem ps_fldaug {op : Operator} {rd : V → V → Hp → VK → Prop} (ha : PE X o ta) (hv : PE X value tv) (hop : InOp X op rd) : PS X (.AugAssign (.Attribute o f tpos) op value pos) (sFldAug X.K ta tv rd f) := by
  intro pins s σ H D I h
  refine wpAny_AugAssign_AttributeAny (thn (ha pins s σ H _ I h) fun ov s1 ⟨x, H1, I1, rx, a, C, dx, fs, v, ex, ea, c, n, l, q⟩ => ?_)
  subst ex
  obtain rfl : ov = Value.ref a := rx
  refine getattr_ok I1 ea c n l fun u s2 I2 ru => thn (hv pins s2 σ H1 _ I2 q) fun w3 s3 ⟨y, H2, I3, ry, q3⟩ => thn (hop pins s3 σ H2 v y u w3 _ I3 ru ry q3) fun w4 s4 ⟨z, H3, I4, rz, dx', fs', ea', l', q4⟩ => ?_
  exact setattr_ok I4 ea' c n l' rz fun s5 I5 => ⟨σ, _, I5, q4⟩
def rAdd : V → V → Hp → VK → Prop := fun x y H Q => ∃ i j, x = .int i ∧ y = .int j ∧ Q (.int (i + j)) H
def rSub : V → V → Hp → VK → Prop := fun x y H Q => ∃ i j, x = .int i ∧ y = .int j ∧ Q (.int (i - j)) H
theorem in_add : InOp X .Add rAdd := by
  rintro pins s σ H x y u v Q I rx ry ⟨i, j, rfl, rfl, q⟩
  obtain ⟨t, rfl⟩ := (show ∃ t, u = Value.int i t from rx)
  obtain ⟨t', rfl⟩ := (show ∃ t', v = Value.int j t' from ry)
  exact PyProof.Rows.iadd_int ⟨.int (i + j), H, I.tok _, ⟨_, rfl⟩, q⟩
theorem in_sub : InOp X .Sub rSub := by
  rintro pins s σ H x y u v Q I rx ry ⟨i, j, rfl, rfl, q⟩
  obtain ⟨t, rfl⟩ := (show ∃ t, u = Value.int i t from rx)
  obtain ⟨t', rfl⟩ := (show ∃ t', v = Value.int j t' from ry)
  exact PyProof.Rows.isub_int ⟨.int (i - j), H, I.tok _, ⟨_, rfl⟩, q⟩
end
section
variable {X : Cx} {pins : List (Addr × Obj)} {σ : St} {H : Hp} {s : Shared} {A : Around} {E : Value → Shared → Prop} {Q : Value → Shared → Prop} {c : Value} {b : Bool}
inductive TyOf (K : PySem.W.Frag) (H : Hp) : V → Value → Prop where
  | non : TyOf K H .non (.type "NoneType")
  | bl (x : Bool) : TyOf K H (.bl x) (.type "bool")
  | int (i : Int) : TyOf K H (.int i) (.type "int")
  | str (x : Str) : TyOf K H (.str x) (.type "str")
  | flt (x : UInt64) : TyOf K H (.flt x) (.type "float")
  | lst {a : Addr} {xs : List V} (e : H a = some (.lst xs)) : TyOf K H (.ref a) (.type "list")
  | frz {a : Addr} {o : Obj} {xs : List V} (e : H a = some (.frz o (.lst xs))) : TyOf K H (.ref a) (.type "list")
  | tup {a : Addr} {xs : List V} (e : H a = some (.tup xs)) : TyOf K H (.ref a) (.type "tuple")
  | dK {a : Addr} {kvs : List (Key × V)} (e : H a = some (.dK kvs)) : TyOf K H (.ref a) (.type "dict")
  | dT {a : Addr} {kvs : List (List Key × V)} (e : H a = some (.dT kvs)) : TyOf K H (.ref a) (.type "dict")
  | ins {a C dx : Addr} {fs : List (Str × V)} (e : H a = some (.ins C dx fs)) (cl : Cls K C) (ha : PySem.W.findIn K (.ref C) "__class__" = some (some (.builtin "object.__class__")))
      (hn : PySem.W.specialIn K (.builtin "object.__class__") "__get__" = some (some (.builtin "getset_descriptor.__get__"))) (htk : PySem.W.takesIn K (.builtin "object.__class__") = some true)
      (hm : PySem.W.mroIn K C (.type "object") = some true) : TyOf K H (.ref a) (.ref C)
theorem isinst_ok {x : V} {u t : Value} (I : Inv X pins σ H s) (rx : RelV x u) (ty : TyOf X.K H x t) (e : PySem.W.kitOne X.K t c = some b) (h : ∀ tk, Q (.bool b) { s with toks := tk }) :
    wpAny (model X.prog X.w) A (call (.builtin "isinstance") [u, c]) Q E s := by
  cases ty with
  | non => cases (show u = Value.none from rx); exact PySem.W.kia_one PySem.W.kitx_none I.kIn True.intro e (fun z => nomatch z) h
  | bl y => cases (show u = Value.bool y from rx); exact PySem.W.kia_one PySem.W.kitx_bool I.kIn True.intro e (fun z => nomatch z) h
  | int i => obtain ⟨t, q⟩ := (show ∃ t, u = Value.int i t from rx); cases q; exact PySem.W.kia_one PySem.W.kitx_int I.kIn True.intro e (fun z => nomatch z) h
  | str y => obtain ⟨t, q⟩ := (show ∃ t, u = Value.str y t from rx); cases q; exact PySem.W.kia_one PySem.W.kitx_str I.kIn True.intro e (fun z => nomatch z) h
  | flt y => obtain ⟨t, q⟩ := (show ∃ t, u = Value.float y t from rx); cases q; exact PySem.W.kia_one PySem.W.kitx_float I.kIn True.intro e (fun z => nomatch z) h
  | @lst a xs ea =>
    cases (show u = Value.ref a from rx)
    obtain ⟨_, _, n, _, h1⟩ := (show ObjOk X.prog X.w H s.heap a (.lst xs) from I.hok a _ ea)
    exact PySem.W.kia_one PySem.W.kitx_list I.kIn ⟨_, h1, rfl⟩ e (fun z => nomatch z) h
  | @frz a ob xs ea =>
    cases (show u = Value.ref a from rx)
    obtain ⟨_, _, _, n, _, h1⟩ := (show ObjOk X.prog X.w H s.heap a (.frz ob (.lst xs)) from I.hok a _ ea)
    exact PySem.W.kia_one PySem.W.kitx_list I.kIn ⟨_, h1, rfl⟩ e (fun z => nomatch z) h
  | @tup a xs ea =>
    cases (show u = Value.ref a from rx)
    obtain ⟨_, _, _, p⟩ := (show ObjOk X.prog X.w H s.heap a (.tup xs) from I.hok a _ ea)
    obtain ⟨o, h1, h2, _⟩ := p
    exact PySem.W.kia_one PySem.W.kitx_tuple I.kIn ⟨o, h1, h2⟩ e (fun z => nomatch z) h
  | @dK a kvs ea =>
    cases (show u = Value.ref a from rx)
    obtain ⟨_, _, vs, _, p⟩ := (show ObjOk X.prog X.w H s.heap a (.dK kvs) from I.hok a _ ea)
    obtain ⟨o, es, ep, h1, h2, _⟩ := p
    exact PySem.W.kia_one PySem.W.kitx_dict I.kIn ⟨o, h1, h2.1⟩ e (fun z => nomatch z) h
  | @dT a kvs ea =>
    cases (show u = Value.ref a from rx)
    obtain ⟨_, _, xs, _, o, es, ep, h1, h2, _⟩ := (show ObjOk X.prog X.w H s.heap a (.dT kvs) from I.hok a _ ea)
    exact PySem.W.kia_one PySem.W.kitx_dict I.kIn ⟨o, h1, h2.1⟩ e (fun z => nomatch z) h
  | @ins a C dx fs ea cl ha hn htk hm =>
    cases (show u = Value.ref a from rx)
    obtain ⟨mA, O, _⟩ := ins_get I.hok ea
    obtain ⟨od, J, _⟩ := O.look
    exact PySem.W.kia_one (PySem.W.kitx_own (cl.get _) cl.hd ha hn htk hm) I.kIn J e (fun z => nomatch z) h
end
end L2
namespace L2
open PySem PySem.Spec PyProof.Rows
structure Room (k : Nat) (A : Around) : Prop where
  hd : A.handled = none
  dp : A.depth + 3 * k + 5 < recursionLimit
  un : A.units + 16 * k + 200 < cLine
theorem Room.mono {j k : Nat} {A : Around} (r : Room k A) (h : j ≤ k) : Room j A := ⟨r.hd, by have := r.dp; omega, by have := r.un; omega⟩
theorem Room.deeper {k : Nat} {A : Around} (r : Room (k + 1) A) (env : Env) : Room k (A.deeper env) :=
  ⟨r.hd, by have := r.dp; show A.depth + 1 + 3 * k + 5 < _; omega, by have := r.un; show A.units + 3 + 16 * k + 200 < _; omega⟩
theorem make_depth {A : Around} {C : Addr} {us : List Value} {kw : List (Str × Value)} : (A.under (.builtin "type.__call__" ⟨.ref C :: us, kw⟩)).depth = A.depth + 1 := by
  first | rfl | simp [Around.under, Code.weight, Code.isCreation, Code.isGuard, Code.isCaller, Code.frames, Code.isFrame, guardIds]
theorem make_units {A : Around} {C : Addr} {us : List Value} {kw : List (Str × Value)} : (A.under (.builtin "type.__call__" ⟨.ref C :: us, kw⟩)).units = A.units + 1 := by
  first | rfl | simp [Around.under, Code.cUnits, Code.frames, Code.isFrame]
theorem Room.make {k : Nat} {A : Around} (r : Room (k + 1) A) (C : Addr) (us : List Value) (kw : List (Str × Value)) : Room k (A.under (.builtin "type.__call__" ⟨.ref C :: us, kw⟩)) :=
  ⟨r.hd, by have := r.dp; rw [make_depth]; omega, by have := r.un; rw [make_units]; omega⟩
theorem Room.depth {k : Nat} {A : Around} (r : Room k A) : A.depth < recursionLimit := by have := r.dp; omega
theorem Room.units {k : Nat} {A : Around} (r : Room k A) : A.units + 64 < cLine := by have := r.un; omega
def tNil : TA := fun _ H Q => Q [] H
def tCons (ta : TE) (tr : TA) : TA := fun σ H Q => ta σ H fun x H1 => tr σ H1 fun xs H2 => Q (x :: xs) H2
section
variable {X : Cx} {e : Expr} {es : List Expr} {te : TE} {t : TA} {pos : Pos}
theorem pa_nil : PA X [] tNil := fun _ _ _ _ H Q I h => Calls.spliced_nil ⟨[], H, I, .nil, h⟩
theorem pa_cons (ha : PE X e te) (hr : PA X es t) (hs : starEach (e :: es) X.env = (false, eval e X.env) :: starEach es X.env := by rfl) : PA X (e :: es) (tCons te t) := by
  intro pos pins s σ H Q I h
  rw [hs]
  show wpAny _ _ (spliced ((false, eval e X.env) :: backTo pos (starEach es X.env))) _ _ s
  refine Calls.spliced_cons (thn (ha pins s σ H _ I h) fun u s1 ⟨x, H1, I1, r1, q1⟩ => ?_)
  exact thn (hr pos pins s1 σ H1 _ I1 q1) fun us s2 ⟨xs, H2, I2, r2, q2⟩ => ⟨x :: xs, H2, I2, .cons r1 r2, q2⟩
def tTup (t : TA) : TE := fun σ H Q => t σ H fun xs H1 => xs.length ≤ sizeLine ∧ ∀ p, H1 p = none → Q (.ref p) (upd H1 p (.tup xs))
def tLst (t : TA) : TE := fun σ H Q => t σ H fun xs H1 => xs.length ≤ sizeLine ∧ ∀ p, H1 p = none → Q (.ref p) (upd H1 p (.lst xs))
theorem pe_tup {x1} (h : PA X es t) : PE X (.Tuple es x1 pos) (tTup t) := by
  intro pins s σ H Q I hq
  refine wpAny_Tuple_spliced (thn (h pos pins s σ H _ I hq) fun us s1 ⟨xs, H1, I1, r, z, q⟩ => ⟨by rw [← r.length]; exact z, ?_⟩)
  have hf : H1 s1.heap.objs.size = none := I1.hok.fresh (Nat.le_refl _)
  refine ⟨.ref s1.heap.objs.size, upd H1 s1.heap.objs.size (.tup xs), I1.laid (t' := s1.toks) (fun b u e => Heap.get?_push_of_some _ e) (Nat.le_refl _) ?_, rfl, q _ hf⟩
  exact ⟨z, us, r, ⟨_, Heap.get?_push_size _ rfl, rfl, _, rfl⟩⟩
theorem pe_lst (h : PA X es t) : PE X (.List es pos) (tLst t) := by
  intro pins s σ H Q I hq
  refine wpAny_List_spliced (thn (h pos pins s σ H _ I hq) fun us s1 ⟨xs, H1, I1, r, z, q⟩ => ⟨by rw [← r.length]; exact z, ?_⟩)
  have hf : H1 s1.heap.objs.size = none := I1.hok.fresh (Nat.le_refl _)
  refine ⟨.ref s1.heap.objs.size, upd H1 s1.heap.objs.size (.lst xs), I1.laid (t' := s1.toks) (fun b u e => Heap.get?_push_of_some _ e) (Nat.le_refl _) ?_, rfl, q _ hf⟩
  exact ⟨z, us, 0, r, Heap.get?_push_size _ rfl⟩
end
abbrev Sp := List V → Hp → VK → XK → Prop
abbrev CXT := List Env → Hp → Shared → XK → Value → Shared → Prop
structure Env0 (P : Program) (w : World) (K : PySem.W.Frag) (mg : Str → Option Value) (base : Heap) (A : Around) (outer : List Env) (s : Shared) (H : Hp) : Prop where
  frames : A.frames = some outer
  mod : Mod K mg base
  bs : ∀ b o, base.get? b = some o → s.heap.get? b = some o ∧ H b = none
  bsz : base.objs.size ≤ s.heap.objs.size
  funs : s.heap.FunFrames base outer
  frf : ∀ b ∈ frs outer, H b = none
  hok : HOk P w H s.heap
  bare : AllBare s.gens
def CE (outer : List Env) (P : Program) (w : World) (H : Hp) (s : Shared) (Q : VK) (u : Value) (s' : Shared) : Prop :=
  ∃ v H', s'.os = s.os ∧ AllBare s'.gens ∧ Un (frs outer) [] H H' s.heap s'.heap ∧ HOk P w H' s'.heap ∧ RelV v u ∧ Q v H'
def CR (CX : CXT) (outer : List Env) (P : Program) (w : World) (H : Hp) (s : Shared) (Q : VK) (E : XK) (r : Result) (s' : Shared) : Prop :=
  match r with
  | .ok (.ret u) => CE outer P w H s Q u s'
  | .ok _ => False
  | .error e => CX outer H s E e s'
structure FnOk (P : Program) (w : World) (K : PySem.W.Frag) (mg : Str → Option Value) (base : Heap) (CX : CXT) (k : Nat) (f : Addr) (fd : FuncData) (ps : List Str) (sp : Sp) : Prop where
  len : ∀ vs H Q E, sp vs H Q E → vs.length = ps.length
  run : ∀ (A : Around) (outer : List Env) (s : Shared) (H : Hp) (args : Args) (us : List Value) (vs : List V) (Q : VK) (E : XK), Room k A → Env0 P w K mg base A outer s H → BindsTo s fd args (ps.zip us) → Vals vs us → sp vs H Q E →
    codeAny (model P w) A (.call (.ref f) args) (CR CX outer P w H s Q E) s
theorem FnOk.mono {P : Program} {w : World} {K : PySem.W.Frag} {mg : Str → Option Value} {base : Heap} {CX : CXT} {j k : Nat} {f : Addr} {fd : FuncData} {ps : List Str} {sp : Sp} (F : FnOk P w K mg base CX j f fd ps sp) (h : j ≤ k) :
    FnOk P w K mg base CX k f fd ps sp := ⟨F.len, fun A outer s H args us vs Q E hr => F.run A outer s H args us vs Q E (hr.mono h)⟩
theorem FnOk.imp {P : Program} {w : World} {K : PySem.W.Frag} {mg : Str → Option Value} {base : Heap} {CX : CXT} {k : Nat} {f : Addr} {fd : FuncData} {ps : List Str} {sp sp' : Sp} (F : FnOk P w K mg base CX k f fd ps sp)
    (h : ∀ vs H Q E, sp' vs H Q E → sp vs H Q E) : FnOk P w K mg base CX k f fd ps sp' :=
  ⟨fun vs H Q E q => F.len vs H Q E (h _ _ _ _ q), fun A outer s H args us vs Q E hr he hb hv hs => F.run A outer s H args us vs Q E hr he hb hv (h _ _ _ _ hs)⟩
theorem Env0.make {P : Program} {w : World} {K : PySem.W.Frag} {mg : Str → Option Value} {base : Heap} {A : Around} {outer : List Env} {s : Shared} {H : Hp} (e : Env0 P w K mg base A outer s H) (C : Addr) (us : List Value) (kw : List (Str × Value)) :
    Env0 P w K mg base (A.under (.builtin "type.__call__" ⟨.ref C :: us, kw⟩)) outer s H := ⟨by first | exact e.frames | (simpa [Around.under, Code.envs, Code.isFrame, pushEnvs] using e.frames), e.mod, e.bs, e.bsz, e.funs, e.frf, e.hok, e.bare⟩
section
variable {X : Cx} {pins : List (Addr × Obj)} {σ : St} {H : Hp} {s s' : Shared}
theorem Inv.env0 (I : Inv X pins σ H s) : Env0 X.prog X.w X.K X.mg X.base X.A X.stack s H :=
  ⟨I.ok.frames, I.ok.mod, I.bs, Nat.le_trans I.ok.bsz I.sz, I.stack, I.stkFree, I.hok, I.bare⟩
theorem Inv.after {Q : VK} {u : Value} (I : Inv X pins σ H s) (h : CE X.stack X.prog X.w H s Q u s') : EP X pins σ Q u s' := by
  obtain ⟨v, H', os, bare, un, hok, r, q⟩ := h
  obtain ⟨hh, g, d, t, os'⟩ := s'
  obtain rfl : os' = s.os := os
  exact ⟨v, H', I.call (h' := hh) (g' := g) (d' := d) (t' := t) (ch := []) un hok bare (fun b z => absurd z (by simp)), r, q⟩
end
def tCall (sp : Sp) (dvs : List V) (E : XK) (t : TA) : TE := fun σ H Q => t σ H fun vs H1 => sp (vs ++ dvs) H1 Q E
def tMeth (C : Addr) (m : Str) (sp : Sp) (dvs : List V) (E : XK) (ta : TE) (t : TA) : TE := fun σ H Q => ta σ H fun x H1 => ∃ a dx fs, x = .ref a ∧ H1 a = some (.ins C dx fs) ∧ fs.lookup m = none ∧
  t σ H1 fun vs H2 => sp (x :: (vs ++ dvs)) H2 Q E
def tMake (C : Addr) (sp : Sp) (dvs : List V) (E : XK) (t : TA) : TE := fun σ H Q => t σ H fun vs H1 => ∀ x dx, H1 x = none → H1 dx = none → dx ≠ x →
  sp (.ref x :: (vs ++ dvs)) (upd (upd H1 dx (.own x)) x (.ins C dx [])) (fun v H2 => v = .non ∧ Q (.ref x) H2) E
def Binds (K : PySem.W.Frag) (fd : FuncData) (ps : List Str) (ds : List Value) : Prop :=
  ∀ (s : Shared) (us : List Value), K.In s.heap → (us ++ ds).length = ps.length → BindsTo s fd ⟨us, []⟩ (ps.zip (us ++ ds))
theorem Binds.all {K : PySem.W.Frag} {fd : FuncData} {ps : List Str} (h : ∀ us : List Value, us.length = ps.length → bindArgs fd ⟨us, []⟩ = pure (ps.zip us)) : Binds K fd ps [] := fun s us _ hl => by
  rw [List.append_nil] at hl ⊢
  exact .of_eq (h us hl)
def Passes (CX : CXT) (X : Cx) (E : XK) : Prop := ∀ (pins : List (Addr × Obj)) (σ : St) (H : Hp) (s : Shared) (e : Value) (s' : Shared), Inv X pins σ H s → CX X.stack H s E e s' → X.xe e s'
section
variable {X : Cx} {CX : CXT} {k : Nat} {f C : Addr} {fd : FuncData} {ps : List Str} {sp : Sp} {dvs : List V} {ds : List Value} {E : XK} {x m : Str} {p pos apos : Pos} {e o : Expr} {es : List Expr} {ta : TE} {t : TA}
theorem run_fn {pins : List (Addr × Obj)} {σ : St} {H : Hp} {s : Shared} {Q : VK} {us : List Value} {vs : List V} (F : FnOk X.prog X.w X.K X.mg X.base CX k f fd ps sp) (hr : Room k X.A) (hb : Binds X.K fd ps ds) (hd : Vals dvs ds) (hx : Passes CX X E)
    (I : Inv X pins σ H s) (r : Vals vs us) (h : sp (vs ++ dvs) H Q E) : wpAny (model X.prog X.w) X.A (call (.ref f) us) (EP X pins σ Q) X.xe s := by
  have r2 : Vals (vs ++ dvs) (us ++ ds) := r.append hd
  have hl : (us ++ ds).length = ps.length := by rw [← r2.length]; exact F.len _ _ _ _ h
  refine wpAny_call (codeAny_mono (F.run X.A X.stack s H ⟨us, []⟩ (us ++ ds) (vs ++ dvs) Q E hr I.env0 (hb s us I.kIn hl) r2 h) fun r s' hq => ?_)
  cases r with
  | error e => exact hx pins σ H s e s' I hq
  | ok fl =>
    cases fl with
    | ret u => exact I.after hq
    | next => exact False.elim hq
    | brk => exact False.elim hq
    | cont => exact False.elim hq
theorem pe_call (F : FnOk X.prog X.w X.K X.mg X.base CX k f fd ps sp) (hr : Room k X.A) (hg : Gl X x) (hm : X.mg x = some (.ref f)) (hk : PySem.W.keepIn X.K (.ref f) = true) (hb : Binds X.K fd ps ds) (hd : Vals dvs ds) (hx : Passes CX X E)
    (ha : PA X (e :: es) t) (hdb : (x == ("__debug__" : Str)) = false := by decide) (he : starEach (e :: es) X.env = (false, eval e X.env) :: starEach es X.env := by rfl) (hpl : (backTo pos (starEach es X.env)).any (·.1) = false := by rfl) :
    PE X (.Call (.Name x p) (e :: es) [] pos) (tCall sp dvs E t) := by
  intro pins s σ H Q I h
  refine wpAny_Call_Name_kw (ld_glob I hg hm ?_ hdb)
  refine PySem.W.callWith_K (h₀ := X.base) I.ok.mod.kin hk (thn (ha pos pins s σ H _ I h) fun us s1 ⟨vs, H1, I1, r, q⟩ => ⟨I1.kIn, ?_⟩) he hpl
  exact run_fn F hr hb hd hx I1 r q
theorem pe_meth {pl : Sem Bool} (he : PE X o ta) (c : Cls X.K C) (hm : Meth X.K C m f) (F : FnOk X.prog X.w X.K X.mg X.base CX k f fd ps sp) (hr : Room k X.A) (hb : Binds X.K fd ps ds) (hd : Vals dvs ds) (hx : Passes CX X E) (ha : PA X (e :: es) t)
    (hst : starEach (e :: es) X.env = (false, eval e X.env) :: starEach es X.env := by rfl) (hpl : (backTo pos (starEach es X.env)).any (·.1) = false := by rfl)
    (ht : eval (.Call (.Attribute o m apos) (e :: es) [] pos) X.env = (do
      let ov ← eval o X.env
      standAt apos.atName
      let (f, first) ← holding [ov] (getMethod ov m pl)
      callWith pos f first (backTo pos (starEach (e :: es) X.env)) (backToKw pos (keywordEach [] X.env))) := by rfl) :
    PE X (.Call (.Attribute o m apos) (e :: es) [] pos) (tMeth C m sp dvs E ta t) := by
  intro pins s σ H Q I h
  refine PySem.W.methodCall_KW (pl := pl) (thn (he pins s σ H _ I h) fun u s1 ⟨x, H1, I1, rx, a, dx, fs, ex, ea, l, q⟩ => ?_) ht
  subst ex
  obtain rfl : u = Value.ref a := rx
  refine getmeth_ok I1 ea c hm l ?_
  refine PySem.W.callWith_K (first := [.ref a]) (h₀ := X.base) I.ok.mod.kin hm.kp (thn (ha pos pins s1 σ H1 _ I1 q) fun us s2 ⟨vs, H2, I2, r, q2⟩ => ⟨I2.kIn, ?_⟩) hst hpl
  exact run_fn (us := .ref a :: us) (vs := .ref a :: vs) F hr hb hd hx I2 (.cons rfl r) q2
theorem pe_meth0 {pl : Sem Bool} (he : PE X o ta) (c : Cls X.K C) (hm : Meth X.K C m f) (F : FnOk X.prog X.w X.K X.mg X.base CX k f fd ps sp) (hr : Room k X.A) (hb : Binds X.K fd ps ds) (hd : Vals dvs ds) (hx : Passes CX X E)
    (ht : eval (.Call (.Attribute o m apos) [] [] pos) X.env = (do
      let ov ← eval o X.env
      standAt apos.atName
      let (f, first) ← holding [ov] (getMethod ov m pl)
      callWith pos f first (backTo pos (starEach [] X.env)) (backToKw pos (keywordEach [] X.env))) := by rfl) :
    PE X (.Call (.Attribute o m apos) [] [] pos) (tMeth C m sp dvs E ta tNil) := by
  intro pins s σ H Q I h
  refine PySem.W.methodCall_KW (pl := pl) (thn (he pins s σ H _ I h) fun u s1 ⟨x, H1, I1, rx, a, dx, fs, ex, ea, l, q⟩ => ?_) ht
  subst ex
  obtain rfl : u = Value.ref a := rx
  refine getmeth_ok I1 ea c hm l ?_
  exact PySem.W.callWith_K0 (first := [.ref a]) I1.kIn hm.kp (run_fn (us := [.ref a]) (vs := [.ref a]) F hr hb hd hx I1 (.cons rfl .nil) q)
structure Mk (K : PySem.W.Frag) (C f : Addr) : Prop where
  makes : PySem.W.makesIn K C = true
  init : PySem.W.findIn K (.ref C) "__init__" = some (some (.ref f))
  fn : PySem.W.isFn K (.ref f) = true
  kp : PySem.W.keepIn K (.ref C) = true
theorem run_make {pins : List (Addr × Obj)} {σ : St} {H : Hp} {s : Shared} {Q : VK} {us : List Value} {vs : List V} (M : Mk X.K C f) (F : FnOk X.prog X.w X.K X.mg X.base CX k f fd ps sp) (hr : Room (k + 1) X.A) (hb : Binds X.K fd ps ds) (hd : Vals dvs ds)
    (hx : Passes CX X E) (I : Inv X pins σ H s) (r : Vals vs us)
    (h : ∀ x dx, H x = none → H dx = none → dx ≠ x → sp (.ref x :: (vs ++ dvs)) (upd (upd H dx (.own x)) x (.ins C dx [])) (fun v H2 => v = .non ∧ Q (.ref x) H2) E) :
    wpAny (model X.prog X.w) X.A (call (.ref C) us) (EP X pins σ Q) X.xe s := by
  have hq := h (s.heap.objs.size + 1) s.heap.objs.size (I.hok.fresh (Nat.le_succ _)) (I.hok.fresh (Nat.le_refl _)) (Nat.ne_of_lt (Nat.lt_succ_self _))
  have I2 := Inv.made (C := C) I
  have r2 : Vals (V.ref (s.heap.objs.size + 1) :: (vs ++ dvs)) (Value.ref (s.heap.objs.size + 1) :: (us ++ ds)) := .cons rfl (r.append hd)
  have hl : (Value.ref (s.heap.objs.size + 1) :: us ++ ds).length = ps.length := by
    have e := r2.length
    rw [F.len _ _ _ _ hq] at e
    exact e.symm
  refine wpAny_call (make_map (f := f) I.kIn M.makes M.init (beq_iff_eq.mp M.fn) (codeAny_mono (F.run _ X.stack _ _ ⟨Value.ref (s.heap.objs.size + 1) :: us, []⟩ (Value.ref (s.heap.objs.size + 1) :: (us ++ ds)) _ _ E (hr.make C us [])
    (I2.env0.make C us []) (hb _ (Value.ref (s.heap.objs.size + 1) :: us) I2.kIn hl) r2 hq) fun r s' hq' => ?_))
  cases r with
  | error e => exact hx pins σ _ _ e s' I2 hq'
  | ok fl =>
    cases fl with
    | ret u =>
      obtain ⟨v, H', I3, rv, ev, q3⟩ := I2.after hq'
      subst ev
      exact ⟨rv, ⟨V.ref (s.heap.objs.size + 1), H', I3, rfl, q3⟩⟩
    | next => exact False.elim hq'
    | brk => exact False.elim hq'
    | cont => exact False.elim hq'
theorem pe_make (M : Mk X.K C f) (F : FnOk X.prog X.w X.K X.mg X.base CX k f fd ps sp) (hr : Room (k + 1) X.A) (hg : Gl X x) (hm : X.mg x = some (.ref C)) (hb : Binds X.K fd ps ds) (hd : Vals dvs ds) (hx : Passes CX X E)
    (ha : PA X (e :: es) t) (hdb : (x == ("__debug__" : Str)) = false := by decide) (he : starEach (e :: es) X.env = (false, eval e X.env) :: starEach es X.env := by rfl) (hpl : (backTo pos (starEach es X.env)).any (·.1) = false := by rfl) :
    PE X (.Call (.Name x p) (e :: es) [] pos) (tMake C sp dvs E t) := by
  intro pins s σ H Q I h
  refine wpAny_Call_Name_kw (ld_glob I hg hm ?_ hdb)
  refine PySem.W.callWith_K (h₀ := X.base) I.ok.mod.kin M.kp (thn (ha pos pins s σ H _ I h) fun us s1 ⟨vs, H1, I1, r, q⟩ => ⟨I1.kIn, ?_⟩) he hpl
  exact run_make M F hr hb hd hx I1 r q
theorem pe_make0 (M : Mk X.K C f) (F : FnOk X.prog X.w X.K X.mg X.base CX k f fd ps sp) (hr : Room (k + 1) X.A) (hg : Gl X x) (hm : X.mg x = some (.ref C)) (hb : Binds X.K fd ps ds) (hd : Vals dvs ds) (hx : Passes CX X E)
    (hdb : (x == ("__debug__" : Str)) = false := by decide) : PE X (.Call (.Name x p) [] [] pos) (tMake C sp dvs E tNil) := by
  intro pins s σ H Q I h
  refine wpAny_Call_Name_kw (ld_glob I hg hm ?_ hdb)
  exact PySem.W.callWith_K0 I.kIn M.kp (run_make (us := []) M F hr hb hd hx I .nil h)
end
structure FnScope (N P : List Str) (sc : Scope) : Prop where
  kind : sc.kind = .function
  co : sc.isCoroutine = false
  gen : sc.isGenerator = false
  nd : N.Nodup
  pre : N.take P.length = P
  par : ∀ x ∈ P, sc.names.lookup x = some .local ∨ sc.names.lookup x = some .cell
  nofree : ∀ y ∈ sc.names, y.2 ≠ .free
theorem bindL_out {kindOf : Str → Option NameKind} {x : Str} : ∀ {binds : List (Str × Value)} {m : Str → Option Value}, (∀ v, (x, v) ∉ binds) → bindL kindOf binds m x = m x
  | [], _, _ => rfl
  | (n, v) :: r, m, h => by
    unfold bindL
    rw [bindL_out fun w hw => h w (List.mem_cons_of_mem _ hw)]
    split
    · have : x ≠ n := by rintro rfl; exact h v List.mem_cons_self
      simp [this]
    · rfl
theorem bindC_out {kindOf : Str → Option NameKind} {x : Str} : ∀ {binds : List (Str × Value)} {m : Str → Option Value}, (∀ v, (x, v) ∉ binds) → bindC kindOf binds m x = m x
  | [], _, _ => rfl
  | (n, v) :: r, m, h => by
    unfold bindC
    rw [bindC_out fun w hw => h w (List.mem_cons_of_mem _ hw)]
    split
    · rfl
    · have : x ≠ n := by rintro rfl; exact h v List.mem_cons_self
      simp [this]
theorem bindL_get {kindOf : Str → Option NameKind} {x : Str} {v : Value} : ∀ {P : List Str} {vs : List Value} {i : Nat} {m : Str → Option Value}, P.Nodup → P[i]? = some x → vs[i]? = some v → kindOf x = some .local →
    bindL kindOf (P.zip vs) m x = some v
  | [], _, _, _, _, h, _, _ => by simp at h
  | _ :: _, [], _, _, _, _, h, _ => by simp at h
  | p :: P, w :: vs, 0, m, nd, h1, h2, hk => by
    simp at h1 h2; subst h1; subst h2
    show bindL kindOf ((p, w) :: P.zip vs) m p = _
    unfold bindL
    rw [bindL_out fun v hv => (List.nodup_cons.mp nd).1 (List.of_mem_zip hv).1, if_pos hk]
    simp
  | p :: P, w :: vs, i + 1, m, nd, h1, h2, hk => by
    show bindL kindOf ((p, w) :: P.zip vs) m x = _
    unfold bindL
    exact bindL_get (i := i) (List.nodup_cons.mp nd).2 (by simpa using h1) (by simpa using h2) hk
theorem bindC_get {kindOf : Str → Option NameKind} {x : Str} {v : Value} : ∀ {P : List Str} {vs : List Value} {i : Nat} {m : Str → Option Value}, P.Nodup → P[i]? = some x → vs[i]? = some v → kindOf x ≠ some .local →
    bindC kindOf (P.zip vs) m x = some v
  | [], _, _, _, _, h, _, _ => by simp at h
  | _ :: _, [], _, _, _, _, h, _ => by simp at h
  | p :: P, w :: vs, 0, m, nd, h1, h2, hk => by
    simp at h1 h2; subst h1; subst h2
    show bindC kindOf ((p, w) :: P.zip vs) m p = _
    unfold bindC
    rw [bindC_out fun v hv => (List.nodup_cons.mp nd).1 (List.of_mem_zip hv).1, if_neg hk]
    simp
  | p :: P, w :: vs, i + 1, m, nd, h1, h2, hk => by
    show bindC kindOf ((p, w) :: P.zip vs) m x = _
    unfold bindC
    exact bindC_get (i := i) (List.nodup_cons.mp nd).2 (by simpa using h1) (by simpa using h2) hk
def start (N : List Str) (vs : List V) : St := vs.map some ++ List.replicate (N.length - vs.length) none
def cxOf (CX : CXT) (P : Program) (w : World) (K : PySem.W.Frag) (mg : Str → Option Value) (base : Heap) (N : List Str) (qual : Str) (scope : Scope) (f : Addr) (cd : Value) (A : Around) (outer : List Env) (s : Shared) (H : Hp) (E : XK) : Cx where
  prog := P
  w := w
  K := K
  mg := mg
  base := base
  A := A.deeper (envOfC qual scope s.heap.objs.size f cd)
  N := N
  s_0 := s
  H_0 := H
  env := envOfC qual scope s.heap.objs.size f cd
  outer := outer
  stack := envOfC qual scope s.heap.objs.size f cd :: outer
  ex := []
  calm := true
  fn := fun _ => true
  pn := []
  xe := fun e s' => wpAny (model P w) (A.deeper (envOfC qual scope s.heap.objs.size f cd)) (leaving (envOfC qual scope s.heap.objs.size f cd) e) (fun _ s'' => CX outer H s E e s'') (fun e' s'' => CX outer H s E e' s'') s'
theorem cell_has {sc : Scope} {n : Nat} {x : Str} (h : sc.names.lookup x = some .cell) : ∃ c, (cellsFrom n sc.names []).lookup x = some c := by
  have q := PySem.W.cellsFrom_some sc.names n [] (.inl h)
  exact Option.isSome_iff_exists.mp q
theorem inv_start {CX : CXT} {P : Program} {w : World} {K : PySem.W.Frag} {mg : Str → Option Value} {base : Heap} {N ps : List Str} {qual : Str} {scope : Scope} {f : Addr} {cd : Value} {A : Around} {outer : List Env} {s s1 : Shared} {H : Hp} {E : XK} {us : List Value} {vs : List V}
    (S : FnScope N ps scope) (hd : A.handled = none) (e0 : Env0 P w K mg base A outer s H) (hl : vs.length = ps.length) (r : Vals vs us)
    (x : InCallC s s.heap.objs.size (bindL (envOfC qual scope s.heap.objs.size f cd).kindOf (ps.zip us) fun _ => none) (cellsFrom (s.heap.objs.size + 1) scope.names []) (bindC (envOfC qual scope s.heap.objs.size f cd).kindOf (ps.zip us) fun _ => none) s1) :
    Inv (cxOf CX P w K mg base N qual scope f cd A outer s H E) [] (start N vs) H s1 := by
  have hpl : ps.length ≤ N.length := by have := congrArg List.length S.pre; rw [List.length_take] at this; omega
  obtain ⟨h1, tk, rfl, hk⟩ := x.done
  have noA : ∀ b : Addr, b ∉ (cxOf CX P w K mg base N qual scope f cd A outer s H E).ex := fun b z => absurd (show b ∈ ([] : List Addr) from z) (by simp)
  refine ⟨⟨e0.mod, S.kind, rfl, rfl, Nat.le_refl _, fun y z c h1 h2 => ?_, fun y hy => ?_, fun y c _ h => ?_, fun _ => hd, Around.frames_deeper e0.frames, .inr ⟨rfl, rfl⟩, fun b z => absurd z (noA b), e0.bs, e0.bsz, fun b _ _ => noA b, fun b z => absurd z (noA b), e0.funs, e0.frf⟩,
    rfl, e0.bare, Un.kept hk, ⟨_, x.toInCall.ns, fun i y v h1 h2 h3 => ?_⟩, fun y c h => ⟨_, x.cell y c h⟩, e0.hok.fresh (Nat.le_refl _), fun y c h => ?_, fun p hp => absurd (show p ∈ ([] : List (Addr × Obj)) from hp) (by simp), e0.hok.kept hk, ?_⟩
  · exact name_of_addr x.apart (PySem.mem_of_lookup h1) (PySem.mem_of_lookup h2)
  · have hy : scope.names.lookup y = some .cell ∨ scope.names.lookup y = some .free := hy
    rcases hy with hy | hy
    · exact cell_has hy
    · exact absurd rfl (S.nofree _ (PySem.mem_of_lookup hy))
  · exact Nat.le_of_lt (x.above y c (PySem.mem_of_lookup h))
  · have hi : i < vs.length := by
      unfold start at h2
      by_cases hi : i < vs.length
      · exact hi
      · rw [List.getElem?_append_right (by simpa using hi)] at h2
        rw [List.getElem?_replicate] at h2
        split at h2 <;> cases h2
    have ha : vs[i]? = some v := by
      unfold start at h2
      rw [List.getElem?_append_left (by simpa using hi), List.getElem?_map] at h2
      cases e : vs[i]? with
      | none => rw [e] at h2; cases h2
      | some a => rw [e] at h2; cases h2; rfl
    obtain ⟨u, hu, rv⟩ := r.get ha
    have hp : ps[i]? = some y := by
      rw [← S.pre, List.getElem?_take_of_lt (by omega)]; exact h1
    have ndP : ps.Nodup := by rw [← S.pre]; exact S.nd.sublist (List.take_sublist _ _)
    refine ⟨u, rv, ?_⟩
    rcases S.par y (List.mem_of_getElem? hp) with k | k
    · exact .inl ⟨k, bindL_get ndP hp hu k⟩
    · obtain ⟨c, e⟩ := cell_has (n := s.heap.objs.size + 1) k
      refine .inr ⟨.inl k, c, e, ?_⟩
      have q := x.cell y c e
      rw [bindC_get ndP hp hu (by show scope.names.lookup y ≠ _; rw [k]; decide)] at q
      exact q
  · exact e0.hok.fresh (Nat.le_of_lt (x.above y c (PySem.mem_of_lookup h)))
  · unfold start
    show _ = N.length
    rw [List.length_append, List.length_map, List.length_replicate]
    omega
theorem fn_of {CX : CXT} {P : Program} {w : World} {K : PySem.W.Frag} {mg : Str → Option Value} {base : Heap} {k : Nat} {f : Addr} {name qual : Str} {params : Arguments} {body : List Stmt} {scope : Scope} {dV kV doc pm cdv ct oc : Value} {an od : Option Addr}
    {osl : Array (Option Value)} {N ps : List Str} {sp : Sp} (lk : K.lookup f = some ⟨oc, od, .func (PySem.W.fnOf name qual params body scope dV kV doc pm an cdv ct), osl⟩) (hcd : PySem.W.codeIn K cdv qual = true) (S : FnScope N ps scope)
    (len : ∀ vs H Q E, sp vs H Q E → vs.length = ps.length)
    (hbody : ∀ (A : Around) (outer : List Env) (s : Shared) (H : Hp) (vs : List V) (Q : VK) (E : XK), Room k (A.deeper (envOfC qual scope s.heap.objs.size f cdv)) → sp vs H Q E →
      ∃ t, PSs (cxOf CX P w K mg base N qual scope f cdv A outer s H E) body t ∧ t { nx := fun _ H' => Q .non H', rt := Q } (start N vs) H) :
    FnOk P w K mg base CX (k + 1) f (PySem.W.fnOf name qual params body scope dV kV doc pm an cdv ct) ps sp := by
  refine ⟨len, fun A outer s H args us vs Q E hr e0 hb r hsp => ?_⟩
  have hl := len _ _ _ _ hsp
  have KX : K.In s.heap := e0.mod.kin.keeps fun b o e => (e0.bs b o e).1
  have lim : s.heap.NoLimit := e0.mod.nolimit.keeps fun b o e => (e0.bs b o e).1
  have hkind : ∀ y ∈ ps.zip us, scope.names.lookup y.1 = some .local ∨ (scope.names.lookup y.1 = some .cell ∧ ((cellsFrom (s.heap.objs.size + 1) scope.names []).lookup y.1).isSome = true) := fun ⟨n, v⟩ hy => by
    rcases S.par n (List.of_mem_zip hy).1 with q | q
    · exact .inl q
    · exact .inr ⟨q, PySem.W.cellsFrom_some _ _ _ (.inl q)⟩
  refine codeAny_call_function hr.depth (KX _ _ lk) rfl S.co S.gen rfl (PySem.W.codeRec_of KX hcd) (hb _ _ _ _ ?_)
  refine wpAny_newFunctionEnv_cells S.kind hkind fun env he s1 x => ?_
  subst he
  refine ⟨lim.keeps x.toInCall.keep, codeAny_func ?_⟩
  obtain ⟨t, ht, hq⟩ := hbody A outer s H vs Q E (hr.deeper _) hsp
  have I : Inv (cxOf CX P w K mg base N qual scope f cdv A outer s H E) [] (start N vs) H s1 := inv_start S hr.hd e0 hl r x
  refine wpAny_mono (ht [] s1 (start N vs) H _ I hq) (fun fl s' hs => ?_) fun e s' hs => hs
  have fin : ∀ {σ' : St} {H' : Hp} {v : V} {u : Value}, Inv (cxOf CX P w K mg base N qual scope f cdv A outer s H E) [] σ' H' s' → RelV v u → Q v H' → CE outer P w H s Q u s' :=
    fun {σ' H' v u} J rv q => ⟨v, H', J.os, J.bare, J.base, J.hok, rv, q⟩
  cases fl with
  | ret u =>
    obtain ⟨v, σ', H', J, rv, q⟩ := hs
    exact fin J rv q
  | next =>
    obtain ⟨σ', H', J, q⟩ := hs
    exact fin (v := V.non) (u := Value.none) J rfl q
  | brk =>
    obtain ⟨_, _, _, q⟩ := hs
    exact False.elim q
  | cont =>
    obtain ⟨_, _, _, q⟩ := hs
    exact False.elim q
end L2
namespace L2
open PySem PySem.Spec PyProof.Rows
section
variable {X : Cx} {x : Str} {p pos : Pos} {e : Expr} {es : List Expr} {t : TA} {id T : String} {r : List V → Hp → VK → Prop}
def tCB (r : List V → Hp → VK → Prop) (t : TA) : TE := fun σ H Q => t σ H fun vs H1 => r vs H1 Q
theorem pe_callB (hc : CallR X (.builtin id) r) (hg : Gl X x) (hm : X.mg x = none) (hv : bootBuiltins x = some (.builtin id)) (ha : PA X (e :: es) t) (hn : x ≠ "__name__" := by decide) (hdb : (x == ("__debug__" : Str)) = false := by decide)
    (he : starEach (e :: es) X.env = (false, eval e X.env) :: starEach es X.env := by rfl) (hpl : (backTo pos (starEach es X.env)).any (·.1) = false := by rfl) : PE X (.Call (.Name x p) (e :: es) [] pos) (tCB r t) := by
  intro pins s σ H Q I h
  refine wpAny_Call_Name_kw (ld_blt I hg hm hv ?_ hn hdb)
  exact PyProof.Rows.callWith_builtin1 (thn (ha pos pins s σ H _ I h) fun us s1 ⟨vs, H1, I1, r1, q1⟩ => hc pins s1 σ H1 vs us Q I1 r1 q1) he hpl
end
end L2
namespace HT
open PySem PyProof.Rows
section
variable {prog : Program} {w : World} {A : Around} {E : Value → Shared → Prop} {s : Shared}
def sIx (n d : Nat) : Option Int → Nat
  | none => d
  | some v => if v < 0 then (v + (n : Int)).toNat else min v.toNat n
theorem sIx_none (n d : Nat) : sIx n d none = d := rfl
theorem sIx_nat (n d k : Nat) : sIx n d (some (k : Int)) = min k n := by
  show (if (k : Int) < 0 then ((k : Int) + (n : Int)).toNat else min (k : Int).toNat n) = min k n
  rw [if_neg (by omega), Int.toNat_natCast]
end
end HT
namespace L2
open PySem PySem.Spec PyProof.Rows
abbrev TO := St → Hp → (Option Int → Hp → Prop) → Prop
def PO (X : Cx) (e : Option Expr) (t : TO) : Prop :=
  ∀ (pins : List (Addr × Obj)) (s : Shared) (σ : St) (H : Hp) (Q : Option Int → Hp → Prop), Inv X pins σ H s → t σ H Q →
    wpAny (model X.prog X.w) X.A (evalPart e X.env) (fun u s' => ∃ o H', Inv X pins σ H' s' ∧ IsPart u o ∧ Q o H') X.xe s
def tNoPart : TO := fun _ H Q => Q none H
def tPart (t : TE) : TO := fun σ H Q => t σ H fun x H1 => ∃ i, x = .int i ∧ Q (some i) H1
section
variable {X : Cx} {e : Expr} {te : TE} {lo hi : Option Expr} {tl th : TO} {pos p2 : Pos}
theorem po_none : PO X none tNoPart := by
  intro pins s σ H Q I h
  rw [evalPart_none]
  exact wpAny_pure ⟨none, H, I, .none, h⟩
theorem po_some (h : PE X e te) : PO X (some e) (tPart te) := by
  intro pins s σ H Q I hw
  rw [evalPart_some]
  refine thn (h pins s σ H _ I hw) fun u s1 ⟨x, H1, I1, r1, q1⟩ => ?_
  obtain ⟨i, rfl, q⟩ := q1
  obtain ⟨t, rfl⟩ := r1
  exact ⟨some i, H1, I1, .int i t, q⟩
def SlR (X : Cx) (r : V → Option Int → Option Int → Hp → VK → Prop) : Prop :=
  ∀ (pins : List (Addr × Obj)) (s : Shared) (σ : St) (H : Hp) (x : V) (v vl vu : Value) (lo hi : Option Int) (sl : Addr) (Q : VK), Inv X pins σ H s → RelV x v → s.heap.IsSliceOf sl vl vu .none → IsPart vl lo → IsPart vu hi → r x lo hi H Q →
    ∃ T id, typeLookup (.type T) "__getitem__" = pure (some (.builtin id)) ∧ s.TypeIs v T ∧ wpAny (model X.prog X.w) X.A (getItem v (.ref sl)) (EP X pins σ Q) X.xe s
theorem SlR.or {r r' : V → Option Int → Option Int → Hp → VK → Prop} (h : SlR X r) (h' : SlR X r') : SlR X (fun x lo hi H Q => r x lo hi H Q ∨ r' x lo hi H Q) := by
  intro pins s σ H x v vl vu lo hi sl Q I rx hs pl pu q
  rcases q with q | q
  · exact h pins s σ H x v vl vu lo hi sl Q I rx hs pl pu q
  · exact h' pins s σ H x v vl vu lo hi sl Q I rx hs pl pu q
def tSl (r : V → Option Int → Option Int → Hp → VK → Prop) (te : TE) (tl th : TO) : TE := fun σ H Q => te σ H fun x H1 => tl σ H1 fun l H2 => th σ H2 fun u H3 => r x l u H3 Q
theorem pe_slice {r : V → Option Int → Option Int → Hp → VK → Prop} (hr : SlR X r) (he : PE X e te) (hl : PO X lo tl) (hu : PO X hi th) : PE X (.Subscript e (.Slice lo hi none p2) pos) (tSl r te tl th) := by
  intro pins s σ H Q I h
  refine Subscript_ (thn (he pins s σ H _ I h) fun v s1 ⟨x, H1, I1, r1, q1⟩ => ?_)
  refine wpAny_Slice (thn (hl pins s1 σ H1 _ I1 q1) fun vl s2 ⟨l, H2, I2, pl, q2⟩ => thn (hu pins s2 σ H2 _ I2 q2) fun vu s3 ⟨u, H3, I3, pu, q3⟩ => ?_)
  rw [evalPart_none]
  refine wpAny_pure ?_
  have I4 : Inv X pins σ H3 { s3 with heap := s3.heap.push { cls := .type "slice", data := .fields #[vl, vu, .none] } } := I3.kept (t' := s3.toks) fun b ob q => Heap.get?_push_of_some _ q
  obtain ⟨T, id, hT, ht, hg⟩ := hr pins { s3 with heap := s3.heap.push { cls := .type "slice", data := .fields #[vl, vu, .none] } } σ H3 x v vl vu l u s3.heap.objs.size Q I4 r1 (Heap.IsSliceOf.new ..) pl pu q3
  show wpAny (model X.prog X.w) X.A (subscriptTail e (.Slice lo hi none p2) v (.ref s3.heap.objs.size)) (EP X pins σ Q) X.xe { s3 with heap := s3.heap.push { cls := .type "slice", data := .fields #[vl, vu, .none] } }
  exact tail_any (ops := [.ref s3.heap.objs.size, v]) ht hT hg (by with_unfolding_all rfl)
def cutV (xs : List V) (lo hi : Option Int) : List V := (xs.drop (HT.sIx xs.length 0 lo)).take (HT.sIx xs.length xs.length hi - HT.sIx xs.length 0 lo)
theorem cutV_length (xs : List V) (lo hi : Option Int) : (cutV xs lo hi).length ≤ xs.length := by
  unfold cutV
  rw [List.length_take, List.length_drop]
  omega
end
end L2
namespace L2
open PySem PySem.Spec PyProof.Rows
def ixN (n : Nat) (i : Int) : Option Nat := if 0 ≤ i then (if i < n then some i.toNat else none) else if -(n : Int) ≤ i then some (i + n).toNat else none
def atI {α : Type} (xs : List α) (i : Int) : Option α := (ixN xs.length i).bind fun j => xs[j]?
theorem ixN_seq {n : Nat} {i : Int} {j : Nat} (h : ixN n i = some j) : seqIndex? i n = some j ∧ j < n ∧ -(n : Int) ≤ i ∧ i < n := by
  unfold ixN at h
  by_cases h0 : 0 ≤ i
  · rw [if_pos h0] at h
    by_cases h1 : i < n
    · rw [if_pos h1] at h
      have e : i.toNat = j := Option.some.inj h
      exact ⟨by rw [seqIndex_of h0 h1, e], by omega, by omega, h1⟩
    · rw [if_neg h1] at h; cases h
  · rw [if_neg h0] at h
    by_cases h1 : -(n : Int) ≤ i
    · rw [if_pos h1] at h
      have e : (i + n).toNat = j := Option.some.inj h
      exact ⟨by rw [seqIndex_neg (by omega) h1, e], by omega, h1, by omega⟩
    · rw [if_neg h1] at h; cases h
theorem atI_get {α : Type} {xs : List α} {i : Int} {v : α} (h : atI xs i = some v) : ∃ j, seqIndex? i xs.length = some j ∧ xs[j]? = some v ∧ j < xs.length ∧ -(xs.length : Int) ≤ i ∧ i < xs.length := by
  unfold atI at h
  cases e : ixN xs.length i with
  | none => rw [e] at h; cases h
  | some j =>
    rw [e] at h
    obtain ⟨h1, h2, h3, h4⟩ := ixN_seq e
    exact ⟨j, h1, h, h2, h3, h4⟩
theorem atI_nat {α : Type} {xs : List α} {j : Nat} {v : α} (h : xs[j]? = some v) : atI xs (j : Int) = some v := by
  have hj : j < xs.length := (List.getElem?_eq_some_iff.mp h).1
  have e : ixN xs.length (j : Int) = some j := by
    unfold ixN
    rw [if_pos (by omega), if_pos (by omega)]; simp
  unfold atI; rw [e]; exact h
def PlainIx (b : Expr) : Prop := ∀ o i, subscripted b false o i = operate [o, i] (getItem o i)
def IxR (X : Cx) (r : R2) : Prop :=
  ∀ (value slice : Expr) (pins : List (Addr × Obj)) (s : Shared) (σ : St) (H : Hp) (x y : V) (v u : Value) (Q : VK), Inv X pins σ H s → RelV x v → RelV y u → r x y H Q →
    subscripted slice false v u = operate [v, u] (getItem v u) → wpAny (model X.prog X.w) X.A (subscriptTail value slice v u) (EP X pins σ Q) X.xe s
def MtR (X : Cx) (id : String) (r : V → List V → Hp → VK → Prop) : Prop :=
  ∀ (pins : List (Addr × Obj)) (s : Shared) (σ : St) (H : Hp) (x : V) (xs : List V) (v : Value) (us : List Value) (Q : VK), Inv X pins σ H s → RelV x v → Vals xs us → r x xs H Q →
    wpAny (model X.prog X.w) X.A (call (.builtin id) (v :: us)) (EP X pins σ Q) X.xe s
section
variable {X : Cx} {a b : Expr} {ta tb : TE} {pos : Pos}
theorem IxR.or {r r' : R2} (h : IxR X r) (h' : IxR X r') : IxR X (fun x y H Q => r x y H Q ∨ r' x y H Q) := by
  intro value slice pins s σ H x y v u Q I rx ry q hs
  rcases q with q | q
  · exact h value slice pins s σ H x y v u Q I rx ry q hs
  · exact h' value slice pins s σ H x y v u Q I rx ry q hs
theorem MtR.or {id : String} {r r' : V → List V → Hp → VK → Prop} (h : MtR X id r) (h' : MtR X id r') : MtR X id (fun x xs H Q => r x xs H Q ∨ r' x xs H Q) := by
  intro pins s σ H x xs v us Q I rx rs q
  rcases q with q | q
  · exact h pins s σ H x xs v us Q I rx rs q
  · exact h' pins s σ H x xs v us Q I rx rs q
theorem pe_ix {r : R2} (hr : IxR X r) (ha : PE X a ta) (hb : PE X b tb) (hs : PlainIx b) : PE X (.Subscript a b pos) (tOp r ta tb) := by
  intro pins s σ H Q I h
  exact Subscript_ (binT ha hb I h fun v u s2 x y H2 I2 rx ry q => hr a b pins s2 σ H2 x y v u Q I2 rx ry q (hs _ _))
def rIxL (K : PySem.W.Frag) : R2 := fun x y H Q => ∃ p xs i v, x = .ref p ∧ y = .int i ∧ SqL K H p xs ∧ atI xs i = some v ∧ Q v H
def rIxT (K : PySem.W.Frag) : R2 := fun x y H Q => ∃ p xs i v, x = .ref p ∧ y = .int i ∧ SqT K H p xs ∧ atI xs i = some v ∧ Q v H
theorem ix_list : IxR X (rIxL X.K) := by
  intro value slice pins s σ H x y v u Q I rx ry h hs
  obtain ⟨p, xs, i, z, rfl, rfl, hq, he, q⟩ := h
  cases rx
  obtain ⟨t, rfl⟩ := ry
  obtain ⟨its, r, pl, hz⟩ := I.list hq
  obtain ⟨j, h1, h2, h3, h4, h5⟩ := atI_get he
  obtain ⟨w, ew, rw'⟩ := r.get h2
  have hl := r.length
  have hn := line63
  have fin : EP X pins σ Q w s := ⟨z, H, I, rw', q⟩
  by_cases h0 : 0 ≤ i
  · have hj : i.toNat = j := by
      rw [seqIndex_of h0 h5] at h1
      exact Option.some.inj h1
    exact item_listR pl.isList h0 (by omega) (by rw [hj]; simpa using ew) fin hs
  · have hj : (i + (its.toArray.size : Int)).toNat = j := by
      rw [seqIndex_neg (by omega) h4] at h1
      rw [List.size_toArray, ← hl]
      exact Option.some.inj h1
    exact subscriptTail_builtinR (x := w) pl.isList.typeIs slot_list_getitem.lookup
      (wpAny_getItem_list_neg (Q := fun r s' => r = w ∧ EP X pins σ Q r s') pl.isList (by omega) (by rw [List.size_toArray] <;> omega) (by omega) (by rw [hj]; simpa using ew) ⟨rfl, fin⟩) hs
theorem ix_tup : IxR X (rIxT X.K) := by
  intro value slice pins s σ H x y v u Q I rx ry h hs
  obtain ⟨p, xs, i, z, rfl, rfl, hq, he, q⟩ := h
  cases rx
  obtain ⟨t, rfl⟩ := ry
  obtain ⟨its, r, pl, hz⟩ := I.tuple hq
  obtain ⟨j, h1, h2, h3, h4, h5⟩ := atI_get he
  obtain ⟨w, ew, rw'⟩ := r.get h2
  have hl := r.length
  have hn := line63
  have fin : EP X pins σ Q w s := ⟨z, H, I, rw', q⟩
  exact subscriptTail_builtinR (x := w) pl.typeIs slot_tuple_getitem.lookup
    (getItem_tuple (j := j) (Q := fun r s' => r = w ∧ EP X pins σ Q r s') pl (by omega) (by omega) (by rw [List.size_toArray, ← hl]; exact h1) (by simpa using ew) ⟨rfl, fin⟩) hs
theorem Inv.lst {pins : List (Addr × Obj)} {σ : St} {H : Hp} {s : Shared} {p : Addr} {xs : List V} (I : Inv X pins σ H s) (h : H p = some (.lst xs)) :
    ∃ (its : List Value) (n : Nat), Vals xs its ∧ s.heap.get? p = some { cls := .type "list", data := .seq its.toArray n } ∧ xs.length ≤ sizeLine := by
  obtain ⟨z, its, n, r, e⟩ := I.hok p _ h
  exact ⟨its, n, r, e, z⟩
theorem slice_bounds (lo hi : Option Int) (n : Nat) : (sliceBounds lo hi none n).1 = ((HT.sIx n 0 lo : Nat) : Int) ∧ (sliceBounds lo hi none n).2.1 = ((HT.sIx n n hi : Nat) : Int) ∧ (sliceBounds lo hi none n).2.2 = 1 := by
  refine ⟨?_, ?_, rfl⟩
  · cases lo with
    | none => simp [sliceBounds, HT.sIx]
    | some i =>
      simp only [sliceBounds, HT.sIx, Option.getD_none, show (1 : Int) > 0 by decide, if_true]
      by_cases h : i < 0
      · simp only [h, if_true] <;> omega
      · simp only [h, if_false] <;> omega
  · cases hi with
    | none => simp [sliceBounds, HT.sIx]
    | some i =>
      simp only [sliceBounds, HT.sIx, Option.getD_none, show (1 : Int) > 0 by decide, if_true]
      by_cases h : i < 0
      · simp only [h, if_true] <;> omega
      · simp only [h, if_false] <;> omega
theorem slicePick_cut (its : List Value) (lo hi : Option Int) : slicePick its.toArray lo hi none = ((its.drop (HT.sIx its.length 0 lo)).take (HT.sIx its.length its.length hi - HT.sIx its.length 0 lo)).toArray := by
  obtain ⟨h1, h2, h3⟩ := slice_bounds lo hi its.toArray.size
  unfold slicePick
  rw [h1, h2, h3]
  simp only [sliceRange_one, pick_run, List.size_toArray] <;> rfl
def rSlL (K : PySem.W.Frag) : V → Option Int → Option Int → Hp → VK → Prop := fun x lo hi H Q => ∃ a xs, x = .ref a ∧ SqL K H a xs ∧ ∀ p, H p = none → Q (.ref p) (upd H p (.lst (cutV xs lo hi)))
theorem sl_list : SlR X (rSlL X.K) := by
  intro pins s σ H x v vl vu lo hi sl Q I rx hs pl pu h
  obtain ⟨a, xs, rfl, hx, q⟩ := h
  cases rx
  obtain ⟨its, r, ht, hz⟩ := I.list hx
  have hlen := r.length
  refine ⟨"list", _, slot_list_getitem.lookup, ht.isList.typeIs, ?_⟩
  refine wpAny_getItem_list_slice ht.isList hs pl pu .none (by simp) ?_ (by rw [List.size_toArray] <;> omega)
  rw [slicePick_cut, ← hlen]
  refine ⟨.ref s.heap.objs.size, _, I.laid (t' := s.toks) (o := .lst (cutV xs lo hi)) (fun b ob q => Heap.get?_push_of_some _ q) (Nat.le_refl _) ?_, rfl, q _ (I.hok.fresh (Nat.le_refl _))⟩
  exact ⟨Nat.le_trans (cutV_length xs lo hi) hz, _, 0, (r.drop (HT.sIx xs.length 0 lo)).take (HT.sIx xs.length xs.length hi - HT.sIx xs.length 0 lo), Heap.get?_push_size _ rfl⟩
def flatV : V → Bool
  | .non => true
  | .bl _ => true
  | .int _ => true
  | .str _ => true
  | _ => false
def eqV : V → V → Bool
  | .non, .non => true
  | .bl a, .bl b => a == b
  | .bl a, .int b => (if a then 1 else 0) == b
  | .int a, .bl b => a == (if b then 1 else 0)
  | .int a, .int b => a == b
  | .str a, .str b => a == b
  | _, _ => false
theorem eqAt_V {A : Around} {s : Shared} {y x : V} {u v : Value} (ry : RelV y u) (rx : RelV x v) (fy : flatV y = true) (fx : flatV x = true) : SeqAt.EqAt A s u v (eqV y x) := by
  cases y with
  | non =>
    cases ry
    cases x with
    | non => cases rx; exact SeqAt.EqAt.same _
    | bl b => cases rx; exact SeqAt.EqAt.none_bool b
    | int b => obtain ⟨t, rfl⟩ := rx; exact SeqAt.EqAt.none_int b t
    | str b => obtain ⟨t, rfl⟩ := rx; exact SeqAt.EqAt.none_str b t
    | _ => exact absurd (show false = true from fx) Bool.false_ne_true
  | bl a =>
    cases ry
    cases x with
    | non => cases rx; exact SeqAt.EqAt.bool_none a
    | bl b => cases rx; exact SeqAt.EqAt.bool_bool a b
    | int b => obtain ⟨t, rfl⟩ := rx; exact SeqAt.EqAt.bool_int a b t
    | str b => obtain ⟨t, rfl⟩ := rx; exact SeqAt.EqAt.bool_str a b t
    | _ => exact absurd (show false = true from fx) Bool.false_ne_true
  | int a =>
    obtain ⟨t', rfl⟩ := ry
    cases x with
    | non => cases rx; exact SeqAt.EqAt.int_none a t'
    | bl b => cases rx; exact SeqAt.EqAt.int_bool a t' b
    | int b => obtain ⟨t, rfl⟩ := rx; exact SeqAt.EqAt.int_int a t' b t
    | str b => obtain ⟨t, rfl⟩ := rx; exact SeqAt.EqAt.int_str a t' b t
    | _ => exact absurd (show false = true from fx) Bool.false_ne_true
  | str a =>
    obtain ⟨t', rfl⟩ := ry
    cases x with
    | non => cases rx; exact SeqAt.EqAt.str_none a t'
    | bl b => cases rx; exact SeqAt.EqAt.str_bool a t' b
    | int b => obtain ⟨t, rfl⟩ := rx; exact SeqAt.EqAt.str_int a t' b t
    | str b => obtain ⟨t, rfl⟩ := rx; exact SeqAt.EqAt.str_str a t' b t
    | _ => exact absurd (show false = true from fx) Bool.false_ne_true
  | _ => exact absurd (show false = true from fy) Bool.false_ne_true
def eqU (x : V) (u : Value) : Bool := match u with
  | .none => eqV .non x
  | .bool b => eqV (.bl b) x
  | .int i _ => eqV (.int i) x
  | .str z _ => eqV (.str z) x
  | _ => false
theorem eqU_of {x y : V} {u : Value} (r : RelV y u) (f : flatV y = true) : eqU x u = eqV y x := by
  cases y with
  | non => cases r; rfl
  | bl b => cases r; rfl
  | int i => obtain ⟨t, rfl⟩ := r; rfl
  | str z => obtain ⟨t, rfl⟩ := r; rfl
  | _ => exact absurd (show false = true from f) Bool.false_ne_true
theorem any_eqU {x : V} : ∀ {xs : List V} {us : List Value}, Vals xs us → xs.all flatV = true → us.any (eqU x) = xs.any fun y => eqV y x
  | _, _, .nil, _ => rfl
  | y :: xs, u :: us, .cons r t, f => by
    rw [List.all_cons, Bool.and_eq_true] at f
    rw [List.any_cons, List.any_cons, eqU_of r f.1, any_eqU t f.2]
theorem mem_eqAt {A : Around} {s : Shared} {x : V} {v : Value} (rx : RelV x v) (fx : flatV x = true) : ∀ {xs : List V} {us : List Value}, Vals xs us → xs.all flatV = true → ∀ u ∈ us, SeqAt.EqAt A s u v (eqU x u)
  | _, _, .nil, _ => fun u hu => by cases hu
  | y :: xs, u :: us, .cons r t, f => fun u' hu => by
    rw [List.all_cons, Bool.and_eq_true] at f
    rcases List.mem_cons.mp hu with rfl | hu
    · rw [eqU_of r f.1]; exact eqAt_V r rx f.1 fx
    · exact mem_eqAt rx fx t f.2 u' hu
def inV (x : V) (xs : List V) : Bool := xs.any fun y => eqV y x
def rIn (K : PySem.W.Frag) (neg : Bool) : R2 := fun x y H Q => ∃ p xs, y = .ref p ∧ (SqL K H p xs ∨ SqT K H p xs) ∧ flatV x = true ∧ xs.all flatV = true ∧ Q (.bl (if neg then !inV x xs else inV x xs)) H
theorem op_notIn_seq : OpR X (compareOp .NotIn) (rIn X.K true) := by
  intro pins s σ H x y v u Q I rx ry h
  obtain ⟨p, xs, rfl, hq, fx, fs, q⟩ := h
  cases ry
  rcases hq with hq | hq
  · obtain ⟨its, r, pl, hz⟩ := I.list hq
    refine SeqAt.notIn_listAt (eqU x) pl.isList (fun w hw => mem_eqAt rx fx r fs w (by simpa using hw)) ⟨.bl _, H, I, rfl, ?_⟩
    rw [show its.toArray.any (eqU x) = its.any (eqU x) by simp, any_eqU r fs]
    exact q
  · obtain ⟨its, r, pl, hz⟩ := I.tuple hq
    refine SeqAt.notIn_tupleAt (eqU x) pl (fun w hw => mem_eqAt rx fx r fs w (by simpa using hw)) ⟨.bl _, H, I, rfl, ?_⟩
    rw [show its.toArray.any (eqU x) = its.any (eqU x) by simp, any_eqU r fs]
    exact q
theorem call_len_seq : CallR X (.builtin "len") (fun xs H Q => ∃ p ys, xs = [.ref p] ∧ (SqL X.K H p ys ∨ SqT X.K H p ys) ∧ Q (.int ys.length) H) := by
  intro pins s σ H xs us Q I r h
  obtain ⟨p, ys, rfl, hq, q⟩ := h
  obtain ⟨u, rfl, rx⟩ := vals1 r
  cases rx
  have hn := line63
  rcases hq with hq | hq
  · obtain ⟨its, r', pl, hz⟩ := I.list hq
    have hlen := r'.length
    exact Calls.call_len_list pl.isList (by simp only [List.size_toArray] <;> omega) ⟨.int ys.length, H, I.tok _, ⟨s.toks + 1, by rw [List.size_toArray, hlen]⟩, q⟩
  · obtain ⟨its, r', pl, hz⟩ := I.tuple hq
    have hlen := r'.length
    exact len_tuple pl (by simp only [List.size_toArray] <;> omega) ⟨.int ys.length, H, I.tok _, ⟨s.toks + 1, by rw [List.size_toArray, hlen]⟩, q⟩
theorem CallR.or {f : Value} {r r' : List V → Hp → VK → Prop} (h : CallR X f r) (h' : CallR X f r') : CallR X f (fun xs H Q => r xs H Q ∨ r' xs H Q) := by
  intro pins s σ H xs us Q I rs q
  rcases q with q | q
  · exact h pins s σ H xs us Q I rs q
  · exact h' pins s σ H xs us Q I rs q
def tyV (K : PySem.W.Frag) (T : String) (x : V) (H : Hp) : Prop := match x with
  | .str _ => T = "str"
  | .int _ => T = "int"
  | .ref p => (T = "list" ∧ ∃ xs, SqL K H p xs) ∨ (T = "tuple" ∧ ∃ o, K.lookup p = some o ∧ o.cls = .type "tuple" ∧ o.dict = none) ∨
      (T = "dict" ∧ ((∃ kvs, H p = some (.dK kvs)) ∨ ∃ kvs, H p = some (.dT kvs))) ∨ (T = "set" ∧ ∃ S n, H p = some (.set S n))
  | _ => False
theorem tyV_is {pins : List (Addr × Obj)} {σ : St} {H : Hp} {s : Shared} {T : String} {x : V} {v : Value} (I : Inv X pins σ H s) (r : RelV x v) (ty : tyV X.K T x H) :
    s.TypeIs v T ∧ ∀ a, v = .ref a → ∃ ob, s.heap.get? a = some ob ∧ ob.dict = none := by
  cases x with
  | str z =>
    obtain ⟨t, rfl⟩ := r
    cases (show T = "str" from ty)
    exact ⟨typeIs_str s z t, fun _ e => nomatch e⟩
  | int i =>
    obtain ⟨t, rfl⟩ := r
    cases (show T = "int" from ty)
    exact ⟨typeIs_int s i t, fun _ e => nomatch e⟩
  | ref p =>
    cases r
    rcases ty with ⟨rfl, xs, hq⟩ | ⟨rfl, o, hk, hc, hd⟩ | ⟨rfl, hk⟩ | ⟨rfl, S, n, hk⟩
    · obtain ⟨its, _, pl, _⟩ := I.list hq
      refine ⟨pl.isList.typeIs, fun a e => ?_⟩
      cases e
      obtain ⟨o, n, e, c, hd, _⟩ := pl
      exact ⟨o, e, hd⟩
    · refine ⟨⟨o, I.kIn p o hk, hc⟩, fun a e => ?_⟩
      cases e
      exact ⟨o, I.kIn _ o hk, hd⟩
    · have z : ∃ o, s.heap.get? p = some o ∧ o.ExactDict := by
        rcases hk with ⟨kvs, hk⟩ | ⟨kvs, hk⟩
        · obtain ⟨_, _, _, _, o, _, _, e, ex, _⟩ := I.hok p _ hk
          exact ⟨o, e, ex⟩
        · obtain ⟨_, _, _, _, o, _, _, e, ex, _⟩ := I.hok p _ hk
          exact ⟨o, e, ex⟩
      obtain ⟨o, e, ex⟩ := z
      refine ⟨⟨o, e, ex.1⟩, fun a e2 => ?_⟩
      cases e2
      exact ⟨o, e, ex.2.1⟩
    · obtain ⟨o, _, _, _, e, ex, _⟩ := I.hok p _ hk
      refine ⟨⟨o, e, ex.1⟩, fun a e2 => ?_⟩
      cases e2
      exact ⟨o, e, ex.2.1⟩
  | _ => exact False.elim ty
def tBM (K : PySem.W.Frag) (T : String) (r : V → List V → Hp → VK → Prop) (to : TE) (t : TA) : TE := fun σ H Q => to σ H fun x H1 => tyV K T x H1 ∧ t σ H1 fun xs H2 => r x xs H2 Q
variable {o e : Expr} {es : List Expr} {to : TE} {t : TA} {name : Str} {apos cpos : Pos} {T id : String} {r : V → List V → Hp → VK → Prop}
theorem pe_bm (pa : PlainAttrs T) (slot : Slot T name id) (hty : typeOf (.builtin id) = pure (.type "method_descriptor")) (hm : MtR X id r) (ho : PE X o to) (ha : PA X (e :: es) t)
    (hbase : attributeBase o name X.env (eval o X.env) = eval o X.env := by rfl)
    (hfew : ((backTo cpos (starEach (e :: es) X.env)).all (fun x => !x.1) && (backToKw cpos (keywordEach [] X.env)).all (fun x => x.1.isSome)
      && decide ((e :: es).length + ([] : List Keyword).length + (if ([] : List Keyword).isEmpty then 0 else 1) < 30)) = true := by rfl)
    (hline : (apos.endLine == cpos.line) = true := by rfl) (hs : starEach (e :: es) X.env = (false, eval e X.env) :: starEach es X.env := by rfl) (hplain : (backTo cpos (starEach es X.env)).any (·.1) = false := by rfl) :
    PE X (.Call (.Attribute o name apos) (e :: es) [] cpos) (tBM X.K T r to t) := by
  intro pins s σ H Q I h
  refine wpAny_Call_method_late hbase hfew hline rfl (thn (ho pins s σ H _ I h) fun v s1 ⟨x, H1, I1, r1, ty, q1⟩ => ?_)
  obtain ⟨h1, h2⟩ := tyV_is I1 r1 ty
  refine ⟨T, id, pa, slot, hty, h1, h2, ?_⟩
  have hA := ha cpos pins s1 σ H1 _ I1 q1
  rw [hs] at hA ⊢
  refine Calls.callWith_builtin (by show (false || (backTo cpos (starEach es X.env)).any (·.1)) = false; rw [hplain] <;> rfl) (Calls.evalArgs_plain ?_)
  exact thn hA fun us s2 ⟨vs, H2, I2, r2, q2⟩ => hm pins s2 σ H2 x vs v us Q I2 r1 r2 q2
end
end L2
namespace L2
open PySem PySem.Spec PyProof.Rows
def MtM (X : Cx) (id : String) (r : V → List V → Hp → VK → Prop) : Prop :=
  ∀ (pins : List (Addr × Obj)) (s : Shared) (σ : St) (H : Hp) (x : V) (xs : List V) (v : Value) (us : List Value) (Q : VK), Inv X pins σ H s → RelV x v → Vals xs us → r x xs H Q →
    wpAny (model X.prog X.w) X.A (call (.builtin id) (v :: us)) (EP X pins σ Q) X.xe s
theorem Vals.one : ∀ {x : V} {us : List Value}, Vals [x] us → ∃ u, us = [u] ∧ RelV x u
  | _, _, .cons r .nil => ⟨_, rfl, r⟩
theorem Vals.two : ∀ {x y : V} {us : List Value}, Vals [x, y] us → ∃ u v, us = [u, v] ∧ RelV x u ∧ RelV y v
  | _, _, _, .cons r (.cons q .nil) => ⟨_, _, rfl, r, q⟩
theorem Vals.zero : ∀ {us : List Value}, Vals [] us → us = []
  | _, .nil => rfl
section
variable {X : Cx} {pins : List (Addr × Obj)} {σ : St} {H : Hp} {s : Shared} {l b : Addr} {xs ys zs : List V}
theorem Inv.lset {its its' : List Value} {n : Nat} {f : Array Value → Array Value} {t' : Nat} (I : Inv X pins σ H s) (hH : H l = some (.lst xs))
    (e : s.heap.get? l = some { cls := .type "list", data := .seq its.toArray n }) (hf : f its.toArray = its'.toArray) (hv : Vals ys its') (hz : ys.length ≤ sizeLine) :
    Inv X pins σ (upd H l (.lst ys)) { s with heap := s.heap.update l (Obj.mapSeq f), toks := t' } := by
  have q := PySem.IsL.update e f
  rw [hf] at q
  refine I.write (x := l) (e := l) (by rw [hH]; exact trivial) (.inl rfl) (fun b' u hb hu => (Heap.get?_update_other s.heap (Obj.mapSeq f) (Ne.symm hb)).trans hu) ⟨_, q⟩ ?_
  exact ⟨hz, its', _, hv, q⟩
theorem Inv.lnew {its : List Value} {t' : Nat} (I : Inv X pins σ H s) (hv : Vals ys its) (hz : ys.length ≤ sizeLine) :
    Inv X pins σ (upd H s.heap.objs.size (.lst ys)) { s with heap := s.heap.push { cls := .type "list", data := .seq its.toArray }, toks := t' } :=
  I.laid (fun _ _ q => Heap.get?_push_of_some _ q) (Nat.le_refl _) ⟨hz, its, 0, hv, Heap.get?_push_size _ rfl⟩
theorem Inv.fresh (I : Inv X pins σ H s) : H s.heap.objs.size = none := I.hok.fresh (Nat.le_refl _)
theorem Inv.lstM (I : Inv X pins σ H s) (hH : H l = some (.lst xs)) : xs.length ≤ sizeLine ∧ ∃ (its : List Value) (n : Nat), Vals xs its ∧ xs.length = its.length ∧ s.heap.get? l = some { cls := .type "list", data := .seq its.toArray n } := by
  obtain ⟨z, its, n, r, e⟩ := I.hok l _ hH
  exact ⟨z, its, n, r, r.length, e⟩
theorem notLongL {n : Nat} (h : n ≤ sizeLine) : Builtin.List.listTooLong n = false := by
  unfold Builtin.List.listTooLong
  exact decide_eq_false (by omega)
end
section
variable {X : Cx}
def rAppend : V → List V → Hp → VK → Prop := fun x vs H Q => ∃ l xs y, x = .ref l ∧ vs = [y] ∧ H l = some (.lst xs) ∧ xs.length < sizeLine ∧ Q .non (upd H l (.lst (xs ++ [y])))
theorem mt_append : MtM X "list.append" rAppend := by
  intro pins s σ H x vs v us Q I rx rv h
  obtain ⟨l, xs, y, rfl, rfl, hH, hz, q⟩ := h
  cases rx
  obtain ⟨u, rfl, ru⟩ := rv.one
  obtain ⟨z, its, n, r, hl, e⟩ := I.lstM hH
  refine call_meets F.slot_list_append ⟨_, e, rfl⟩ F.entry_list_append (F.args_list_append_2 _ _) (PySem.list_append l its.toArray n u (by rw [List.size_toArray]; omega)) ⟨e, ?_⟩
  refine ⟨.non, _, I.lset (its' := its ++ [u]) hH e (by simp) (r.append (.cons ru .nil)) ?_, rfl, q⟩
  rw [List.length_append, List.length_singleton]
  omega
def rExtend : V → List V → Hp → VK → Prop := fun x vs H Q => ∃ l b xs zs, x = .ref l ∧ vs = [.ref b] ∧ H l = some (.lst xs) ∧ H b = some (.lst zs) ∧ xs.length + zs.length ≤ sizeLine ∧ Q .non (upd H l (.lst (xs ++ zs)))
theorem mt_extend : MtM X "list.extend" rExtend := by
  intro pins s σ H x vs v us Q I rx rv h
  obtain ⟨l, b, xs, zs, rfl, rfl, hH, hB, hz, q⟩ := h
  cases rx
  obtain ⟨u, rfl, ru⟩ := rv.one
  cases ru
  obtain ⟨z, its, n, r, hl, e⟩ := I.lstM hH
  obtain ⟨z2, its2, n2, r2, hl2, e2⟩ := I.lstM hB
  have hsz : its.toArray.size + its2.toArray.size ≤ sizeLine := by rw [List.size_toArray, List.size_toArray]; omega
  have hlong : ¬ (!its.toArray.isEmpty && Builtin.List.listTooLong (its.toArray.size + its2.toArray.size)) = true := by
    rw [notLongL hsz, Bool.and_false]
    exact Bool.false_ne_true
  refine call_meets F.slot_list_extend ⟨_, e, rfl⟩ F.entry_list_extend (F.args_list_extend_2 _ _)
    (AutoSeq1.list_extend_list_list_0 l its.toArray n b its2.toArray n2 hlong (by rw [List.size_toArray]; omega) (by omega)) ⟨e, e2, ?_⟩
  refine ⟨.non, _, I.lset (its' := its ++ its2) hH e (by simp) (r.append r2) ?_, rfl, q⟩
  rw [List.length_append]
  omega
def rCat : R2 := fun x y H Q => ∃ l b xs zs, x = .ref l ∧ y = .ref b ∧ H l = some (.lst xs) ∧ H b = some (.lst zs) ∧ xs.length + zs.length ≤ sizeLine ∧ ∀ p, H p = none → Q (.ref p) (upd H p (.lst (xs ++ zs)))
theorem op_cat : OpR X (binaryOp .Add) rCat := by
  intro pins s σ H x y v u Q I rx ry h
  obtain ⟨l, b, xs, zs, rfl, rfl, hH, hB, hz, q⟩ := h
  cases rx
  cases ry
  obtain ⟨z, its, n, r, hl, e⟩ := I.lstM hH
  obtain ⟨z2, its2, n2, r2, hl2, e2⟩ := I.lstM hB
  refine PySem.P.add_list e e2 ?_ (by rw [List.size_toArray, List.size_toArray]; omega)
  have ea : its.toArray ++ its2.toArray = (its ++ its2).toArray := by simp
  rw [ea]
  exact ⟨.ref _, _, I.lnew (t' := s.toks) (r.append r2) (by rw [List.length_append]; omega), rfl, q _ I.fresh⟩
end
end L2
namespace L2
open PySem PySem.Spec PyProof.Rows
theorem Vals.ints : ∀ {ns : List Int} {us : List Value}, Vals (ns.map V.int) us → IntsAre us ns
  | [], us, h => by
    rw [List.map_nil] at h
    cases h
    exact IntsAre.nil
  | n :: ns, us, h => by
    rw [List.map_cons] at h
    cases h with
    | cons r t =>
      obtain ⟨k, rfl⟩ := r
      exact IntsAre.cons n k (Vals.ints t)
theorem Vals.strs : ∀ {xs : List Str} {us : List Value}, Vals (xs.map V.str) us → StrsAre us xs
  | [], us, h => by
    rw [List.map_nil] at h
    cases h
    exact StrsAre.nil
  | x :: xs, us, h => by
    rw [List.map_cons] at h
    cases h with
    | cons r t =>
      obtain ⟨k, rfl⟩ := r
      exact StrsAre.cons x k (Vals.strs t)
theorem Vals.ref1 {a : Addr} {us : List Value} (r : Vals [V.ref a] us) : us = [Value.ref a] := by
  cases r with
  | cons r t =>
    cases t
    cases r
    rfl
section
variable {prog : Program} {w : World} {A : Around} {E : Value → Shared → Prop} {s : Shared} {l : Addr} {its : List Value} {ns : List Int} {Q : Value → Shared → Prop}
theorem sum_raw (hh : A.handled = none) (hl : s.heap.IsList l its.toArray) (hi : IntsAre its ns)
    (h : ∀ h' tk t', (∀ b o, s.heap.get? b = some o → h'.get? b = some o) → Q (.int ns.sum t') { s with heap := h', toks := tk }) : wpAny (model prog w) A (call (.builtin "sum") [.ref l]) Q E s := by
  obtain ⟨xs, e⟩ := hi.allInts.items
  have hn : numsOf (intItems xs).toList = ns := by rw [← e]; exact hi.numsOf
  rw [nums_intItems] at hn
  rw [e] at hl
  refine PySem.sum_intListG hh hl fun h' tk t' hk => ?_
  have := h h' tk t' hk
  rw [preSum_eq, List.take_of_length_le (by simp), hn]; exact this
end
section
variable {X : Cx}
def rSum (K : PySem.W.Frag) : List V → Hp → VK → Prop := fun vs H Q => ∃ (a : Addr) (ns : List Int), vs = [V.ref a] ∧ SqL K H a (ns.map V.int) ∧ Q (.int ns.sum) H
theorem cr_sum (hc : X.calm = true) : CallR X (.builtin "sum") (rSum X.K) := by
  intro pins s σ H vs us Q I r h
  obtain ⟨a, ns, rfl, hs, q⟩ := h
  obtain ⟨its, rv, hl, _⟩ := I.list hs
  rw [Vals.ref1 r]
  exact sum_raw (I.ok.hd hc) hl.isList rv.ints fun h' tk t' hk => ⟨.int _, H, I.kept hk, ⟨_, rfl⟩, q⟩
end
mutual
inductive Dp (K : PySem.W.Frag) (H : Hp) : V → PyData → Prop
  | non : Dp K H .non .none
  | bl (b : Bool) : Dp K H (.bl b) (.bool b)
  | int (i : Int) : Dp K H (.int i) (.int i)
  | str (x : Str) : Dp K H (.str x) (.str x)
  | lst {a : Addr} {xs : List V} {ds : List PyData} : SqL K H a xs → DpAll K H xs ds → Dp K H (.ref a) (.list ds)
  | tup {a : Addr} {xs : List V} {ds : List PyData} : SqT K H a xs → DpAll K H xs ds → Dp K H (.ref a) (.tuple ds)
inductive DpAll (K : PySem.W.Frag) (H : Hp) : List V → List PyData → Prop
  | nil : DpAll K H [] []
  | cons {v : V} {vs : List V} {d : PyData} {ds : List PyData} : Dp K H v d → DpAll K H vs ds → DpAll K H (v :: vs) (d :: ds)
end
section
variable {X : Cx} {pins : List (Addr × Obj)} {σ : St} {H : Hp} {s : Shared}
mutual
theorem Dp.reads (I : Inv X pins σ H s) : ∀ (d : PyData) (v : V) (u : Value), Dp X.K H v d → RelV v u → ∃ as, Reads s.heap u d as
  | .none, _, _, h, r => by
    cases h
    cases r
    exact ⟨_, Reads.none⟩
  | .bool b, _, _, h, r => by
    cases h
    cases r
    exact ⟨_, Reads.bool b⟩
  | .int i, _, _, h, r => by
    cases h
    obtain ⟨t, rfl⟩ := r
    exact ⟨_, Reads.int i t⟩
  | .str x, _, _, h, r => by
    cases h
    obtain ⟨t, rfl⟩ := r
    exact ⟨_, Reads.str x t⟩
  | .list ds, _, _, h, r => by
    cases h with
    | lst hs ha =>
      cases r
      obtain ⟨its, rv, ⟨o, n, ho, hc, _, hd⟩, _⟩ := I.list hs
      obtain ⟨as, hr⟩ := Dp.readsAll I ds _ its ha rv
      exact ⟨_, Reads.list ho hc hd hr⟩
  | .tuple ds, _, _, h, r => by
    cases h with
    | tup hs ha =>
      cases r
      obtain ⟨its, rv, ⟨o, ho, hc, n, hd⟩, _⟩ := I.tuple hs
      obtain ⟨as, hr⟩ := Dp.readsAll I ds _ its ha rv
      exact ⟨_, Reads.tuple ho hc hd hr⟩
  | .dict _, _, _, h, _ => by cases h
theorem Dp.readsAll (I : Inv X pins σ H s) : ∀ (ds : List PyData) (vs : List V) (us : List Value), DpAll X.K H vs ds → Vals vs us → ∃ as, ReadsAll s.heap us ds as
  | [], _, _, h, r => by
    cases h
    cases r
    exact ⟨_, ReadsAll.nil⟩
  | d :: ds, _, _, h, r => by
    cases h with
    | cons h1 h2 =>
      cases r with
      | cons r1 r2 =>
        obtain ⟨as, q1⟩ := Dp.reads I d _ _ h1 r1
        obtain ⟨bs, q2⟩ := Dp.readsAll I ds _ _ h2 r2
        exact ⟨_, ReadsAll.cons q1 q2⟩
end
end
end L2
namespace L2
open PySem PySem.Spec PyProof.Rows
abbrev CellAt (h : Heap) (c : Addr) (v : Option Value) : Prop := h.IsCell c v
def relS (scope sc : Scope) : Scope :=
  { scope with names := scope.names.map fun (n, k) => if (k == .free && sc.kind == .function && sc.names.lookup n == some .cell) then (n, .cell) else (n, k) }
def cloFrom (cells : List (Str × Addr)) : List (Str × NameKind) → List (Str × Addr) → List (Str × Addr)
  | [], acc => acc
  | (n, k) :: r, acc => if k == .free then cloFrom cells r ((n, (cells.lookup n).getD 0) :: acc) else cloFrom cells r acc
theorem closure_loop (env : Env) (f : Str × NameKind → List (Str × Addr) → Sem (ForInStep (List (Str × Addr))))
    (hf : ∀ n k c, f (n, k) c = if k == .free then (do let a ← cellOf env n; pure (.yield ((n, a) :: c))) else pure (.yield c)) :
    ∀ (names : List (Str × NameKind)) (acc : List (Str × Addr)), (∀ y ∈ names, y.2 = .free → ∃ c, env.cells.lookup y.1 = some c) → forIn names acc f = pure (cloFrom env.cells names acc)
  | [], acc, _ => by rw [List.forIn_nil]; rfl
  | (n, k) :: r, acc, h => by
    rw [List.forIn_cons, hf]
    have ih := fun acc => closure_loop env f hf r acc fun y hy => h y (List.mem_cons_of_mem _ hy)
    unfold cloFrom
    by_cases hk : (k == NameKind.free) = true
    · rw [if_pos hk, if_pos hk]
      obtain ⟨c, hc⟩ := h (n, k) List.mem_cons_self (by simpa using hk)
      have e : cellOf env n = pure c := by unfold cellOf; rw [hc]
      rw [e]
      have e2 : (env.cells.lookup n).getD 0 = c := by rw [hc]; rfl
      rw [e2]
      exact ih _
    · rw [if_neg hk, if_neg hk]
      exact ih _
theorem closure_ok {scope : Scope} {env : Env} (h : ∀ y ∈ scope.names, y.2 = .free → ∃ c, env.cells.lookup y.1 = some c) : closureFor scope env = pure (cloFrom env.cells scope.names []) := by
  simp only [closureFor]
  rw [closure_loop env _ (fun n k c => rfl) scope.names [] h]
  rfl
theorem mem_lookup {α : Type} : ∀ {l : List (Str × α)} {n : Str} {c : α}, (n, c) ∈ l → ∃ c', l.lookup n = some c'
  | (k, v) :: r, n, c, h => by
    rw [List.lookup_cons]
    cases hb : n == k with
    | true => exact ⟨_, rfl⟩
    | false =>
      rcases List.mem_cons.mp h with e | h
      · cases e; simp at hb
      · exact mem_lookup h
theorem cloFrom_mem {cells : List (Str × Addr)} : ∀ {names : List (Str × NameKind)} {acc : List (Str × Addr)} {n : Str} {c : Addr}, (n, c) ∈ cloFrom cells names acc → (n, c) ∈ acc ∨ ((n, .free) ∈ names ∧ c = (cells.lookup n).getD 0)
  | [], _, _, _, h => .inl h
  | (m, k) :: r, acc, n, c, h => by
    unfold cloFrom at h
    split at h
    · rename_i hk
      have hk : k = .free := by simpa using hk
      rcases cloFrom_mem h with h | ⟨h1, h2⟩
      · rcases List.mem_cons.mp h with e | h
        · cases e; exact .inr ⟨hk ▸ List.mem_cons_self, rfl⟩
        · exact .inl h
      · exact .inr ⟨List.mem_cons_of_mem _ h1, h2⟩
    · rcases cloFrom_mem h with h | ⟨h1, h2⟩
      · exact .inl h
      · exact .inr ⟨List.mem_cons_of_mem _ h1, h2⟩
theorem cloFrom_acc {cells : List (Str × Addr)} : ∀ {names : List (Str × NameKind)} {acc : List (Str × Addr)} {p : Str × Addr}, p ∈ acc → p ∈ cloFrom cells names acc
  | [], _, _, h => h
  | (m, k) :: r, acc, p, h => by
    unfold cloFrom
    split
    · exact cloFrom_acc (List.mem_cons_of_mem _ h)
    · exact cloFrom_acc h
theorem cloFrom_has {cells : List (Str × Addr)} : ∀ {names : List (Str × NameKind)} {acc : List (Str × Addr)} {n : Str}, (n, .free) ∈ names → (n, (cells.lookup n).getD 0) ∈ cloFrom cells names acc
  | (m, k) :: r, acc, n, h => by
    unfold cloFrom
    rcases List.mem_cons.mp h with e | h
    · cases e
      exact cloFrom_acc List.mem_cons_self
    · split
      · exact cloFrom_has h
      · exact cloFrom_has h
theorem cells_mem : ∀ {names : List (Str × NameKind)} {h : Heap} {acc : List (Str × Addr)} {x : Str} {c : Addr}, (x, c) ∈ cellsFrom h.objs.size names acc →
    (x, c) ∈ acc ∨ ((x, .cell) ∈ names ∧ h.objs.size ≤ c ∧ CellAt (pushCells h names) c none)
  | [], _, _, _, _, h => .inl h
  | (n, k) :: r, h, acc, x, c, hm => by
    unfold cellsFrom at hm
    unfold pushCells
    split at hm
    · rename_i hk
      rw [if_pos hk]
      have hk : k = .cell := by simpa using hk
      rw [← Heap.size_push h { cls := .type "cell", data := .cell none }] at hm
      rcases cells_mem hm with hm | ⟨h1, h2, h3⟩
      · rcases List.mem_cons.mp hm with e | hm
        · cases e
          exact .inr ⟨hk ▸ List.mem_cons_self, Nat.le_refl _, _, pushCells_keeps r _ _ _ (Heap.get?_push_size _ rfl), rfl⟩
        · exact .inl hm
      · rw [Heap.size_push] at h2
        exact .inr ⟨List.mem_cons_of_mem _ h1, Nat.le_of_succ_le h2, h3⟩
    · rename_i hk
      rw [if_neg hk]
      rcases cells_mem hm with hm | ⟨h1, h2, h3⟩
      · exact .inl hm
      · exact .inr ⟨List.mem_cons_of_mem _ h1, h2, h3⟩
theorem cells_acc : ∀ {names : List (Str × NameKind)} {n : Nat} {acc : List (Str × Addr)} {p : Str × Addr}, p ∈ acc → p ∈ cellsFrom n names acc
  | [], _, _, _, h => h
  | (m, k) :: r, n, acc, p, h => by
    unfold cellsFrom
    split
    · exact cells_acc (List.mem_cons_of_mem _ h)
    · exact cells_acc h
theorem cells_has : ∀ {names : List (Str × NameKind)} {n : Nat} {acc : List (Str × Addr)} {x : Str}, (x, .cell) ∈ names → ∃ c, (x, c) ∈ cellsFrom n names acc
  | (m, k) :: r, n, acc, x, h => by
    unfold cellsFrom
    rcases List.mem_cons.mp h with e | h
    · cases e
      exact ⟨n, cells_acc List.mem_cons_self⟩
    · split
      · exact cells_has h
      · exact cells_has h
theorem cells_inj : ∀ {names : List (Str × NameKind)} {h : Heap} {acc : List (Str × Addr)} {x y : Str} {c : Addr}, (∀ p ∈ acc, p.2 < h.objs.size) → (∀ x y c, (x, c) ∈ acc → (y, c) ∈ acc → x = y) →
    (x, c) ∈ cellsFrom h.objs.size names acc → (y, c) ∈ cellsFrom h.objs.size names acc → x = y
  | [], _, _, _, _, _, _, hi, h1, h2 => hi _ _ _ h1 h2
  | (n, k) :: r, h, acc, x, y, c, hl, hi, h1, h2 => by
    unfold cellsFrom at h1 h2
    split at h1
    · rename_i hk
      rw [if_pos hk] at h2
      rw [← Heap.size_push h { cls := .type "cell", data := .cell none }] at h1 h2
      refine cells_inj (h := h.push _) (fun p hp => ?_) (fun x y c a b => ?_) h1 h2
      · rw [Heap.size_push]
        rcases List.mem_cons.mp hp with rfl | hp
        · exact Nat.lt_succ_self _
        · exact Nat.lt_succ_of_lt (hl p hp)
      · rcases List.mem_cons.mp a with e | a <;> rcases List.mem_cons.mp b with e' | b
        · cases e; cases e'; rfl
        · cases e; exact absurd (hl _ b) (Nat.lt_irrefl _)
        · cases e'; exact absurd (hl _ a) (Nat.lt_irrefl _)
        · exact hi _ _ _ a b
    · rename_i hk
      rw [if_neg hk] at h2
      exact cells_inj hl hi h1 h2
theorem newEnv_comp {M : Model} {A : Around} {E : Value → Shared → Prop} {s : Shared} {scope : Scope} {globals : Addr} {closure : List (Str × Addr)} {qual : Str} {func : Option Addr} {code : Value} {around : Env} {builtins : Addr} {Q : Env → Shared → Prop}
    (h : Q (newEnv scope s.heap.objs.size globals (cellsFrom (s.heap.objs.size + 1) scope.names closure) qual func code (some around) builtins)
      { s with heap := pushCells (s.heap.push { cls := .type "dict", data := .dict #[] }) scope.names }) :
    wpAny M A (newFunctionEnv scope globals closure [] qual func code (some around) builtins) Q E s := by
  simp only [newFunctionEnv, Option.isSome_some, if_true]
  refine wpAny_bind (wpAny_alloc ?_)
  refine wpAny_bind (wpAny_layCells _ (fun n k c => rfl) scope.names closure _ _ ?_)
  rw [show ({ s with heap := s.heap.push { cls := .type "dict", data := .dict #[] } } : Shared).heap.objs.size = s.heap.objs.size + 1 from Heap.size_push ..]
  rw [List.forIn_nil]
  exact wpAny_bind (wpAny_pure (wpAny_pure h))
theorem lookup_relS {sc : Scope} : ∀ {names : List (Str × NameKind)} {x : Str} {k : NameKind},
    (names.map fun (n, k) => if (k == NameKind.free && sc.kind == .function && sc.names.lookup n == some .cell) then (n, NameKind.cell) else (n, k)).lookup x = some k →
    ∃ k', names.lookup x = some k' ∧ (k = k' ∨ (k' = .free ∧ k = .cell))
  | [], _, _, h => by simp at h
  | (n, k₀) :: r, x, k, h => by
    have ih := @lookup_relS sc r x k
    have h' : List.lookup x ((if (k₀ == NameKind.free && sc.kind == .function && sc.names.lookup n == some .cell) = true then (n, NameKind.cell) else (n, k₀)) :: (r.map _)) = some k := h
    cases hx : x == n with
    | true =>
      simp only [List.lookup_cons, hx]
      by_cases hc : (k₀ == NameKind.free && sc.kind == .function && sc.names.lookup n == some .cell) = true
      · rw [if_pos hc] at h'
        simp only [List.lookup_cons, hx] at h'
        cases h'
        simp only [Bool.and_eq_true, beq_iff_eq] at hc
        exact ⟨k₀, rfl, .inr ⟨hc.1.1, rfl⟩⟩
      · rw [if_neg hc] at h'
        simp only [List.lookup_cons, hx] at h'
        cases h'
        exact ⟨_, rfl, .inl rfl⟩
    | false =>
      simp only [List.lookup_cons, hx]
      by_cases hc : (k₀ == NameKind.free && sc.kind == .function && sc.names.lookup n == some .cell) = true
      · rw [if_pos hc] at h'
        simp only [List.lookup_cons, hx] at h'
        exact ih h'
      · rw [if_neg hc] at h'
        simp only [List.lookup_cons, hx] at h'
        exact ih h'
structure BlkOk (N : List Str) (sc scope : Scope) (own : List (Str × Nat)) : Prop where
  kind : scope.kind = .function
  uniq : ∀ y ∈ scope.names, scope.names.lookup y.1 = some y.2
  ix : ∀ p ∈ own, N[p.2]? = some p.1
  free : ∀ y ∈ scope.names, y.2 = .free → sc.names.lookup y.1 = some .cell ∨ sc.names.lookup y.1 = some .free
  own : ∀ y ∈ scope.names, y.2 = .local ∨ y.2 = .cell → y.1 ∈ own.map (·.1) ∨ y.1 ∉ N
def wipe (σ : St) : List Nat → St
  | [] => σ
  | v :: vs => (wipe σ vs).set v none
theorem wipe_length (σ : St) : ∀ vs : List Nat, (wipe σ vs).length = σ.length
  | [] => rfl
  | v :: vs => by unfold wipe; rw [List.length_set, wipe_length σ vs]
theorem wipe_some {σ : St} {i : Nat} {x : V} : ∀ {vs : List Nat}, (wipe σ vs)[i]? = some (some x) → σ[i]? = some (some x) ∧ i ∉ vs
  | [], h => ⟨h, by simp⟩
  | v :: vs, h => by
    unfold wipe at h
    by_cases hi : v = i
    · subst hi
      by_cases hv : v < (wipe σ vs).length
      · rw [List.getElem?_set_self hv] at h; cases h
      · rw [List.getElem?_eq_none (by simpa using hv)] at h; cases h
    · rw [List.getElem?_set_ne hi] at h
      obtain ⟨h1, h2⟩ := wipe_some h
      exact ⟨h1, by simp only [List.mem_cons, not_or]; exact ⟨fun e => hi e.symm, h2⟩⟩
abbrev Cx.blk (X : Cx) (s : Shared) (H : Hp) (scope : Scope) (cenv : Env) (fp : List Addr) : Cx := { X with s_0 := s, H_0 := H, env := cenv, outer := X.stack, ex := fp, fn := fun x => scope.names.lookup x == some .cell, pn := [], xe := fun _ _ => False }
section
variable {X : Cx} {pins : List (Addr × Obj)} {σ : St} {H : Hp} {s : Shared}
theorem block_start {scope : Scope} {own : List (Str × Nat)} {fp : List Addr} (I : Inv X pins σ H s) (ok : BlkOk X.N X.env.scope scope own) (hN : X.N.Nodup) (hfp : ∀ b ∈ fp, FpOk X pins H b ∧ b < s.heap.objs.size) :
    Inv (X.blk s H scope (compEnvC scope (cellsFrom (s.heap.objs.size + 1) scope.names (cloFrom X.env.cells scope.names [])) s.heap.objs.size X.env) fp) [] (wipe σ (own.map (·.2))) H { s with heap := pushCells (s.heap.push { cls := .type "dict", data := .dict #[] }) scope.names } := by
  have hfree : ∀ y ∈ scope.names, y.2 = .free → ∃ c, X.env.cells.lookup y.1 = some c := fun y hy e => by
    rcases ok.free y hy e with k | k
    · exact I.ok.has _ (.inl k)
    · exact I.ok.has _ (.inr k)
  generalize hcenv : compEnvC scope (cellsFrom (s.heap.objs.size + 1) scope.names (cloFrom X.env.cells scope.names [])) s.heap.objs.size X.env = cenv
  have kp : ∀ b o, s.heap.get? b = some o → (pushCells (s.heap.push { cls := .type "dict", data := .dict #[] }) scope.names).get? b = some o := fun b o e => pushCells_keeps _ _ _ _ (Heap.get?_push_of_some _ e)
  have hL : cenv.locals = s.heap.objs.size := by rw [← hcenv]; rfl
  have hcl : cenv.cells = cellsFrom (s.heap.objs.size + 1) scope.names (cloFrom X.env.cells scope.names []) := by rw [← hcenv]; rfl
  have hsc : cenv.scope = relS scope X.env.scope := by rw [← hcenv]; rfl
  rw [← Heap.size_push s.heap { cls := .type "dict", data := .dict #[] }] at hcl
  have cm : ∀ {y c}, (y, c) ∈ cloFrom X.env.cells scope.names [] → X.env.cells.lookup y = some c ∧ c < s.heap.objs.size := fun {y c} hm => by
    rcases cloFrom_mem hm with hm | ⟨h1, rfl⟩
    · cases hm
    · obtain ⟨c, hc⟩ := hfree _ h1 rfl
      rw [hc]
      obtain ⟨w, z⟩ := I.cell _ _ hc
      exact ⟨rfl, z.lt⟩
  have mem : ∀ {y c}, cenv.cells.lookup y = some c → (X.env.cells.lookup y = some c ∧ c < s.heap.objs.size) ∨ (s.heap.objs.size + 1 ≤ c ∧ CellAt (pushCells (s.heap.push { cls := .type "dict", data := .dict #[] }) scope.names) c none) := fun {y c} e => by
    rw [hcl] at e
    rcases cells_mem (PySem.mem_of_lookup e) with hm | ⟨_, h2, h3⟩
    · exact .inl (cm hm)
    · rw [Heap.size_push] at h2; exact .inr ⟨h2, h3⟩
  have look : ∀ {y}, scope.names.lookup y = some .free → ∃ c, cenv.cells.lookup y = some c ∧ X.env.cells.lookup y = some c := fun {y} hl => by
    have hy : (y, NameKind.free) ∈ scope.names := PySem.mem_of_lookup hl
    obtain ⟨c', e'⟩ := mem_lookup (cells_acc (names := scope.names) (n := (s.heap.push { cls := .type "dict", data := .dict #[] }).objs.size) (cloFrom_has (cells := X.env.cells) (acc := []) hy))
    rw [← hcl] at e'
    refine ⟨c', e', ?_⟩
    rw [hcl] at e'
    rcases cells_mem (PySem.mem_of_lookup e') with hm | ⟨h1, _, _⟩
    · exact (cm hm).1
    · have := ok.uniq _ h1
      rw [hl] at this; cases this
  have okB : (X.blk s H scope cenv fp).Ok := by
    refine ⟨I.ok.mod, by show cenv.scope.kind = _; rw [hsc]; exact ok.kind, by show cenv.globals = _; rw [← hcenv]; exact I.ok.glob, by show cenv.builtins = _; rw [← hcenv]; exact I.ok.blt, by show s.heap.objs.size ≤ cenv.locals; rw [hL]; exact Nat.le_refl _,
      fun y z c e1 e2 => ?_, fun y hy => ?_, fun y c z e => ?_, I.ok.hd, I.ok.frames, .inl rfl, fun b hb => ⟨?_, fun y c e z => ?_⟩, I.bs, Nat.le_trans I.ok.bsz I.sz, fun b o e hb => ?_, fun b hb z => ?_, I.stack, I.stkFree⟩
    · have e1 : cenv.cells.lookup y = some c := e1
      have e2 : cenv.cells.lookup z = some c := e2
      rw [hcl] at e1 e2
      refine cells_inj (fun p hp => ?_) (fun y z c a b => I.ok.inj y z c (cm a).1 (cm b).1) (PySem.mem_of_lookup e1) (PySem.mem_of_lookup e2)
      rw [Heap.size_push]
      exact Nat.lt_succ_of_lt (cm (y := p.1) (c := p.2) hp).2
    · show ∃ c, cenv.cells.lookup y = some c
      have key : ∀ k, cenv.kindOf y = some k → (k = .cell ∨ k = .free) → ∃ c, cenv.cells.lookup y = some c := fun k hk hk' => by
        unfold Env.kindOf at hk
        rw [hsc] at hk
        obtain ⟨k', e, r⟩ := lookup_relS hk
        have : k' = .cell ∨ k' = .free := by
          rcases r with rfl | ⟨rfl, _⟩
          · exact hk'
          · exact .inr rfl
        rcases this with rfl | rfl
        · obtain ⟨c, hm⟩ := cells_has (n := (s.heap.push { cls := .type "dict", data := .dict #[] }).objs.size) (acc := cloFrom X.env.cells scope.names []) (PySem.mem_of_lookup e)
          obtain ⟨c', e'⟩ := mem_lookup hm
          exact ⟨c', by rw [hcl]; exact e'⟩
        · obtain ⟨c, h1, _⟩ := look e
          exact ⟨c, h1⟩
      rcases hy with hy | hy
      · exact key _ hy (.inl rfl)
      · exact key _ hy (.inr rfl)
    · have z : (scope.names.lookup y == some NameKind.cell) = true := z
      have z : scope.names.lookup y = some .cell := by simpa using z
      have e : cenv.cells.lookup y = some c := e
      rw [hcl] at e
      rcases cells_mem (PySem.mem_of_lookup e) with hm | ⟨_, h2, _⟩
      · rcases cloFrom_mem hm with hm | ⟨h1, _⟩
        · cases hm
        · have q := ok.uniq _ h1
          rw [z] at q; cases q
      · rw [Heap.size_push] at h2
        exact Nat.le_of_succ_le h2
    · show b ≠ cenv.locals
      rw [hL]; exact Nat.ne_of_lt (hfp b hb).2
    · have e : cenv.cells.lookup y = some c := e
      rcases mem e with ⟨h1, _⟩ | ⟨h1, _⟩
      · exact (hfp b hb).1.2.2.2.2.1 y c h1 z
      · have h2 : s.heap.objs.size + 1 ≤ b := by rw [← z]; exact h1
        exact absurd (Nat.lt_of_lt_of_le (hfp b hb).2 (Nat.le_of_succ_le h2)) (Nat.lt_irrefl _)
    · rcases (hfp b hb).1.2.2.2.1 with z | z
      · exact I.ok.noex b o e z
      · exact absurd (Nat.lt_of_lt_of_le (Heap.lt_size e) (Nat.le_trans I.ok.bsz z)) (Nat.lt_irrefl _)
    · rcases List.mem_cons.mp (I.stkSub b z) with z | z
      · exact (hfp b hb).1.2.1 z
      · exact (hfp b hb).1.2.2.1 z
  refine ⟨okB, rfl, I.bare, Un.kept kp, ⟨fun _ => none, ?_, fun i y av e1 e2 e3 => ?_⟩, fun y c e => ?_, ?_, fun y c e => ?_, fun p hp => ?_, I.hok.kept kp, by rw [wipe_length]; exact I.len⟩
  · show Heap.Ns _ cenv.locals _
    rw [hL]
    exact Heap.Ns.keeps (Heap.Ns.new ..) fun b o e => pushCells_keeps _ _ _ _ e
  · obtain ⟨e2, hne⟩ := wipe_some e2
    have hfr : scope.names.lookup y = some .free ∧ (cenv.kindOf y = some .cell ∨ cenv.kindOf y = some .free) := by
      have key : ∀ k, cenv.scope.names.lookup y = some k → k = .local ∨ k = .cell ∨ k = .free → scope.names.lookup y = some .free ∧ (cenv.kindOf y = some .cell ∨ cenv.kindOf y = some .free) := fun k hk hk' => by
        have hk0 := hk
        rw [hsc] at hk
        obtain ⟨k', e, r⟩ := lookup_relS hk
        have no : ¬ (k' = .local ∨ k' = .cell) := fun hh => by
          rcases ok.own _ (PySem.mem_of_lookup e) hh with e' | e'
          · obtain ⟨p, hp, hpy⟩ := List.mem_map.mp e'
            have e3 := ok.ix p hp
            have : p.1 = y := hpy
            rw [this] at e3
            exact hne (List.mem_map.mpr ⟨p, hp, nodup_ix hN e3 e1⟩)
          · exact e' (List.mem_of_getElem? e1)
        rcases r with rfl | ⟨rfl, rfl⟩
        · rcases hk' with rfl | rfl | rfl
          · exact absurd (.inl rfl) no
          · exact absurd (.inr rfl) no
          · exact ⟨e, .inr hk0⟩
        · exact ⟨e, .inl hk0⟩
      have e3 : Vis cenv.scope y := e3
      rcases e3 with e3 | e3 | e3
      · exact key _ e3 (.inl rfl)
      · exact key _ e3 (.inr (.inl rfl))
      · exact key _ e3 (.inr (.inr rfl))
    obtain ⟨m, hn, hl⟩ := I.loc
    have hvis : Vis X.env.scope y := (ok.free _ (PySem.mem_of_lookup hfr.1) rfl).elim (fun k => .inr (.inl k)) (fun k => .inr (.inr k))
    obtain ⟨w, r, q⟩ := hl i y av e1 e2 hvis
    refine ⟨w, r, .inr ⟨hfr.2, ?_⟩⟩
    obtain ⟨c, h1, h2⟩ := look hfr.1
    rcases q with ⟨k, _⟩ | ⟨_, c', e', z⟩
    · have k : X.env.scope.names.lookup y = some .local := k
      rcases ok.free _ (PySem.mem_of_lookup hfr.1) rfl with k' | k' <;> rw [show X.env.scope.names.lookup y = _ from k'] at k <;> cases k
    · rw [h2] at e'; cases e'
      exact ⟨c, h1, z.keeps kp⟩
  · have e : cenv.cells.lookup y = some c := e
    rcases mem e with ⟨h1, _⟩ | ⟨_, z⟩
    · obtain ⟨w, z⟩ := I.cell y c h1
      exact ⟨w, z.keeps kp⟩
    · exact ⟨_, z⟩
  · show H cenv.locals = none
    rw [hL]; exact I.hok.fresh (Nat.le_refl _)
  · have e : cenv.cells.lookup y = some c := e
    rcases mem e with ⟨h1, _⟩ | ⟨h1, _⟩
    · exact I.freeC y c h1
    · exact I.hok.fresh (Nat.le_of_succ_le h1)
  · exact absurd (show p ∈ ([] : List (Addr × Obj)) ++ [] from hp) (by simp)
theorem app_ok {E : Value → Shared → Prop} {D : Addr} {xs : List V} {y : V} {v : Value} {Q : Value → Shared → Prop} (I : Inv X pins σ H s) (hD : H D = some (.lst xs)) (hz : xs.length < sizeLine) (r : RelV y v)
    (h : ∀ s', Inv X pins σ (upd H D (.lst (xs ++ [y]))) s' → Q .none s') : wpAny (model X.prog X.w) X.A (call (.builtin "list.append") [.ref D, v]) Q E s := by
  obtain ⟨hz', its, n, ri, e⟩ := I.hok D _ hD
  have hl := ri.length
  refine append_at (hsz := by rw [List.size_toArray]; omega) e fun h' sb ho' => ?_
  refine h { s with heap := h' } (I.write (t' := s.toks) (by rw [hD]; trivial) (.inl rfl) (fun b u hb q => (sb.2 b hb).trans q) ⟨_, ho'⟩ ⟨by rw [List.length_append]; exact hz, its ++ [v], n + 1, ri.append (.cons r .nil), ?_⟩)
  rw [ho']
  simp
def PTs (X : Cx) (ifs : List Expr) (t : TT) : Prop :=
  ∀ (pins : List (Addr × Obj)) (s : Shared) (σ : St) (H : Hp) (Q : Bool → Hp → Prop), Inv X pins σ H s → t σ H Q →
    wpAny (model X.prog X.w) X.A (forIn ifs true fun c r => if r = true then do let ok ← isTrue c X.env (eval c X.env); pure (ForInStep.yield ok) else pure (ForInStep.yield r)) (TP X pins σ Q) X.xe s
theorem pts_one {c : Expr} {t : TT} (h : PT X c t) : PTs X [c] t := fun pins s σ H Q I hw => wpAny_tests_one (h pins s σ H Q I hw)
end
theorem thnF {α : Type} {t : Sem α} {Q Q' : α → Shared → Prop} {M : Model} {A : Around} {E : Value → Shared → Prop} {s : Shared} (h : wpAny M A t Q (fun _ _ => False) s) (hQ : ∀ a s, Q a s → Q' a s) : wpAny M A t Q' E s := wpAny_mono h hQ fun _ _ z => False.elim z
theorem compLoop_any {prog : Program} {w : World} {A : Around} {R : Result → Shared → Prop} {s : Shared} {elt target iter : Expr} {ifs : List Expr} {scope : Scope} {pos : Pos} {it acc : Value} {env : Env} (I : Nat → Shared → Prop)
    (turn : ∀ n s, I n s → wpAny (model prog w) A (pyNext it) (fun r s₁ => match r with
      | none => R (.ok .next) s₁
      | some v => wpAny (model prog w) A (letOwnedTupleGo target it v) (fun _ s₁' => wpAny (model prog w) A (assign target env v) (fun _ s₂ =>
          wpAny (model prog w) A (forIn ifs true fun c r => if r = true then do let ok ← isTrue c env (eval c env); pure (ForInStep.yield ok) else pure (ForInStep.yield r)) (fun ok s₃ =>
            if ok = true then wpAny (model prog w) A (eval elt env) (fun x s₄ =>
              wpAny (model prog w) A (call (.builtin "list.append") [acc, x]) (fun _ s₅ => ∃ m, m < n ∧ I m s₅) (notedBy (model prog w) A env fun e s' => R (.error e) s') s₄) (notedBy (model prog w) A env fun e s' => R (.error e) s') s₃
            else ∃ m, m < n ∧ I m s₃) (notedBy (model prog w) A env fun e s' => R (.error e) s') s₂) (notedBy (model prog w) A env fun e s' => R (.error e) s') s₁') (notedBy (model prog w) A env fun e s' => R (.error e) s') s₁) (notedBy (model prog w) A env fun e s' => R (.error e) s') s)
    (n : Nat) (h : I n s) :
    codeAny (model prog w) A (.compLoop (.ListComp elt [⟨target, iter, ifs, 0⟩] scope pos) 0 it acc env) R s := by
  refine codeAny_loop rfl I (fun n s hI => ?_) n h
  show wpAny _ A ((compTurn (.ListComp elt [⟨target, iter, ifs, 0⟩] scope pos) 0 it acc env).onRaise (fun x => do noteFrame x env; theTreesLotGoes x)) _ _ s
  refine wpAny_noted ?_
  rw [compTurn_list]
  refine wpAny_bind (wpAny_standAt (wpAny_bind (wpAny_mono (turn n s hI) (fun r s₁ h₁ => ?_) fun _ _ h' => h')))
  cases r with
  | none => exact wpAny_pure h₁
  | some v =>
    refine wpAny_bind (wpAny_mono h₁ (fun _ s₁' h₁' => ?_) fun _ _ h' => h')
    refine wpAny_bind (wpAny_mono h₁' (fun _ s₂ h₂ => wpAny_bind (wpAny_mono h₂ (fun ok s₃ h₃ => ?_) fun _ _ h' => h')) fun _ _ h' => h')
    cases ok with
    | false => exact wpAny_pure ⟨rfl, h₃⟩
    | true =>
      exact wpAny_bind (wpAny_bind (wpAny_mono h₃ (fun x s₄ h₄ => wpAny_bind (wpAny_mono h₄ (fun _ s₅ h₅ => wpAny_pure (wpAny_pure ⟨rfl, h₅⟩)) fun _ _ h' => h')) fun _ _ h' => h'))
section
variable {X : Cx}
def tLc (wi : TI) (g : TG) (tt : TT) (te : TE) (vs : List Nat) : TE := fun σ H Q => wi σ H fun J H1 => ∀ D, H1 D = none → ∃ W : Nat → Nat → Hp → Prop, (∃ m, W 0 m (upd H1 D (.lst []))) ∧ ∀ i m H, W i m H →
  (J.stop i H ∧ Q (.ref D) H) ∨ (J.go i H ∧ ∃ Nx : Hp → Prop, (∀ H', Nx H' → ∃ m', m' < m ∧ W (i + 1) m' H') ∧ ∀ x H', J.yld i H x H' → g x (wipe σ vs) H' fun σ2 H2 => wipe σ2 vs = wipe σ vs ∧ tt σ2 H2 fun b H3 =>
    if b = true then te σ2 H3 fun y H4 => ∃ acc, H4 D = some (.lst acc) ∧ acc.length < sizeLine ∧ Nx (upd H4 D (.lst (acc ++ [y]))) else Nx H3)
theorem lc_core {pins : List (Addr × Obj)} {s : Shared} {σ : St} {H : Hp} {Q : VK} {elt tg iter : Expr} {ifs : List Expr} {scope : Scope} {own : List (Str × Nat)} {pos pos' : Pos} {wi : TI} {g : TG} {tt : TT} {te : TE} {use : Option (Value → Sem Unit)} {Qf : Value → Shared → Prop}
    (hc : X.calm = true) (hN : X.N.Nodup) (I : Inv X pins σ H s) (hi : PI X tg iter wi) (ok : BlkOk X.N X.env.scope scope own)
    (hg : ∀ (s : Shared) (H : Hp) (C : Addr) (cl : List (Str × Addr)) (fp : List Addr), PG (X.blk s H scope (compEnvC scope cl C X.env) fp) tg g) (ht : ∀ (s : Shared) (H : Hp) (C : Addr) (cl : List (Str × Addr)) (fp : List Addr), PTs (X.blk s H scope (compEnvC scope cl C X.env) fp) ifs tt)
    (he : ∀ (s : Shared) (H : Hp) (C : Addr) (cl : List (Str × Addr)) (fp : List Addr), PE (X.blk s H scope (compEnvC scope cl C X.env) fp) elt te) (hs : ∀ x, foldedSetIterable iter X.env x = pure x)
    (h : tLc wi g tt te (own.map (·.2)) σ H Q)
    (hRR : ∀ D C s' m H', Inv X pins σ H' s' → Q (.ref D) H' → s'.heap.Ns C m → FpOk X pins H' C → compPost (model X.prog X.w) X.A X.xe use Qf (.ref D) C (.ok .next) s') :
    wpAny (model X.prog X.w) X.A (comprehension (.ListComp elt [⟨tg, iter, ifs, 0⟩] scope pos) scope X.env pos' (newList []) false (eval iter X.env) use) Qf X.xe s := by
  have hfree : ∀ y ∈ scope.names, y.2 = .free → ∃ c, X.env.cells.lookup y.1 = some c := fun y hy e => by
    rcases ok.free y hy e with k | k
    · exact I.ok.has _ (.inl k)
    · exact I.ok.has _ (.inr k)
  refine wpAny_comprehension_free (use := use) rfl hs (closure_ok hfree) ok.kind (fun y hy e => by rw [ok.uniq y hy, e])
    (thn (hi pins s σ H _ I h) fun xv s1 hx => thn hx fun itv s2 h2 => ?_)
  obtain ⟨it, fp, tn, J, H2, e, I2, T, st2, f2, q⟩ := h2
  subst e
  refine wpAny_newObj_type (newEnv_comp ?_) (by show 0 ≤ sizeLine; decide)
  generalize hD : s2.heap.objs.size = D
  have hDn : H2 D = none := I2.hok.fresh (Nat.le_of_eq hD)
  obtain ⟨W, ⟨m0, w0⟩, turn⟩ := q D hDn
  -- the new list
  generalize hs3 : ({ s2 with heap := s2.heap.push { cls := .type "list", data := .seq ([] : List Value).toArray } } : Shared) = s3
  have I3 : Inv X pins σ (upd H2 D (.lst [])) s3 := by
    rw [← hs3]
    refine I2.laid (t' := s2.toks) (fun b o e => Heap.get?_push_of_some _ e) (Nat.le_of_eq hD) ⟨Nat.zero_le _, [], 0, .nil, ?_⟩
    rw [← hD]
    exact Heap.get?_push_size _ rfl
  have h3 : s3.heap = s2.heap.push { cls := .type "list", data := .seq ([] : List Value).toArray } := by rw [← hs3]
  have sz : ∀ b ∈ fp, b < s2.heap.objs.size := fun b hb => by
    obtain ⟨o, e, _⟩ := T.obj _ _ st2 b hb
    exact Heap.lt_size e
  have f3 : ∀ b ∈ fp, FpOk X pins (upd H2 D (.lst [])) b ∧ b < s3.heap.objs.size := fun b hb => by
    have hlt := sz b hb
    refine ⟨⟨?_, (f2 b hb).2⟩, by rw [h3, Heap.size_push]; exact Nat.lt_succ_of_lt hlt⟩
    rw [upd_ne (by rw [← hD]; exact Nat.ne_of_lt hlt)]
    exact (f2 b hb).1
  have st3 : tn 0 s3.heap := T.keep _ _ _ st2 fun b _ o e => by rw [h3]; exact Heap.get?_push_of_some _ e
  have I4 := block_start I3 ok hN f3
  have pg := hg s3 (upd H2 D (.lst [])) s3.heap.objs.size (cellsFrom (s3.heap.objs.size + 1) scope.names (cloFrom X.env.cells scope.names [])) fp
  have pt := ht s3 (upd H2 D (.lst [])) s3.heap.objs.size (cellsFrom (s3.heap.objs.size + 1) scope.names (cloFrom X.env.cells scope.names [])) fp
  have pe := he s3 (upd H2 D (.lst [])) s3.heap.objs.size (cellsFrom (s3.heap.objs.size + 1) scope.names (cloFrom X.env.cells scope.names [])) fp
  show codeAny _ _ (.compStart (.ListComp elt [⟨tg, iter, ifs, 0⟩] scope pos) 0 (.ref it) (.ref D) (compEnvC scope (cellsFrom (s3.heap.objs.size + 1) scope.names (cloFrom X.env.cells scope.names [])) s3.heap.objs.size X.env)) (compPost (model X.prog X.w) X.A X.xe use Qf (.ref D) s3.heap.objs.size) { s3 with heap := pushCells (s3.heap.push { cls := .type "dict", data := .dict #[] }) scope.names }
  have nfp : ∀ b ∈ fp, (upd H2 D (.lst [])) b = none := fun b hb => (f3 b hb).1.1
  generalize hce : compEnvC scope (cellsFrom (s3.heap.objs.size + 1) scope.names (cloFrom X.env.cells scope.names [])) s3.heap.objs.size X.env = ce at I4 pg pt pe ⊢
  have cL : ce.locals = s3.heap.objs.size := by subst hce; rfl
  generalize hH3 : upd H2 D (.lst []) = H3 at I3 I4 pg pt pe w0 nfp f3
  generalize hs4 : ({ s3 with heap := pushCells (s3.heap.push { cls := .type "dict", data := .dict #[] }) scope.names } : Shared) = s4 at I4 ⊢
  have st4 : tn 0 s4.heap := T.keep _ _ _ st3 fun b _ o e => by rw [← hs4]; exact pushCells_keeps _ _ _ _ (Heap.get?_push_of_some _ e)
  have stat : ∀ {σ' : St} {H' : Hp} {s' : Shared}, Inv (X.blk s3 H3 scope ce fp) [] σ' H' s' → (∀ b ∈ fp, H' b = none) → ∀ b ∈ fp, FpOk (X.blk s3 H3 scope ce fp) [] H' b := fun {σ' H' s'} I' hn b hb =>
    ⟨hn b hb, (I'.ok.exf b hb).1, I'.ok.exfs b hb, .inl hb, fun x c e => (I'.ok.exf b hb).2 x c e, fun p hp => absurd (show p ∈ ([] : List (Addr × Obj)) ++ [] from hp) (by simp)⟩
  have loop : codeAny (model X.prog X.w) X.A (.compLoop (.ListComp elt [⟨tg, iter, ifs, 0⟩] scope pos) 0 (.ref it) (.ref D) ce) (compPost (model X.prog X.w) X.A X.xe use Qf (.ref D) s3.heap.objs.size) s4 := by
    refine compLoop_any (fun n s' => ∃ i H', Inv (X.blk s3 H3 scope ce fp) [] (wipe σ (own.map (·.2))) H' s' ∧ tn i s'.heap ∧ (∀ b ∈ fp, H' b = none) ∧ W i n H') ?_ m0 ⟨0, H3, I4, st4, nfp, w0⟩
    rintro n s5 ⟨i, H5, I5, st5, n5, w5⟩
    rcases turn i n H5 w5 with ⟨stop, qq⟩ | ⟨go, Nx, hNx, step⟩
    · have td := T.done (X.blk s3 H3 scope ce fp) rfl rfl rfl hc i [] s5 _ H5 (fun _ _ => False) I5 (stat I5 n5) st5 stop
      refine thnF td fun r s6 ⟨hr, I6⟩ => ?_
      subst hr
      -- back in the def's context
      have I7 : Inv X pins σ H5 s6 := I3.call' (ch := fp) I6.os I6.base I6.hok I6.bare fun b hb => ⟨(f3 b hb).1.2.2.2.1, (f3 b hb).1.2.1, (f3 b hb).1.2.2.2.2.1, (f3 b hb).1.2.2.2.2.2⟩
      have nC : H5 s3.heap.objs.size = none := by
        have z : H5 ce.locals = none := I6.free
        rw [cL] at z
        exact z
      obtain ⟨m, hn, _⟩ := I6.loc
      have hn : s6.heap.Ns ce.locals m := hn
      rw [cL] at hn
      exact hRR D s3.heap.objs.size s6 m H5 I7 qq hn (I3.fpOk (Nat.le_refl _) nC)
    · have ti := T.item (X.blk s3 H3 scope ce fp) rfl rfl rfl hc i [] s5 _ H5 (fun _ _ => False) I5 (stat I5 n5) st5 go
      refine thnF ti fun r s6 ⟨u, hr, h6⟩ => ?_
      subst hr
      refine thnF h6 fun _ s7 ⟨x, H7, I7, r7, y7, st7, n7⟩ => ?_
      have I7' := I7.pinned (stat I7 n7) (T.obj _ _ st7)
      refine thnF (pg _ s7 _ H7 x u _ I7' r7 (step x H7 y7)) fun _ s8 ⟨σ8, H8, I8, hw8, q8⟩ => ?_
      refine thnF (pt _ s8 σ8 H8 _ I8 q8) fun b s9 ⟨H9, I9, q9⟩ => ?_
      -- the turn's end
      have fin : ∀ {s' : Shared} {H' : Hp}, Inv (X.blk s3 H3 scope ce fp) ([] ++ pinsAt fp s7.heap) σ8 H' s' → Nx H' → ∃ m, m < n ∧ ∃ i H', Inv (X.blk s3 H3 scope ce fp) [] (wipe σ (own.map (·.2))) H' s' ∧ tn i s'.heap ∧ (∀ b ∈ fp, H' b = none) ∧ W i m H' := fun {s' H'} I' nx => by
        obtain ⟨m', hm, w'⟩ := hNx H' nx
        have pin' : ∀ b ∈ fp, ∀ o, s7.heap.get? b = some o → s'.heap.get? b = some o ∧ H' b = none := fun b hb o e =>
          let z := I'.pin (b, o) (List.mem_append_right _ (List.mem_append_right _ (mem_pinsAt hb e)))
          ⟨z.1, z.2.1⟩
        have hl : (wipe σ (own.map (·.2))).length = σ8.length := by rw [← hw8, wipe_length]
        refine ⟨m', hm, i + 1, H', (I'.unpinned (pins := [])).weak hl (fun j v e => ?_), T.keep _ _ _ st7 fun b hb o e => (pin' b hb o e).1, fun b hb => ?_, w'⟩
        · rw [← hw8] at e
          exact (wipe_some e).1
        · obtain ⟨o, e, _⟩ := T.obj _ _ st7 b hb
          exact (pin' b hb o e).2
      cases b with
      | false =>
        simp only [Bool.false_eq_true, if_false] at q9 ⊢
        exact fin I9 q9
      | true =>
        simp only [if_true] at q9 ⊢
        refine thnF (pe _ s9 σ8 H9 _ I9 q9) fun z s10 ⟨yv, H10, I10, r10, acc, hD10, hz10, nx⟩ => ?_
        exact app_ok (X := X.blk s3 H3 scope ce fp) I10 hD10 hz10 r10 fun s11 I11 => fin I11 nx
  exact codeAny_compStart_list loop (T.self X.A 0 _ _ _ st4 loop)
theorem pe_lc {elt tg iter : Expr} {ifs : List Expr} {scope : Scope} {own : List (Str × Nat)} {pos : Pos} {wi : TI} {g : TG} {tt : TT} {te : TE} (hc : X.calm = true) (hN : X.N.Nodup) (hi : PI X tg iter wi) (ok : BlkOk X.N X.env.scope scope own)
    (hg : ∀ (s : Shared) (H : Hp) (C : Addr) (cl : List (Str × Addr)) (fp : List Addr), PG (X.blk s H scope (compEnvC scope cl C X.env) fp) tg g) (ht : ∀ (s : Shared) (H : Hp) (C : Addr) (cl : List (Str × Addr)) (fp : List Addr), PTs (X.blk s H scope (compEnvC scope cl C X.env) fp) ifs tt)
    (he : ∀ (s : Shared) (H : Hp) (C : Addr) (cl : List (Str × Addr)) (fp : List Addr), PE (X.blk s H scope (compEnvC scope cl C X.env) fp) elt te) (hs : ∀ x, foldedSetIterable iter X.env x = pure x := by intro _; rfl) :
    PE X (.ListComp elt [⟨tg, iter, ifs, 0⟩] scope pos) (tLc wi g tt te (own.map (·.2))) := by
  intro pins s σ H Q I h
  rw [eval_ListComp]
  refine lc_core hc hN I hi ok hg ht he hs h fun D C s' m H' I' q hn f => ⟨m, hn, fun h'' sb => ?_⟩
  obtain ⟨f0, f1, f2, f3, f4, f5⟩ := f
  exact ⟨.ref D, H', I'.turned (t' := s'.toks) (fun b o hb e => (sb.2 b hb).trans e) f0 f1 f3 f4 f5, rfl, q⟩
end
theorem lc_list {K : PySem.W.Frag} {a : Addr} {xs : List V} {g : TG} {tt : TT} {te : TE} {vs : List Nat} {σ : St} {H1 : Hp} {D : Addr} {Qd : Hp → Prop} (Pv : Nat → Hp → Prop) (h0 : Pv 0 (upd H1 D (.lst []))) (hl : ∀ i H, i ≤ xs.length → Pv i H → SqL K H a xs)
    (hs : ∀ i x H, xs[i]? = some x → Pv i H → g x (wipe σ vs) H fun σ2 H2 => wipe σ2 vs = wipe σ vs ∧ tt σ2 H2 fun b H3 =>
      if b = true then te σ2 H3 fun y H4 => ∃ acc, H4 D = some (.lst acc) ∧ acc.length < sizeLine ∧ Pv (i + 1) (upd H4 D (.lst (acc ++ [y]))) else Pv (i + 1) H3) (hd : ∀ H, Pv xs.length H → Qd H) :
    ∃ W : Nat → Nat → Hp → Prop, (∃ m, W 0 m (upd H1 D (.lst []))) ∧ ∀ i m H, W i m H →
      ((Itl K a).stop i H ∧ Qd H) ∨ ((Itl K a).go i H ∧ ∃ Nx : Hp → Prop, (∀ H', Nx H' → ∃ m', m' < m ∧ W (i + 1) m' H') ∧ ∀ x H', (Itl K a).yld i H x H' → g x (wipe σ vs) H' fun σ2 H2 => wipe σ2 vs = wipe σ vs ∧ tt σ2 H2 fun b H3 =>
        if b = true then te σ2 H3 fun y H4 => ∃ acc, H4 D = some (.lst acc) ∧ acc.length < sizeLine ∧ Nx (upd H4 D (.lst (acc ++ [y]))) else Nx H3) := by
  refine ⟨fun i m H => m = xs.length - i ∧ i ≤ xs.length ∧ Pv i H, ⟨xs.length, by simp, Nat.zero_le _, h0⟩, ?_⟩
  rintro i m H ⟨rfl, hi, p⟩
  have q := hl i H hi p
  by_cases hlt : i < xs.length
  · refine .inr ⟨⟨xs, xs[i], q, by simp [hlt]⟩, Pv (i + 1), fun H' p' => ⟨xs.length - (i + 1), by omega, rfl, hlt, p'⟩, fun x H' y => ?_⟩
    obtain ⟨e, y⟩ := y
    subst e
    exact hs i x _ (y xs q) p
  · have e : i = xs.length := by omega
    subst e
    exact .inl ⟨⟨xs, q, Nat.le_refl _⟩, hd H p⟩
def blkC (N : List Str) (sc scope : Scope) (own : List (Str × Nat)) : Bool :=
  (match scope.kind with | .function => true | _ => false) && (scope.names.all fun y => decide (scope.names.lookup y.1 = some y.2)) && (own.all fun p => decide (N[p.2]? = some p.1)) &&
    (scope.names.all fun y => match y.2 with
      | .free => (match sc.names.lookup y.1 with | some .cell => true | some .free => true | _ => false)
      | .local => decide (y.1 ∈ own.map (·.1)) || decide (y.1 ∉ N)
      | .cell => decide (y.1 ∈ own.map (·.1)) || decide (y.1 ∉ N)
      | _ => true)
theorem blkOk_by {N : List Str} {sc scope : Scope} {own : List (Str × Nat)} (h : blkC N sc scope own = true) : BlkOk N sc scope own := by
  unfold blkC at h
  simp only [Bool.and_eq_true, List.all_eq_true, decide_eq_true_eq] at h
  obtain ⟨⟨⟨h1, h2⟩, h3⟩, h4⟩ := h
  refine ⟨?_, h2, h3, fun y hy e => ?_, fun y hy e => ?_⟩
  · split at h1
    · assumption
    · cases h1
  · have q := h4 y hy
    simp only [e] at q
    split at q <;> first | exact .inl (by assumption) | exact .inr (by assumption) | cases q
  · have q := h4 y hy
    rcases e with e | e <;> (simp only [e, Bool.or_eq_true, decide_eq_true_eq] at q; exact q)
end L2
namespace L2
open PySem PySem.Spec PyProof.Rows
section
variable {κ : Type} [DecidableEq κ]
def valV (kvs : List (κ × V)) (k : κ) : Option V := (kvs.find? fun kv => decide (kv.1 = k)).map (·.2)
def putK (kvs : List (κ × V)) (k : κ) (v : V) : List (κ × V) :=
  if (kvs.any fun kv => decide (kv.1 = k)) = true then kvs.map (fun kv => if kv.1 = k then (kv.1, v) else kv) else kvs ++ [(k, v)]
def dropK (kvs : List (κ × V)) (k : κ) : List (κ × V) := kvs.filter fun kv => decide (kv.1 ≠ k)
theorem valV_pos {p : κ × V} {r : List (κ × V)} {k : κ} (e : p.1 = k) : valV (p :: r) k = some p.2 := by simp [valV, List.find?_cons, e]
theorem valV_neg {p : κ × V} {r : List (κ × V)} {k : κ} (e : ¬ p.1 = k) : valV (p :: r) k = valV r k := by simp [valV, List.find?_cons, e]
theorem valV_any (k : κ) : ∀ kvs : List (κ × V), (kvs.any fun kv => decide (kv.1 = k)) = (valV kvs k).isSome
  | [] => rfl
  | p :: r => by
    rw [List.any_cons]
    by_cases e : p.1 = k
    · simp only [valV_pos e, decide_eq_true e, Bool.true_or, Option.isSome_some]
    · rw [valV_neg e, decide_eq_false e, Bool.false_or]; exact valV_any k r
theorem valV_map (k j : κ) (y : V) : ∀ kvs : List (κ × V), valV (kvs.map fun kv => if kv.1 = k then (kv.1, y) else kv) j = (valV kvs j).map fun x => if j = k then y else x
  | [] => rfl
  | p :: r => by
    have ih := valV_map k j y r
    rw [List.map_cons]
    by_cases h : p.1 = k
    · rw [if_pos h]
      by_cases e : p.1 = j
      · rw [valV_pos (p := (p.1, y)) e, valV_pos e, Option.map_some, if_pos (e.symm.trans h)]
      · rw [valV_neg (p := (p.1, y)) e, valV_neg e, ih]
    · rw [if_neg h]
      by_cases e : p.1 = j
      · rw [valV_pos (p := p) e, valV_pos e, Option.map_some, if_neg (fun z => h (e.trans z))]
      · rw [valV_neg (p := p) e, valV_neg e, ih]
theorem valV_snoc (k j : κ) (y : V) : ∀ kvs : List (κ × V), valV kvs k = none → valV (kvs ++ [(k, y)]) j = if j = k then some y else valV kvs j
  | [], _ => by
    by_cases e : k = j
    · rw [if_pos e.symm]; exact valV_pos (p := (k, y)) e
    · rw [if_neg (fun z => e z.symm)]; exact valV_neg (p := (k, y)) e
  | p :: r, hn => by
    rw [List.cons_append]
    have hk : ¬ p.1 = k := fun z => by rw [valV_pos z] at hn; cases hn
    rw [valV_neg hk] at hn
    have ih := valV_snoc k j y r hn
    by_cases e : p.1 = j
    · rw [valV_pos e, valV_pos e, if_neg (fun z => hk (e.trans z))]
    · rw [valV_neg e, valV_neg e, ih]
theorem valV_put (kvs : List (κ × V)) (k j : κ) (y : V) : valV (putK kvs k y) j = if j = k then some y else valV kvs j := by
  unfold putK
  by_cases a : (kvs.any fun kv => decide (kv.1 = k)) = true
  · rw [if_pos a, valV_map]
    rw [valV_any] at a
    by_cases e : j = k
    · obtain ⟨x, hx⟩ := Option.isSome_iff_exists.mp a
      rw [if_pos e, e, hx, Option.map_some, if_pos rfl]
    · rw [if_neg e]
      cases valV kvs j with
      | none => rfl
      | some x => rw [Option.map_some, if_neg e]
  · rw [if_neg a]
    refine valV_snoc k j y kvs ?_
    rw [valV_any] at a
    cases q : valV kvs k with
    | none => rfl
    | some x => rw [q] at a; exact (a rfl).elim
theorem length_putK (kvs : List (κ × V)) (k : κ) (v : V) : (putK kvs k v).length ≤ kvs.length + 1 := by
  unfold putK
  split
  · rw [List.length_map]; omega
  · rw [List.length_append, List.length_cons, List.length_nil]; omega
theorem RelO.isSome_eq {o : Option V} {u : Option Value} (r : RelO o u) : o.isSome = u.isSome := by
  cases o with
  | none => cases u with
    | none => rfl
    | some _ => exact (show False from r).elim
  | some _ => cases u with
    | none => exact (show False from r).elim
    | some _ => rfl
theorem RelO.getD {o : Option V} {u : Option Value} {d : V} {d' : Value} (r : RelO o u) (rd : RelV d d') : RelV (o.getD d) (u.getD d') := by
  cases o with
  | none => cases u with
    | none => exact rd
    | some _ => exact (show False from r).elim
  | some _ => cases u with
    | none => exact (show False from r).elim
    | some _ => exact r
theorem KV.val {kvs : List (κ × V)} {vs : List (κ × Value)} (r : KV kvs vs) (k : κ) : RelO (valV kvs k) (valueAt vs k) := by
  unfold KV at r
  induction r with
  | nil => exact True.intro
  | @cons p q ps qs h t ih =>
    obtain ⟨h1, h2⟩ := h
    by_cases e : p.1 = k
    · have e' : q.1 = k := h1.symm.trans e
      have b : valueAt (q :: qs) k = some q.2 := by simp [valueAt, List.find?_cons, e']
      rw [valV_pos e, b]; exact h2
    · have e' : ¬ q.1 = k := fun z => e (h1.trans z)
      have b : valueAt (q :: qs) k = valueAt qs k := by simp [valueAt, List.find?_cons, e']
      rw [valV_neg e, b]; exact ih
theorem KV.any {kvs : List (κ × V)} {vs : List (κ × Value)} (r : KV kvs vs) (k : κ) : (kvs.any fun kv => decide (kv.1 = k)) = vs.any fun kv => decide (kv.1 = k) := by
  unfold KV at r
  induction r with
  | nil => rfl
  | cons h t ih => rw [List.any_cons, List.any_cons, ih, h.1]
theorem KV.repl {kvs : List (κ × V)} {vs : List (κ × Value)} (r : KV kvs vs) (k : κ) {y : V} {u : Value} (ry : RelV y u) :
    KV (kvs.map fun kv => if kv.1 = k then (kv.1, y) else kv) (vs.map fun kv => if kv.1 = k then (kv.1, u) else kv) := by
  unfold KV at r ⊢
  induction r with
  | nil => exact .nil
  | @cons p q ps qs h t ih =>
    rw [List.map_cons, List.map_cons]
    refine .cons ?_ ih
    obtain ⟨h1, h2⟩ := h
    by_cases e : p.1 = k
    · rw [if_pos e, if_pos (h1.symm.trans e)]; exact ⟨h1, ry⟩
    · rw [if_neg e, if_neg (fun z => e (h1.trans z))]; exact ⟨h1, h2⟩
theorem KV.put {kvs : List (κ × V)} {vs : List (κ × Value)} (r : KV kvs vs) (k : κ) {y : V} {u : Value} (ry : RelV y u) : KV (putK kvs k y) (stored vs k u) := by
  unfold putK stored
  rw [r.any k]
  by_cases e : (vs.any fun kv => decide (kv.1 = k)) = true
  · rw [if_pos e, if_pos e]; exact r.repl k ry
  · rw [if_neg e, if_neg e]; exact Paired.snoc r ⟨rfl, ry⟩
theorem KV.drop {kvs : List (κ × V)} {vs : List (κ × Value)} (r : KV kvs vs) (k : κ) : KV (dropK kvs k) (without vs k) := by
  unfold KV at r ⊢
  unfold dropK without
  induction r with
  | nil => exact .nil
  | @cons p q ps qs h t ih =>
    obtain ⟨h1, h2⟩ := h
    rw [List.filter_cons, List.filter_cons]
    by_cases e : p.1 = k
    · have a : ¬ decide (p.1 ≠ k) = true := by simp [e]
      have b : ¬ decide (q.1 ≠ k) = true := by simp [h1.symm.trans e]
      rw [if_neg a, if_neg b]; exact ih
    · have e' : ¬ q.1 = k := fun z => e (h1.trans z)
      have a : decide (p.1 ≠ k) = true := by simp [e]
      have b : decide (q.1 ≠ k) = true := by simp [e']
      rw [if_pos a, if_pos b]; exact .cons ⟨h1, h2⟩ ih
theorem KV.keys {kvs : List (κ × V)} {vs : List (κ × Value)} (r : KV kvs vs) : kvs.map (·.1) = vs.map (·.1) := by
  unfold KV at r
  induction r with
  | nil => rfl
  | cons h t ih => rw [List.map_cons, List.map_cons, ih, h.1]
theorem KV.length {kvs : List (κ × V)} {vs : List (κ × Value)} (r : KV kvs vs) : kvs.length = vs.length := Paired.length r
end
theorem kV_is {P : Program} {w : World} {k : Key} {u : Value} (r : RelV (kV k) u) : (mixKind P w).is k u = true := by
  cases k with
  | inl i => obtain ⟨t, e⟩ := (show ∃ t, u = Value.int i t from r); subst e; exact mixKind_int P w i t
  | inr x => obtain ⟨t, e⟩ := (show ∃ t, u = Value.str x t from r); subst e; exact mixKind_str P w x t
theorem items_are {P : Program} {w : World} : ∀ {ks : List Key} {us : List Value}, Vals (ks.map kV) us → ItemsAre (mixKind P w) ks us
  | [], _, r => by rw [List.map_nil] at r; cases r; exact .nil
  | k :: ks, _, r => by
    rw [List.map_cons] at r
    cases r with
    | cons h t => exact .cons (kV_is h) (items_are t)
abbrev KT (H : Hp) : List (List Key × V) → List (List Key × Addr × Value) → Prop := Paired fun p q => p.1 = q.1 ∧ H q.2.1 = some (.tup (p.1.map kV)) ∧ RelV p.2 q.2.2
theorem KT.val {H : Hp} {kvs : List (List Key × V)} {xs : List (List Key × Addr × Value)} (r : KT H kvs xs) (k : List Key) : RelO (valV kvs k) ((atKey xs k).map (·.2)) := by
  induction r with
  | nil => exact True.intro
  | @cons p q ps qs h t ih =>
    obtain ⟨h1, _, h2⟩ := h
    by_cases e : p.1 = k
    · have e' : q.1 = k := h1.symm.trans e
      have b : atKey (q :: qs) k = some q.2 := by simp [atKey, List.find?_cons, e']
      rw [valV_pos e, b]; exact h2
    · have e' : ¬ q.1 = k := fun z => e (h1.trans z)
      have b : atKey (q :: qs) k = atKey qs k := by simp [atKey, List.find?_cons, e']
      rw [valV_neg e, b]; exact ih
theorem KT.repl {H : Hp} {kvs : List (List Key × V)} {xs : List (List Key × Addr × Value)} (r : KT H kvs xs) (k : List Key) {y : V} {u : Value} (ry : RelV y u) :
    KT H (kvs.map fun kv => if kv.1 = k then (kv.1, y) else kv) (xs.map (putAt k u)) := by
  induction r with
  | nil => exact .nil
  | @cons p q ps qs h t ih =>
    rw [List.map_cons, List.map_cons]
    refine .cons ?_ ih
    obtain ⟨h1, h2, h3⟩ := h
    unfold putAt
    by_cases e : p.1 = k
    · rw [if_pos e, if_pos (h1.symm.trans e)]; exact ⟨h1, h2, ry⟩
    · rw [if_neg e, if_neg (fun z => e (h1.trans z))]; exact ⟨h1, h2, h3⟩
theorem KT.put {H : Hp} {kvs : List (List Key × V)} {xs : List (List Key × Addr × Value)} (r : KT H kvs xs) (k : List Key) {b : Addr} {y : V} {u : Value} (hb : H b = some (.tup (k.map kV))) (ry : RelV y u) :
    KT H (putK kvs k y) (storedH xs k b u) := by
  have e : (kvs.any fun kv => decide (kv.1 = k)) = (atKey xs k).isSome := by
    rw [valV_any, (r.val k).isSome_eq, Option.isSome_map]
  unfold putK storedH
  rw [e]
  by_cases q : (atKey xs k).isSome = true
  · rw [if_pos q, if_pos q]; exact r.repl k ry
  · rw [if_neg q, if_neg q]; exact Paired.snoc r ⟨rfl, hb, ry⟩
theorem KT.keeps {H H' : Hp} {kvs : List (List Key × V)} {xs : List (List Key × Addr × Value)} (r : KT H kvs xs) (ht : ∀ b ys, H b = some (.tup ys) → H' b = some (.tup ys)) : KT H' kvs xs :=
  Paired.mapP r fun _ _ z => ⟨z.1, ht _ _ z.2.1, z.2.2⟩
section
variable {P : Program} {w : World} {H : Hp} {h : Heap} {a : Addr}
theorem rd_of {u : HO} (ok : HOk P w H h) (e : Rd H a u) : ObjOk P w H h a u := e.ok ok
theorem dk_rd {kvs : List (Key × V)} (ok : HOk P w H h) (e : Rd H a (.dK kvs)) : kvs.length ≤ sizeLine ∧ (a == sysModules) = false ∧ ∃ vs, KV kvs vs ∧ h.DictOf (mixKind P w) a vs :=
  show ObjOk P w H h a (.dK kvs) from rd_of ok e
theorem dk_of {kvs : List (Key × V)} (ok : HOk P w H h) (e : H a = some (.dK kvs)) : kvs.length ≤ sizeLine ∧ (a == sysModules) = false ∧ ∃ vs, KV kvs vs ∧ h.DictOf (mixKind P w) a vs := dk_rd ok (.inl e)
theorem key_of {ks : List Key} (ok : HOk P w H h) (e : H a = some (.tup (ks.map kV))) : (tupleKind (mixKind P w)).is h ks a := by
  obtain ⟨_, its, r, o, h1, h2, n, h3⟩ := (show ObjOk P w H h a (.tup (ks.map kV)) from ok a _ e)
  exact ⟨o, its.toArray, n, h1, h2, h3, by simpa using items_are r⟩
theorem dt_rd {kvs : List (List Key × V)} (ok : HOk P w H h) (e : Rd H a (.dT kvs)) : kvs.length ≤ sizeLine ∧ (a == sysModules) = false ∧
    ∃ xs, KT H kvs xs ∧ h.DictOfH (tupleKind (mixKind P w)) a xs := by
  obtain ⟨z, y, xs, r, o, es, ep, h1, h2, h3, h4, h5⟩ := (show ObjOk P w H h a (.dT kvs) from rd_of ok e)
  refine ⟨z, y, xs, r, o, es, ep, h1, h2, h3, h4, fun x hx => ?_, h5⟩
  have all : ∀ {l : List (List Key × V)} {m : List (List Key × Addr × Value)}, KT H l m → ∀ x ∈ m, (tupleKind (mixKind P w)).is h x.1 x.2.1 := by
    intro l m q
    induction q with
    | nil => intro x hx; exact nomatch hx
    | @cons p q ps qs hq t ih =>
      intro x hx
      rcases List.mem_cons.mp hx with e | hx
      · subst e
        exact key_of ok (by rw [← hq.1]; exact hq.2.1)
      · exact ih x hx
  exact all r x hx
theorem dt_of {kvs : List (List Key × V)} (ok : HOk P w H h) (e : H a = some (.dT kvs)) : kvs.length ≤ sizeLine ∧ (a == sysModules) = false ∧
    ∃ xs, KT H kvs xs ∧ h.DictOfH (tupleKind (mixKind P w)) a xs := dt_rd ok (.inl e)
end
def DGet (H : Hp) (a : Addr) (y : V) (r : Option V) : Prop :=
  (∃ kvs k, Rd H a (.dK kvs) ∧ y = kV k ∧ r = valV kvs k) ∨ ∃ kvs k b, Rd H a (.dT kvs) ∧ y = .ref b ∧ H b = some (.tup (k.map kV)) ∧ r = valV kvs k
def DPut (H : Hp) (a : Addr) (y v : V) (H' : Hp) : Prop :=
  (∃ kvs k, H a = some (.dK kvs) ∧ y = kV k ∧ kvs.length < sizeLine ∧ H' = upd H a (.dK (putK kvs k v))) ∨
  ∃ kvs k b, H a = some (.dT kvs) ∧ y = .ref b ∧ H b = some (.tup (k.map kV)) ∧ kvs.length < sizeLine ∧ H' = upd H a (.dT (putK kvs k v))
theorem DGet.k {H : Hp} {a : Addr} {kvs : List (Key × V)} {k : Key} (e : H a = some (.dK kvs)) : DGet H a (kV k) (valV kvs k) := .inl ⟨kvs, k, .inl e, rfl, rfl⟩
theorem DGet.t {H : Hp} {a b : Addr} {kvs : List (List Key × V)} {k : List Key} (e : H a = some (.dT kvs)) (eb : H b = some (.tup (k.map kV))) : DGet H a (.ref b) (valV kvs k) := .inr ⟨kvs, k, b, .inl e, rfl, eb, rfl⟩
theorem DPut.k {H : Hp} {a : Addr} {kvs : List (Key × V)} {k : Key} {v : V} (e : H a = some (.dK kvs)) (hl : kvs.length < sizeLine) : DPut H a (kV k) v (upd H a (.dK (putK kvs k v))) := .inl ⟨kvs, k, e, rfl, hl, rfl⟩
theorem DPut.t {H : Hp} {a b : Addr} {kvs : List (List Key × V)} {k : List Key} {v : V} (e : H a = some (.dT kvs)) (eb : H b = some (.tup (k.map kV))) (hl : kvs.length < sizeLine) :
    DPut H a (.ref b) v (upd H a (.dT (putK kvs k v))) := .inr ⟨kvs, k, b, e, rfl, eb, hl, rfl⟩
section
variable {X : Cx} {pins : List (Addr × Obj)} {σ : St} {H : Hp} {s : Shared} {a : Addr} {y v : V} {u r : Value} {o : Option V} {A : Around} {E : Value → Shared → Prop}
theorem Inv.big (I : Inv X pins σ H s) : sysModules < s.heap.objs.size := by
  have h : mainGlobals < s.heap.objs.size := (I.mod.glob.keeps I.bk).lt
  exact Nat.lt_trans (by decide) h
theorem d_getItem {Q : Value → Shared → Prop} (hu : A.units + 1 < cLine) (I : Inv X pins σ H s) (g : DGet H a y (some v)) (ry : RelV y u) (h : ∀ w' s', Inv X pins σ H s' → RelV v w' → Q w' s') :
    wpAny (model X.prog X.w) A (getItem (.ref a) u) Q E s := by
  rcases g with ⟨kvs, k, e, ey, l⟩ | ⟨kvs, k, b, e, ey, eb, l⟩
  · subst ey
    obtain ⟨z, hd, vs, rel, dd⟩ := dk_rd I.hok e
    obtain ⟨w', hw, rw'⟩ := RelO.some_of (v := v) (o := valueAt vs k) (by rw [l]; exact rel.val k)
    exact wpAny_getItem_of (kV_is ry) dd.mapOf hw (h w' _ (I.tok _) rw')
  · subst ey
    cases (show u = Value.ref b from ry)
    obtain ⟨z, hd, xs, rel, dd⟩ := dt_rd I.hok e
    obtain ⟨w', hw, rw'⟩ := RelO.some_of (v := v) (o := (atKey xs k).map (·.2)) (by rw [l]; exact rel.val k)
    obtain ⟨p, hp, hp2⟩ := Option.map_eq_some_iff.mp hw
    refine wpAny_getItem_heap (tupleKind_room_in1 hu) (key_of I.hok eb) dd hp ?_
    rw [hp2]
    exact h w' _ (I.tok _) rw'
theorem d_write {h' : Heap} {t' : Nat} {ob : HO} (I : Inv X pins σ H s) (mu : Mut (H a)) (hs : Heap.SameBut a s.heap h') (he : ∃ q, h'.get? a = some q) (new : ObjOk X.prog X.w (upd H a ob) h' a ob) :
    Inv X pins σ (upd H a ob) { s with heap := h', toks := t' } :=
  I.write (x := a) (e := a) mu (.inl rfl) (fun b q hb z => (hs.2 b hb).trans z) he new
theorem dk_new {P : Program} {w : World} {H' : Hp} {h' : Heap} {kvs : List (Key × V)} {vs : List (Key × Value)} (z : kvs.length ≤ sizeLine) (hd : (a == sysModules) = false) (rel : KV kvs vs) (dd : h'.DictOf (mixKind P w) a vs) :
    ObjOk P w H' h' a (.dK kvs) := ⟨z, hd, vs, rel, dd⟩
theorem d_setItem {H' : Hp} {Q : Unit → Shared → Prop} (hu : A.units + 1 < cLine) (I : Inv X pins σ H s) (g : DPut H a y v H') (ry : RelV y u) (rv : RelV v r) (h : ∀ s', Inv X pins σ H' s' → Q () s') :
    wpAny (model X.prog X.w) A (setItem (.ref a) u r) Q E s := by
  rcases g with ⟨kvs, k, e, ey, l, eH⟩ | ⟨kvs, k, b, e, ey, eb, l, eH⟩
  · subst ey eH
    obtain ⟨z, hd, vs, rel, dd⟩ := dk_of I.hok e
    have hz : vs.length ≤ sizeLine := by rw [← rel.length]; exact z
    have hl : (putK kvs k v).length ≤ sizeLine := by have := length_putK kvs k v; omega
    refine wpAny_setItem_pairs (hsz := hz) (kV_is ry) dd fun h' dd' hs => h _ ?_
    have he : ∃ q, h'.get? a = some q := let ⟨q, _, _, hq, _⟩ := dd'; ⟨q, hq⟩
    exact d_write I (by rw [e]; exact True.intro) hs he (dk_new hl hd (rel.put k rv) dd')
  · subst ey eH
    cases (show u = Value.ref b from ry)
    obtain ⟨z, hd, xs, rel, dd⟩ := dt_of I.hok e
    have hz : xs.length ≤ sizeLine := by rw [← Paired.length rel]; exact z
    have hl : (putK kvs k v).length ≤ sizeLine := by have := length_putK kvs k v; omega
    refine wpAny_setItem_heap (hsz := hz) (tupleKind_room_in1 hu) (key_of I.hok eb) dd fun h' dd' hs => h _ ?_
    obtain ⟨q, es, ep, hq, h2, h3, h4, _, h5⟩ := dd'
    refine d_write I (by rw [e]; exact True.intro) hs ⟨q, hq⟩ ⟨hl, hd, _, (rel.put k eb rv).keeps fun c ys ec => ?_, q, es, ep, hq, h2, h3, h4, h5⟩
    rw [upd_ne (ne_of ec e (fun z => nomatch z))]
    exact ec
end
def NoSl (i : Expr) : Prop := ∀ ov iv, subscripted i false ov iv = operate [ov, iv] (getItem ov iv)
theorem subD_of {prog : Program} {w : World} {A : Around} {E : Value → Shared → Prop} {s : Shared} {env : Env} {value slice : Expr} {pos : Pos} {T id : String} {Q : Value → Shared → Prop}
    (hl : typeLookup (.type T) "__getitem__" = pure (some (.builtin id))) (hs : NoSl slice)
    (h : wpAny (model prog w) A (eval value env) (fun o s₁ => wpAny (model prog w) A (eval slice env) (fun i s₂ => s₂.TypeIs o T ∧ wpAny (model prog w) A (getItem o i) Q E s₂) E s₁) E s) :
    wpAny (model prog w) A (eval (.Subscript value slice pos) env) Q E s := by
  refine Subscript_ (wpAny_mono h (fun o s₁ h₁ => wpAny_mono h₁ (fun i s₂ h₂ => ?_) fun _ _ x => x) fun _ _ x => x)
  obtain ⟨hT, h₂⟩ := h₂
  unfold subscriptTail
  refine wpAny_bind ?_
  rw [getitemInPython_of_ne hT.not_modules]
  refine wpAny_bind (wpAny_specialOf hT hl ?_)
  have fin : wpAny (model prog w) A (subscripted slice false o i) (fun r s₃ => wpAny (model prog w) A (letTemporaryGo value o r >>= fun _ => pure r) Q E s₃) E s₂ := by
    rw [hs o i]
    exact wpAny_operating (wpAny_mono h₂ (fun r s₃ h₃ => wpAny_bind (wpAny_letTemporaryGo (wpAny_pure h₃))) fun _ _ x => x)
  first
    | exact wpAny_pure (wpAny_bind fin)
    | exact wpAny_bind (wpAny_pure (wpAny_bind fin))
    | exact wpAny_bind fin
theorem dict_typeIs {X : Cx} {pins : List (Addr × Obj)} {σ : St} {H : Hp} {s : Shared} {a : Addr} {y : V} {o : Option V} (I : Inv X pins σ H s) (g : DGet H a y o) : s.TypeIs (.ref a) "dict" := by
  rcases g with ⟨kvs, k, e, _, _⟩ | ⟨kvs, k, b, e, _, _, _⟩
  · obtain ⟨_, _, vs, _, dd⟩ := dk_rd I.hok e
    exact dd.typeIs
  · obtain ⟨_, _, xs, _, dd⟩ := dt_rd I.hok e
    exact dd.typeIs
def tDGet (td ty : TE) : TE := fun σ H Q => td σ H fun x H1 => ty σ H1 fun y H2 => ∃ a v, x = .ref a ∧ DGet H2 a y (some v) ∧ Q v H2
def sDPut (td ty tv : TE) : TS := fun D σ H => tv σ H fun v H1 => td σ H1 fun x H2 => ty σ H2 fun y H3 => ∃ a H4, x = .ref a ∧ DPut H3 a y v H4 ∧ D.nx σ H4
section
variable {X : Cx} {o i e value : Expr} {pos pos' tpos : Pos} {td ty tv : TE}
theorem pe_dget (hu : X.A.units + 1 < cLine) (ho : PE X o td) (hi : PE X i ty) (hs : NoSl i) : PE X (.Subscript o i pos) (tDGet td ty) := by
  intro pins s σ H Q I h
  refine subD_of PySem.F.slot_dict_getitem.lookup hs (thn (ho pins s σ H _ I h) fun u s1 ⟨x, H1, I1, rx, q1⟩ => thn (hi pins s1 σ H1 _ I1 q1) fun iv s2 ⟨y, H2, I2, ry, a, v, ex, g, q2⟩ => ?_)
  subst ex
  obtain rfl : u = Value.ref a := rx
  exact ⟨dict_typeIs I2 g, d_getItem hu I2 g ry fun w' s3 I3 rw' => ⟨v, H2, I3, rw', q2⟩⟩
theorem ps_dput (hu : X.A.units + 1 < cLine) (ho : PE X o td) (hi : PE X i ty) (hv : PE X value tv) (hs : swapsWith value (some (.Subscript o i pos')) pos.line X.env = pure false) :
    PS X (.Assign [.Subscript o i pos'] value pos) (sDPut td ty tv) := by
  intro pins s σ H D I h
  refine wpAny_Assign_Subscript (thn (hv pins s σ H _ I h) fun r s1 ⟨v, H1, I1, rv, q1⟩ => thn (ho pins s1 σ H1 _ I1 q1) fun u s2 ⟨x, H2, I2, rx, q2⟩ => thn (hi pins s2 σ H2 _ I2 q2) fun iv s3 ⟨y, H3, I3, ry, a, H4, ex, g, q3⟩ => ?_) hs
  subst ex
  obtain rfl : u = Value.ref a := rx
  exact d_setItem hu I3 g ry rv fun s4 I4 => ⟨σ, H4, I4, q3⟩
end
theorem dk_empty {P : Program} {w : World} {H : Hp} (h : Heap) (hb : sysModules < h.objs.size) : ObjOk P w H (h.push { cls := .type "dict", data := .dict #[] }) h.objs.size (.dK []) :=
  ⟨Nat.zero_le _, beq_eq_false_iff_ne.mpr (Ne.symm (Nat.ne_of_lt hb)), [], .nil, Heap.DictOf.new h⟩
def tDNewK : TE := fun _ H Q => ∀ p, H p = none → Q (.ref p) (upd H p (.dK []))
section
variable {X : Cx} {pos : Pos}
theorem pe_dnewK : PE X (.Dict [] [] pos) tDNewK := fun pins s σ H Q I h =>
  wpAny_Dict_empty ⟨.ref s.heap.objs.size, _, I.laid (a := s.heap.objs.size) (o := .dK []) (t' := s.toks) (fun _ _ q => Heap.get?_push_of_some _ q) (Nat.le_refl _) (dk_empty s.heap I.big), rfl, h _ (I.hok.fresh (Nat.le_refl _))⟩
end
end L2
end
section
set_option Elab.async false
set_option linter.all false
set_option maxRecDepth 100000
set_option maxHeartbeats 2000000
namespace L2
open PySem PySem.Spec PyProof.Rows
open PySem.W (WData Codec OpenSpec Well WellAll ReadsW ReadsAllW)
mutual
inductive Dw (K : PySem.W.Frag) (H : Hp) : V → WData → Prop
  | non : Dw K H .non .none
  | bl (b : Bool) : Dw K H (.bl b) (.bool b)
  | int (i : Int) : Dw K H (.int i) (.int i)
  | str (x : Str) : Dw K H (.str x) (.str x)
  | byt (b : Array UInt8) : Dw K H (.byt b) (.bytes b.toList)
  | lst {a : Addr} {xs : List V} {ds : List WData} : SqL K H a xs → DwAll K H xs ds → Dw K H (.ref a) (.list ds)
  | tup {a : Addr} {xs : List V} {ds : List WData} : SqT K H a xs → DwAll K H xs ds → Dw K H (.ref a) (.tuple ds)
inductive DwAll (K : PySem.W.Frag) (H : Hp) : List V → List WData → Prop
  | nil : DwAll K H [] []
  | cons {v : V} {vs : List V} {d : WData} {ds : List WData} : Dw K H v d → DwAll K H vs ds → DwAll K H (v :: vs) (d :: ds)
end
theorem dw_ints {K : PySem.W.Frag} {H : Hp} : ∀ ns : List Int, DwAll K H (ns.map V.int) (ns.map WData.int)
  | [] => .nil
  | n :: r => .cons (.int n) (dw_ints r)
theorem ints_dw {K : PySem.W.Frag} {H : Hp} : ∀ (ns : List Int) (xs : List V), DwAll K H xs (ns.map WData.int) → xs = ns.map V.int
  | [], xs, h => by
    cases h
    rfl
  | n :: r, xs, h => by
    cases h with
    | cons h1 h2 =>
      cases h1
      rw [ints_dw r _ h2] <;> rfl
section
variable {P : Program} {w : World} {K : PySem.W.Frag} {H : Hp} {h : Heap} {R : PySem.W.WRecords} {cl : Str → Option Addr}
theorem sqL_at {a : Addr} {xs : List V} (hok : HOk P w H h) (KX : K.In h) (q : SqL K H a xs) : ∃ (its : List Value) (o : Obj) (n : Nat), Vals xs its ∧ h.get? a = some o ∧ o.cls = .type "list" ∧ o.data = .seq its.toArray n := by
  rcases q with q | ⟨o, its, n, e, hc, _, hd, _, hv⟩
  · obtain ⟨_, its, n, hv, e⟩ := (show ObjOk P w H h a (.lst xs) from q.ok hok)
    exact ⟨its, _, n, hv, e, rfl, rfl⟩
  · exact ⟨its.toList, o, n, hv, KX _ _ e, hc, by simp [hd]⟩
theorem sqT_at {a : Addr} {xs : List V} (hok : HOk P w H h) (KX : K.In h) (q : SqT K H a xs) : ∃ (its : List Value) (o : Obj) (n : Nat), Vals xs its ∧ h.get? a = some o ∧ o.cls = .type "tuple" ∧ o.data = .seq its.toArray n := by
  rcases q with q | ⟨o, its, n, e, hc, hd, _, hv⟩
  · obtain ⟨_, its, hv, o, e, hc, n, hd⟩ := (show ObjOk P w H h a (.tup xs) from q.ok hok)
    exact ⟨its, o, n, hv, e, hc, hd⟩
  · exact ⟨its.toList, o, n, hv, KX _ _ e, hc, by simp [hd]⟩
mutual
theorem Dw.reads (hok : HOk P w H h) (KX : K.In h) : ∀ (d : WData) (v : V) (u : Value), Dw K H v d → RelV v u → ∃ as, ReadsW R cl h u d as
  | .none, _, _, x, r => by
    cases x
    cases r
    exact ⟨_, ReadsW.none⟩
  | .bool b, _, _, x, r => by
    cases x
    cases r
    exact ⟨_, ReadsW.bool b⟩
  | .int i, _, _, x, r => by
    cases x
    obtain ⟨t, rfl⟩ := r
    exact ⟨_, ReadsW.int i t⟩
  | .str s, _, _, x, r => by
    cases x
    obtain ⟨t, rfl⟩ := r
    exact ⟨_, ReadsW.str s t⟩
  | .bytes b, _, _, x, r => by
    cases x
    obtain ⟨t, rfl⟩ := r
    exact ⟨_, ReadsW.bytes _ t⟩
  | .list ds, _, _, x, r => by
    cases x with
    | lst hs ha =>
      cases r
      obtain ⟨its, o, n, rv, ho, hc, hd⟩ := sqL_at hok KX hs
      obtain ⟨as, hr⟩ := Dw.readsAll hok KX ds _ its ha rv
      exact ⟨_, ReadsW.list ho hc hd hr⟩
  | .tuple ds, _, _, x, r => by
    cases x with
    | tup hs ha =>
      cases r
      obtain ⟨its, o, n, rv, ho, hc, hd⟩ := sqT_at hok KX hs
      obtain ⟨as, hr⟩ := Dw.readsAll hok KX ds _ its ha rv
      exact ⟨_, ReadsW.tuple ho hc hd hr⟩
  | .float _, _, _, x, _ => by cases x
  | .dict _, _, _, x, _ => by cases x
  | .bytearray _, _, _, x, _ => by cases x
  | .set _, _, _, x, _ => by cases x
  | .frozenset _, _, _, x, _ => by cases x
  | .obj _ _, _, _, x, _ => by cases x
theorem Dw.readsAll (hok : HOk P w H h) (KX : K.In h) : ∀ (ds : List WData) (vs : List V) (us : List Value), DwAll K H vs ds → Vals vs us → ∃ as, ReadsAllW R cl h us ds as
  | [], _, _, x, r => by
    cases x
    cases r
    exact ⟨_, ReadsAllW.nil⟩
  | d :: ds, _, _, x, r => by
    cases x with
    | cons h1 h2 =>
      cases r with
      | cons r1 r2 =>
        obtain ⟨as, q1⟩ := Dw.reads hok KX d _ _ h1 r1
        obtain ⟨bs, q2⟩ := Dw.readsAll hok KX ds _ _ h2 r2
        exact ⟨_, ReadsAllW.cons q1 q2⟩
end
end
mutual
def plW : WData → Bool
  | .none => true
  | .bool _ => true
  | .int _ => true
  | .str _ => true
  | .bytes _ => true
  | .list xs => plWs xs
  | .tuple xs => plWs xs
  | _ => false
def plWs : List WData → Bool
  | [] => true
  | x :: r => plW x && plWs r
end
theorem plWs_map {α : Type} {f : α → WData} (h : ∀ a, plW (f a) = true) : ∀ l : List α, plWs (l.map f) = true
  | [] => rfl
  | x :: r => by
    show (plW (f x) && plWs (r.map f)) = true
    rw [h x, plWs_map h r] <;> rfl
theorem pl_enc : ∀ (c : Codec) (a : c.denote), plW (c.enc a) = true
  | .unit, _ => rfl
  | .bool, _ => rfl
  | .int _ _, _ => rfl
  | .nat _ _, _ => rfl
  | .u8, _ => rfl
  | .bytes _ _, _ => rfl
  | .text _ _ _ _, _ => rfl
  | .list _ _ c, a => plWs_map (fun x => pl_enc c x) a
  | .pair c d, a => by
    show (plW (c.enc a.1) && (plW (d.enc a.2) && true)) = true
    rw [pl_enc c a.1, pl_enc d a.2] <;> rfl
  | .triple c d e, a => by
    show (plW (c.enc a.1) && (plW (d.enc a.2.1) && (plW (e.enc a.2.2) && true))) = true
    rw [pl_enc c a.1, pl_enc d a.2.1, pl_enc e a.2.2] <;> rfl
  | .option c, none => rfl
  | .option c, some x => pl_enc c x
theorem pl_encAll : ∀ (cs : List Codec) (a : Codec.denoteAll cs), plWs (Codec.encAll cs a) = true
  | [], _ => rfl
  | c :: cs, a => by
    show (plW (c.enc a.1) && plWs (Codec.encAll cs a.2)) = true
    rw [pl_enc c a.1, pl_encAll cs a.2] <;> rfl
theorem weight_mem : ∀ {xs : List WData} {d : WData}, d ∈ xs → d.weight ≤ WData.weightAll xs
  | [], d, h => absurd h (by simp)
  | x :: r, d, h => by
    show d.weight ≤ x.weight + 1 + WData.weightAll r
    rcases List.mem_cons.mp h with e | m
    · rw [e]
      omega
    · have z := weight_mem m
      omega
def toV : Value → V
  | .none => .non
  | .bool b => .bl b
  | .int i _ => .int i
  | .str x _ => .str x
  | .bytes b _ => .byt b
  | .ref a => .ref a
  | _ => .non
def OkU (A : List Addr) : Value → Prop
  | .none => True
  | .bool _ => True
  | .int _ _ => True
  | .str _ _ => True
  | .bytes _ _ => True
  | .ref a => a ∈ A
  | _ => False
theorem OkU.mono {A B : List Addr} (h : ∀ a ∈ A, a ∈ B) : ∀ {u : Value}, OkU A u → OkU B u := fun {u} x => by
  cases u with
  | ref a => exact h a x
  | none => trivial
  | bool b => trivial
  | int i t => trivial
  | str s t => trivial
  | bytes b t => trivial
  | _ => exact False.elim x
theorem relV_toV {A : List Addr} {u : Value} (x : OkU A u) : RelV (toV u) u := by
  cases u with
  | ref a => rfl
  | none => rfl
  | bool b => rfl
  | int i t => exact ⟨t, rfl⟩
  | str s t => exact ⟨t, rfl⟩
  | bytes b t => exact ⟨t, rfl⟩
  | _ => exact False.elim x
theorem vals_toV {A : List Addr} : ∀ {vs : List Value}, (∀ u ∈ vs, OkU A u) → Vals (vs.map toV) vs
  | [], _ => .nil
  | u :: r, h => .cons (relV_toV (h u (List.mem_cons_self ..))) (vals_toV fun x hx => h x (List.mem_cons_of_mem _ hx))
def ArgOb (h : Heap) (A : List Addr) (a : Addr) : Prop := ∃ vs : List Value, vs.length ≤ sizeLine ∧ (∀ u ∈ vs, OkU A u) ∧
  (h.get? a = some { cls := .type "list", data := .seq vs.toArray } ∨ h.get? a = some { cls := .type "tuple", data := .seq vs.toArray })
theorem ArgOb.mono {h : Heap} {A B : List Addr} {a : Addr} (k : ∀ a ∈ A, a ∈ B) (x : ArgOb h A a) : ArgOb h B a := by
  obtain ⟨vs, h1, h2, h3⟩ := x
  exact ⟨vs, h1, fun u hu => (h2 u hu).mono k, h3⟩
theorem wellAll_len {P : Params} {h : Heap} : ∀ {vs : List Value} {ds : List WData}, WellAll P h vs ds → vs.length = ds.length
  | _, _, .nil => rfl
  | _, _, .cons _ b => by
    show _ + 1 = _ + 1
    rw [wellAll_len b]
theorem well_list {P : Params} {h : Heap} {v : Value} {ds : List WData} (x : Well P h v (.list ds)) : ∃ (a : Addr) (vs : List Value), v = .ref a ∧ h.get? a = some { cls := .type "list", data := .seq vs.toArray } ∧ WellAll P h vs ds := by
  cases x with
  | list ho hall => exact ⟨_, _, rfl, ho, hall⟩
theorem well_tuple {P : Params} {h : Heap} {v : Value} {ds : List WData} (x : Well P h v (.tuple ds)) : ∃ (a : Addr) (vs : List Value), v = .ref a ∧ h.get? a = some { cls := .type "tuple", data := .seq vs.toArray } ∧ WellAll P h vs ds := by
  cases x with
  | tuple ho hall => exact ⟨_, _, rfl, ho, hall⟩
theorem well_cons {P : Params} {h : Heap} {us : List Value} {d : WData} {ds : List WData} (x : WellAll P h us (d :: ds)) : ∃ (v : Value) (vs : List Value), us = v :: vs ∧ Well P h v d ∧ WellAll P h vs ds := by
  cases x with
  | cons a b => exact ⟨_, _, rfl, a, b⟩
theorem line_of {n : Nat} (h : n ≤ 1048576) : n ≤ sizeLine := Nat.le_trans h (by decide)
section
variable {P : Params} {h : Heap}
mutual
theorem area_one : ∀ (d : WData) (v : Value), Well P h v d → plW d = true → d.weight ≤ 1048576 → ∃ A : List Addr, OkU A v ∧ ∀ a ∈ A, ArgOb h A a
  | .none, _, x, _, _ => by
    cases x
    exact ⟨[], trivial, fun a m => absurd m (by simp)⟩
  | .bool b, _, x, _, _ => by
    cases x
    exact ⟨[], trivial, fun a m => absurd m (by simp)⟩
  | .int i, _, x, _, _ => by
    cases x
    exact ⟨[], trivial, fun a m => absurd m (by simp)⟩
  | .str s, _, x, _, _ => by
    cases x
    exact ⟨[], trivial, fun a m => absurd m (by simp)⟩
  | .bytes b, _, x, _, _ => by
    cases x
    exact ⟨[], trivial, fun a m => absurd m (by simp)⟩
  | .list ds, _, x, p, z => by
    obtain ⟨a, vs, rfl, ho, hall⟩ := well_list x
    have z2 : WData.weightAll ds ≤ 1048576 := z
    obtain ⟨A, h1, h2⟩ := area_all ds _ hall p fun d hd => Nat.le_trans (weight_mem hd) z2
    have k : ∀ b ∈ A, b ∈ a :: A := fun b hb => List.mem_cons_of_mem _ hb
    refine ⟨a :: A, List.mem_cons_self .., fun b hb => ?_⟩
    rcases List.mem_cons.mp hb with e | m
    · rw [e]
      exact ⟨vs, line_of (by rw [wellAll_len hall]; exact Nat.le_trans (PySem.W.length_le_weightAllW ds) z2), fun u hu => (h1 u hu).mono k, .inl ho⟩
    · exact (h2 b m).mono k
  | .tuple ds, _, x, p, z => by
    obtain ⟨a, vs, rfl, ho, hall⟩ := well_tuple x
    have z2 : WData.weightAll ds ≤ 1048576 := z
    obtain ⟨A, h1, h2⟩ := area_all ds _ hall p fun d hd => Nat.le_trans (weight_mem hd) z2
    have k : ∀ b ∈ A, b ∈ a :: A := fun b hb => List.mem_cons_of_mem _ hb
    refine ⟨a :: A, List.mem_cons_self .., fun b hb => ?_⟩
    rcases List.mem_cons.mp hb with e | m
    · rw [e]
      exact ⟨vs, line_of (by rw [wellAll_len hall]; exact Nat.le_trans (PySem.W.length_le_weightAllW ds) z2), fun u hu => (h1 u hu).mono k, .inr ho⟩
    · exact (h2 b m).mono k
  | .float _, _, _, p, _ => Bool.noConfusion (show false = true from p)
  | .dict _, _, _, p, _ => Bool.noConfusion (show false = true from p)
  | .bytearray _, _, _, p, _ => Bool.noConfusion (show false = true from p)
  | .set _, _, _, p, _ => Bool.noConfusion (show false = true from p)
  | .frozenset _, _, _, p, _ => Bool.noConfusion (show false = true from p)
  | .obj _ _, _, _, p, _ => Bool.noConfusion (show false = true from p)
theorem area_all : ∀ (ds : List WData) (vs : List Value), WellAll P h vs ds → plWs ds = true → (∀ d ∈ ds, d.weight ≤ 1048576) → ∃ A : List Addr, (∀ u ∈ vs, OkU A u) ∧ ∀ a ∈ A, ArgOb h A a
  | [], _, x, _, _ => by
    cases x
    exact ⟨[], fun u m => absurd m (by simp), fun a m => absurd m (by simp)⟩
  | d :: ds, _, x, p, z => by
    obtain ⟨v, vs, rfl, x1, x2⟩ := well_cons x
    have q : plW d = true ∧ plWs ds = true := Bool.and_eq_true_iff.mp p
    obtain ⟨A, a1, a2⟩ := area_one d v x1 q.1 (z d (List.mem_cons_self ..))
    obtain ⟨B, b1, b2⟩ := area_all ds vs x2 q.2 fun e he => z e (List.mem_cons_of_mem _ he)
    have kA : ∀ b ∈ A, b ∈ A ++ B := fun b hb => List.mem_append.mpr (.inl hb)
    have kB : ∀ b ∈ B, b ∈ A ++ B := fun b hb => List.mem_append.mpr (.inr hb)
    refine ⟨A ++ B, fun u hu => ?_, fun b hb => ?_⟩
    · rcases List.mem_cons.mp hu with e | m
      · rw [e]
        exact a1.mono kA
      · exact (b1 u m).mono kB
    · rcases List.mem_append.mp hb with m | m
      · exact (a2 b m).mono kA
      · exact (b2 b m).mono kB
end
end
def hoOf (o : Obj) : Option HO := match o.data with
  | .seq vs _ => if (o.cls == Value.type "list") = true then some (.frz o (.lst (vs.toList.map toV))) else some (.frz o (.tup (vs.toList.map toV)))
  | _ => none
def argH (K : PySem.W.Frag) (h : Heap) (A : List Addr) : Hp := fun b => if b ∈ A then (if (K.lookup b).isNone = true then (h.get? b).bind hoOf else none) else none
def OnlyF (H : Hp) : Prop := ∀ b, H b = none ∨ ∃ o u, H b = some (.frz o u)
theorem hoOf_lst (vs : List Value) : hoOf { cls := .type "list", data := .seq vs.toArray } = some (.frz { cls := .type "list", data := .seq vs.toArray } (.lst (vs.map toV))) := by
  show (if (Value.type "list" == Value.type "list") = true then some (HO.frz { cls := .type "list", data := .seq vs.toArray } (.lst (vs.toArray.toList.map toV))) else some (HO.frz { cls := .type "list", data := .seq vs.toArray } (.tup (vs.toArray.toList.map toV)))) = _
  rw [if_pos (beq_self_eq_true _)]
theorem hoOf_tup (vs : List Value) : hoOf { cls := .type "tuple", data := .seq vs.toArray } = some (.frz { cls := .type "tuple", data := .seq vs.toArray } (.tup (vs.map toV))) := by
  show (if (Value.type "tuple" == Value.type "list") = true then some (HO.frz { cls := .type "tuple", data := .seq vs.toArray } (.lst (vs.toArray.toList.map toV))) else some (HO.frz { cls := .type "tuple", data := .seq vs.toArray } (.tup (vs.toArray.toList.map toV)))) = _
  rw [if_neg (by decide)]
section
variable {P : Program} {w : World} {K : PySem.W.Frag} {h : Heap} {A : List Addr}
theorem argH_at {b : Addr} {o : Obj} (hb : b ∈ A) (hk : K.lookup b = none) (e : h.get? b = some o) : argH K h A b = hoOf o := by
  unfold argH
  rw [if_pos hb, hk, if_pos (show (none : Option Obj).isNone = true from rfl), e] <;> rfl
theorem of_argH {b : Addr} {u : HO} (q : argH K h A b = some u) : b ∈ A ∧ K.lookup b = none := by
  unfold argH at q
  by_cases hb : b ∈ A
  · rw [if_pos hb] at q
    cases hk : K.lookup b with
    | none => exact ⟨hb, rfl⟩
    | some o =>
      rw [hk, if_neg (by simp)] at q
      cases q
  · rw [if_neg hb] at q
    cases q
theorem argH_is (ar : ∀ a ∈ A, ArgOb h A a) {b : Addr} {u : HO} (q : argH K h A b = some u) : K.lookup b = none ∧ ∃ vs : List Value, vs.length ≤ sizeLine ∧ (∀ u ∈ vs, OkU A u) ∧
    ((h.get? b = some { cls := .type "list", data := .seq vs.toArray } ∧ u = .frz { cls := .type "list", data := .seq vs.toArray } (.lst (vs.map toV))) ∨
     (h.get? b = some { cls := .type "tuple", data := .seq vs.toArray } ∧ u = .frz { cls := .type "tuple", data := .seq vs.toArray } (.tup (vs.map toV)))) := by
  obtain ⟨hb, hk⟩ := of_argH q
  obtain ⟨vs, h1, h2, h3⟩ := ar b hb
  refine ⟨hk, vs, h1, h2, ?_⟩
  rcases h3 with e | e
  · rw [argH_at hb hk e, hoOf_lst] at q
    exact .inl ⟨e, (Option.some.inj q).symm⟩
  · rw [argH_at hb hk e, hoOf_tup] at q
    exact .inr ⟨e, (Option.some.inj q).symm⟩
theorem argH_only (ar : ∀ a ∈ A, ArgOb h A a) : OnlyF (argH K h A) := fun b => by
  cases q : argH K h A b with
  | none => exact .inl rfl
  | some u =>
    obtain ⟨_, vs, _, _, ⟨_, e⟩ | ⟨_, e⟩⟩ := argH_is ar q
    · exact .inr ⟨_, _, by rw [e]⟩
    · exact .inr ⟨_, _, by rw [e]⟩
theorem argH_ok (ar : ∀ a ∈ A, ArgOb h A a) : HOk P w (argH K h A) h := fun b u q => by
  obtain ⟨_, vs, h1, h2, ⟨e, rfl⟩ | ⟨e, rfl⟩⟩ := argH_is ar q
  · exact ⟨e, by rw [List.length_map]; exact h1, vs, _, vals_toV h2, e⟩
  · exact ⟨e, by rw [List.length_map]; exact h1, vs, vals_toV h2, _, e, rfl, _, rfl⟩
theorem seq_inj {c c' : Value} {vs us : List Value} (e : (some { cls := c, data := .seq vs.toArray } : Option Obj) = some { cls := c', data := .seq us.toArray }) : c = c' ∧ vs = us := by
  have e1 := Option.some.inj e
  have e2 : c = c' := congrArg Obj.cls e1
  have e3 : Data.seq vs.toArray = Data.seq us.toArray := congrArg Obj.data e1
  injection e3 with e4
  refine ⟨e2, ?_⟩
  have e5 := congrArg Array.toList e4
  simpa using e5
theorem argL (KX : K.In h) (ar : ∀ a ∈ A, ArgOb h A a) {a : Addr} {vs : List Value} (ha : a ∈ A) (e : h.get? a = some { cls := .type "list", data := .seq vs.toArray }) : (∀ u ∈ vs, OkU A u) ∧ SqL K (argH K h A) a (vs.map toV) := by
  obtain ⟨us, h1, h2, h3⟩ := ar a ha
  have hu : us = vs := by
    rcases h3 with q | q
    · rw [e] at q
      exact (seq_inj q).2.symm
    · rw [e] at q
      exact absurd (Value.type.inj (seq_inj q).1) (by decide)
  subst hu
  refine ⟨h2, ?_⟩
  cases hk : K.lookup a with
  | none => exact .inl (.inr ⟨_, by rw [argH_at ha hk e, hoOf_lst]⟩)
  | some o =>
    have e2 := KX a o hk
    rw [e] at e2
    obtain rfl := Option.some.inj e2
    exact .inr ⟨_, us.toArray, _, hk, rfl, rfl, rfl, by rw [List.size_toArray]; exact h1, by simpa using vals_toV h2⟩
theorem argT (KX : K.In h) (ar : ∀ a ∈ A, ArgOb h A a) {a : Addr} {vs : List Value} (ha : a ∈ A) (e : h.get? a = some { cls := .type "tuple", data := .seq vs.toArray }) : (∀ u ∈ vs, OkU A u) ∧ SqT K (argH K h A) a (vs.map toV) := by
  obtain ⟨us, h1, h2, h3⟩ := ar a ha
  have hu : us = vs := by
    rcases h3 with q | q
    · rw [e] at q
      exact absurd (Value.type.inj (seq_inj q).1) (by decide)
    · rw [e] at q
      exact (seq_inj q).2.symm
  subst hu
  refine ⟨h2, ?_⟩
  cases hk : K.lookup a with
  | none => exact .inl (.inr ⟨_, by rw [argH_at ha hk e, hoOf_tup]⟩)
  | some o =>
    have e2 := KX a o hk
    rw [e] at e2
    obtain rfl := Option.some.inj e2
    exact .inr ⟨_, us.toArray, _, hk, rfl, rfl, by rw [List.size_toArray]; exact h1, by simpa using vals_toV h2⟩
mutual
theorem dw_one {Pm : Params} (KX : K.In h) (ar : ∀ a ∈ A, ArgOb h A a) : ∀ (d : WData) (v : Value), Well Pm h v d → plW d = true → OkU A v → Dw K (argH K h A) (toV v) d
  | .none, _, x, _, _ => by
    cases x
    exact .non
  | .bool b, _, x, _, _ => by
    cases x
    exact .bl b
  | .int i, _, x, _, _ => by
    cases x
    exact .int i
  | .str s, _, x, _, _ => by
    cases x
    exact .str s
  | .bytes b, _, x, _, _ => by
    cases x
    have z := Dw.byt (K := K) (H := argH K h A) b.toArray
    exact z
  | .list ds, _, x, p, hu => by
    obtain ⟨a, vs, rfl, ho, hall⟩ := well_list x
    obtain ⟨h2, hs⟩ := argL KX ar hu ho
    exact .lst hs (dw_all KX ar ds _ hall p h2)
  | .tuple ds, _, x, p, hu => by
    obtain ⟨a, vs, rfl, ho, hall⟩ := well_tuple x
    obtain ⟨h2, hs⟩ := argT KX ar hu ho
    exact .tup hs (dw_all KX ar ds _ hall p h2)
  | .float _, _, _, p, _ => Bool.noConfusion (show false = true from p)
  | .dict _, _, _, p, _ => Bool.noConfusion (show false = true from p)
  | .bytearray _, _, _, p, _ => Bool.noConfusion (show false = true from p)
  | .set _, _, _, p, _ => Bool.noConfusion (show false = true from p)
  | .frozenset _, _, _, p, _ => Bool.noConfusion (show false = true from p)
  | .obj _ _, _, _, p, _ => Bool.noConfusion (show false = true from p)
theorem dw_all {Pm : Params} (KX : K.In h) (ar : ∀ a ∈ A, ArgOb h A a) : ∀ (ds : List WData) (vs : List Value), WellAll Pm h vs ds → plWs ds = true → (∀ u ∈ vs, OkU A u) → DwAll K (argH K h A) (vs.map toV) ds
  | [], _, x, _, _ => by
    cases x
    exact .nil
  | d :: ds, _, x, p, hu => by
    obtain ⟨v, vs, rfl, x1, x2⟩ := well_cons x
    have q : plW d = true ∧ plWs ds = true := Bool.and_eq_true_iff.mp p
    exact .cons (dw_one KX ar d v x1 q.1 (hu _ (List.mem_cons_self ..))) (dw_all KX ar ds vs x2 q.2 fun u m => hu u (List.mem_cons_of_mem _ m))
end
end
theorem spec_call {P : Program} {w : World} {K : PySem.W.Frag} {mg mb : Str → Option Value} {CX : CXT} {k : Nat} {fa : Addr} {fd : FuncData} {ps : List Str} {sp : Sp} {s₁ : Shared} {vals : List Value} {ds : List WData} {R : PySem.W.WRecords} {cl : Str → Option Addr} {d0 : WData}
    (KX : K.In s₁.heap) (hns : s₁.heap.Ns mainGlobals mg) (hb : s₁.heap.Ns builtinsNs mb) (hbb : ∀ x : Str, x ≠ "__name__" → mb x = bootBuiltins x) (hlim : s₁.heap.NoLimit) (hg : s₁.gens = #[])
    (hwl : WellAll w.params s₁.heap vals ds) (hpl : plWs ds = true) (hwt : ∀ d ∈ ds, d.weight ≤ 1048576) (hr : Room k callerA)
    (F : ∀ base : Heap, K.In base → base.Ns mainGlobals mg → FnOk P w K mg base CX k fa fd ps sp) (hbind : ∀ (s : Shared) (us : List Value), us.length = ps.length → BindsTo s fd ⟨us, []⟩ (ps.zip us)) (hlen : ds.length = ps.length)
    (hsp : ∀ (H : Hp) (xs : List V), OnlyF H → DwAll K H xs ds → sp xs H (fun v H' => Dw K H' v d0) fun _ _ _ => False)
    (hCX : ∀ H e s', CX [] H s₁ (fun _ _ _ => False) e s' → False) :
    codeAny (model P w) callerA (.call (.ref fa) ⟨vals, []⟩) (fun r s' => ∃ u as, r = .ok (.ret u) ∧ ReadsW R cl s'.heap u d0 as ∧ OldK s₁.heap s'.heap ∧ s'.os = s₁.os ∧ AllBare s'.gens) s₁ := by
  obtain ⟨A, ho, ar⟩ := area_all ds vals hwl hpl hwt
  have hO : OnlyF (argH K s₁.heap A) := argH_only ar
  have hok : HOk P w (argH K s₁.heap A) s₁.heap := argH_ok ar
  have hS := dw_all KX ar ds vals hwl hpl ho
  have hV := vals_toV ho
  have hK : ∀ b u, argH K s₁.heap A b = some u → K.lookup b = none := fun b u q => (argH_is ar q).1
  have noA : ∀ {b : Addr} {o : Obj} {es : Array DictEntry} {ep : Nat}, s₁.heap.get? b = some o → o.data = .dict es ep → argH K s₁.heap A b = none := fun {b o es ep} e d => by
    cases q : argH K s₁.heap A b with
    | none => rfl
    | some u =>
      obtain ⟨_, vs, _, _, ⟨e2, _⟩ | ⟨e2, _⟩⟩ := argH_is ar q
      · rw [e2] at e
        cases e
        have d' : Data.seq vs.toArray _ = Data.dict es ep := d
        cases d'
      · rw [e2] at e
        cases e
        have d' : Data.seq vs.toArray _ = Data.dict es ep := d
        cases d'
  generalize argH K s₁.heap A = H at hO hok hS hK noA
  have base_of : ∀ {b : Addr} {o : Obj}, s₁.heap.get? b = some o → H b = none → (hidT s₁.heap H).get? b = some o := fun e n => hidT_get e n
  have nsK : ∀ {b : Addr} {m : Str → Option Value}, s₁.heap.Ns b m → (hidT s₁.heap H).Ns b m := fun {b m} ⟨o, es, ep, e, d, r⟩ => ⟨o, es, ep, base_of e (noA e d), d, r⟩
  have nK : ∀ b o, K.lookup b = some o → H b = none := fun b o e => by
    cases q : H b with
    | none => rfl
    | some u =>
      rw [hK b u q] at e
      cases e
  have hKb : K.In (hidT s₁.heap H) := fun b o e => base_of (KX b o e) (nK b o e)
  have hM : Mod K mg (hidT s₁.heap H) := ⟨hKb, nsK hns, ⟨mb, nsK hb, hbb⟩, let ⟨mc, h1, h2⟩ := hlim; ⟨mc, nsK h1, h2⟩⟩
  have e0 : Env0 P w K mg (hidT s₁.heap H) callerA [] s₁ H := ⟨rfl, hM, fun b o e => of_hidT e, Nat.le_of_eq (hidT_size _ _), trivial, fun b hb => absurd (show b ∈ ([] : List Addr) from hb) (by simp), hok, .of_eq hg⟩
  have hl : vals.length = ps.length := by rw [wellAll_len hwl]; exact hlen
  refine codeAny_mono ((F _ hKb (nsK hns)).run callerA [] s₁ H ⟨vals, []⟩ vals (vals.map toV) _ _ hr e0 (hbind s₁ vals hl) hV (hsp H _ hO hS)) fun r s' x => ?_
  cases r with
  | error e => exact (hCX H e s' x).elim
  | ok fl =>
    cases fl with
    | next => exact False.elim x
    | brk => exact False.elim x
    | cont => exact False.elim x
    | ret u =>
      obtain ⟨v, H', os, bare, un, hok', r', q⟩ := x
      have kept : ∀ b o, s₁.heap.get? b = some o → s'.heap.get? b = some o := fun b o e => by
        cases q2 : H b with
        | none => exact un.keep b o e q2 (by intro z; exact absurd (show b ∈ ([] : List Addr) from z) (by simp)) (by simp)
        | some u2 =>
          rcases hO b with z | ⟨ob, u3, z⟩
          · rw [q2] at z
            cases z
          · have z2 := un.frzs b ob _ z
            obtain ⟨e1, _⟩ := hok b _ z
            obtain ⟨e2, _⟩ := hok' b _ z2
            rw [e] at e1
            cases e1
            exact e2
      have KX' : K.In s'.heap := fun b o e => kept b o (KX b o e)
      obtain ⟨as, hrd⟩ := Dw.reads (R := R) (cl := cl) hok' KX' d0 v u q r'
      exact ⟨u, as, rfl, hrd, OldK.of_keep kept, os, bare⟩
theorem layable_weight {ds : List WData} (h : WData.layableAll ds = true) : ∀ d ∈ ds, d.weight ≤ 1048576 := fun d hd =>
  (PySem.W.layableW_iff.mp (List.all_eq_true.mp h d hd)).2.2
theorem encAll_len : ∀ (cs : List Codec) (a : Codec.denoteAll cs), (Codec.encAll cs a).length = cs.length
  | [], _ => rfl
  | c :: cs, a => by
    show (Codec.encAll cs a.2).length + 1 = cs.length + 1
    rw [encAll_len cs a.2]
theorem walk_spec {r : OpenSpec} {k : Nat} {q : Program} {loose : List Str} {XP : (Str → Option Value) → Heap → Prop} {YP : World → Heap → Prop} {d : DefRec} {K : Params → PySem.W.Frag} {CX : World → CXT} {ps : List Str} {sp : World → Sp}
    (hwell : r.wellSaid = true) (hdf : d.params.defaults = []) (hlen : r.args.length = ps.length) (hr : Room k callerA)
    (hY : ∀ (w : World) (h : Heap), YP w h → (K w.params).In h)
    (F : ∀ (w : World) (mg : Str → Option Value) (fa : Addr) (h : Heap), YP w h → (K w.params).In h → h.Ns mainGlobals mg → mg d.name = some (.ref fa) →
      ∃ fd : FuncData, (∀ (s : Shared) (us : List Value), us.length = ps.length → BindsTo s fd ⟨us, []⟩ (ps.zip us)) ∧
        ∀ base : Heap, (K w.params).In base → base.Ns mainGlobals mg → FnOk r.prog w (K w.params) mg base (CX w) k fa fd ps (sp w))
    (hsp : ∀ (w : World) (H : Hp) (xs : List V) (a : Codec.denoteAll r.args), OnlyF H → Codec.withinAll r.args a = true → Codec.app r.args r.asked a = true → DwAll (K w.params) H xs (Codec.encAll r.args a) →
      sp w xs H (fun v H' => Dw (K w.params) H' v (r.ret.enc (Codec.app r.args r.f a))) fun _ _ _ => False)
    (hCX : ∀ (w : World) (H : Hp) (s : Shared) (e : Value) (s' : Shared), CX w [] H s (fun _ _ _ => False) e s' → False) :
    PySem.W.WalkOS q loose XP YP r d [] (fun f vs => PySem.call f vs) := by
  intro w s_0 s₁ mg mb G Y fa o pm cd doc dV kV ho hd hcd hD hmg hg args vals as hpre hlay hrd hwl hlo
  obtain ⟨a, e1, e2⟩ := PySem.W.os_pre_some hpre
  obtain ⟨e3, hwi⟩ := Codec.encAll_of_decAll r.args args a e1
  subst e3
  have KX := hY w _ Y
  obtain ⟨fd, hb, hF⟩ := F w mg fa _ Y KX G.T.g hmg
  refine PySem.W.enter_call (codeAny_mono (spec_call (R := []) (cl := classAt s_0.heap) (d0 := r.ret.enc (Codec.app r.args r.f a)) KX G.T.g G.T.b G.T.builtins G.T.nolimit hg hwl (pl_encAll _ _) (layable_weight hlay) hr hF hb (by rw [encAll_len]; exact hlen)
    (fun H xs hO hS => hsp w H xs a hO hwi e2 hS) fun H e s' => hCX w H s₁ e s') fun r' s' hq => ?_)
  obtain ⟨u, as', rfl, h1, h2, h3, h4⟩ := hq
  exact ⟨.inl ⟨u, _, as', rfl, fun _ => rfl, h1, (OpenSpec.post_iff hwell hwi _ _).mpr rfl, fun z => Bool.noConfusion (show false = true from z)⟩, h2, h3, h4⟩
theorem walk_specK {r : OpenSpec} {k : Nat} {q : Program} {loose : List Str} {XP : (Str → Option Value) → Heap → Prop} {YP : World → Heap → Prop} {d : DefRec} {K : Params → PySem.W.Frag} {CX : CXT} {ps : List Str} {sp : PySem.W.Frag → Sp}
    (hwell : r.wellSaid = true) (hdf : d.params.defaults = []) (hlen : r.args.length = ps.length) (hr : Room k callerA)
    (hY : ∀ (w : World) (h : Heap), YP w h → (K w.params).In h)
    (F : ∀ (w : World) (mg : Str → Option Value) (fa : Addr) (h : Heap), YP w h → (K w.params).In h → h.Ns mainGlobals mg → mg d.name = some (.ref fa) →
      ∃ fd : FuncData, (∀ (s : Shared) (us : List Value), us.length = ps.length → BindsTo s fd ⟨us, []⟩ (ps.zip us)) ∧
        ∀ base : Heap, (K w.params).In base → base.Ns mainGlobals mg → FnOk r.prog w (K w.params) mg base CX k fa fd ps (sp (K w.params)))
    (hsp : ∀ (K : PySem.W.Frag) (H : Hp) (xs : List V) (a : Codec.denoteAll r.args), OnlyF H → Codec.withinAll r.args a = true → Codec.app r.args r.asked a = true → DwAll K H xs (Codec.encAll r.args a) →
      sp K xs H (fun v H' => Dw K H' v (r.ret.enc (Codec.app r.args r.f a))) fun _ _ _ => False)
    (hCX : ∀ (H : Hp) (s : Shared) (e : Value) (s' : Shared), CX [] H s (fun _ _ _ => False) e s' → False) :
    PySem.W.WalkOS q loose XP YP r d [] (fun f vs => PySem.call f vs) :=
  walk_spec (K := K) (CX := fun _ => CX) (sp := fun w => sp (K w.params)) hwell hdf hlen hr hY F (fun w H xs a h1 h2 h3 h4 => hsp (K w.params) H xs a h1 h2 h3 h4) fun _ H s e s' => hCX H s e s'
end L2
end
section
set_option Elab.async false
set_option maxRecDepth 100000
namespace L2
open PySem PySem.Spec PyProof.Rows
def inClass (s : Stmt) (j : Nat) : Stmt := match s with
  | .ClassDef _ _ _ body _ _ _ _ _ _ _ => body.getD j (.Pass ⟨0, 0, 0, 0⟩)
  | _ => .Pass ⟨0, 0, 0, 0⟩
def defArgs (s : Stmt) : Arguments := match s with
  | .FunctionDef _ a _ _ _ _ _ _ _ _ => a
  | _ => { posonlyargs := [], args := [], vararg := none, kwonlyargs := [], kw_defaults := [], kwarg := none, defaults := [] }
def defBody (s : Stmt) : List Stmt := match s with
  | .FunctionDef _ _ b _ _ _ _ _ _ _ => b
  | _ => []
def defScope (s : Stmt) : Scope := match s with
  | .FunctionDef _ _ _ _ _ _ sc _ _ _ => sc
  | _ => { kind := .function, names := [], isGenerator := false, isCoroutine := false }
abbrev CX0 : CXT := fun _ _ _ _ _ _ => False
abbrev E0 : XK := fun _ _ _ => False
theorem pass0 {X : Cx} : Passes CX0 X E0 := fun _ _ _ _ _ _ _ h => h.elim
structure Fun (K : PySem.W.Frag) (x qual : Str) (st : Stmt) (f : Addr) (fd : FuncData) : Prop where
  ex : ∃ (oc : Value) (od : Option Addr) (kV doc pm : Value) (an : Option Addr) (cdv ct : Value) (osl : Array (Option Value)),
    fd = PySem.W.fnOf x qual (defArgs st) (defBody st) (defScope st) .none kV doc pm an cdv ct ∧ K.lookup f = some ⟨oc, od, .func fd, osl⟩ ∧ PySem.W.codeIn K cdv qual = true
  kp : PySem.W.keepIn K (.ref f) = true
section
variable {P : Program} {w : World} {K : PySem.W.Frag} {mg : Str → Option Value} {base : Heap}
theorem Fun.ok {x qual : Str} {st : Stmt} {f : Addr} {fd : FuncData} {N ps : List Str} {k : Nat} {sp : Sp} (F : Fun K x qual st f fd) (S : FnScope N ps (defScope st)) (len : ∀ vs H Q E, sp vs H Q E → vs.length = ps.length)
    (hbody : ∀ (cdv : Value) (A : Around) (outer : List Env) (s : Shared) (H : Hp) (vs : List V) (Q : VK) (E : XK), Room k (A.deeper (envOfC qual (defScope st) s.heap.objs.size f cdv)) → sp vs H Q E →
      ∃ t, PSs (cxOf CX0 P w K mg base N qual (defScope st) f cdv A outer s H E).nox (defBody st) t ∧ t { nx := fun _ H' => Q .non H', rt := Q } (start N vs) H) : FnOk P w K mg base CX0 (k + 1) f fd ps sp := by
  obtain ⟨oc, od, kV, doc, pm, an, cdv, ct, osl, rfl, lk, hcd⟩ := F.ex
  refine fn_of lk hcd S len fun A outer s H vs Q E hr hsp => ?_
  obtain ⟨t, h, q⟩ := hbody cdv A outer s H vs Q E hr hsp
  exact ⟨t, h.nox, q⟩
theorem Fun.binds {x qual : Str} {st : Stmt} {f : Addr} {fd : FuncData} {ps : List Str} (F : Fun K x qual st f fd)
    (h : ∀ (kV doc pm : Value) (an : Option Addr) (cdv ct : Value) (us : List Value), us.length = ps.length → bindArgs (PySem.W.fnOf x qual (defArgs st) (defBody st) (defScope st) .none kV doc pm an cdv ct) ⟨us, []⟩ = pure (ps.zip us)) : Binds K fd ps [] := by
  obtain ⟨oc, od, kV, doc, pm, an, cdv, ct, osl, rfl, lk, hcd⟩ := F.ex
  exact .all (h kV doc pm an cdv ct)
theorem fun_mk {x qual : Str} {st : Stmt} {f : Addr} {oc : Value} {od an : Option Addr} {osl : Array (Option Value)} {kV doc pm cdv ct : Value} (l : K.lookup f = some ⟨oc, od, .func (PySem.W.fnOf x qual (defArgs st) (defBody st) (defScope st) .none kV doc pm an cdv ct), osl⟩)
    (c : PySem.W.codeIn K cdv qual = true) (k : PySem.W.keepIn K (.ref f) = true) : Fun K x qual st f (PySem.W.fnOf x qual (defArgs st) (defBody st) (defScope st) .none kV doc pm an cdv ct) := ⟨⟨oc, od, kV, doc, pm, an, cdv, ct, osl, rfl, l, c⟩, k⟩
end
theorem hu_of {A : Around} {k : Nat} (hr : Room k A) : A.units + 1 < cLine := Nat.lt_of_le_of_lt (Nat.add_le_add_left (by decide : 1 ≤ 64) _) hr.units
section
variable {X : Cx}
theorem pv (i : Nat) {x : Str} {pos : Pos} (hN : X.N[i]? = some x := by rfl) (hv : Vis X.env.scope x := by first | exact Or.inl rfl | exact Or.inr (Or.inl rfl) | exact Or.inr (Or.inr rfl)) (hd : (x == ("__debug__" : Str)) = false := by decide)
    (hcd : (x == ("__classdict__" : Str)) = false := by decide) : PE X (.Name x pos) (tVar i) := pe_var hN hv hd hcd
end
theorem iteF {A B : Prop} (h : B) : if false = true then A else B := by
  rw [if_neg Bool.false_ne_true]
  exact h
theorem iteT {A B : Prop} (h : A) : if true = true then A else B := by
  rw [if_pos rfl]
  exact h
theorem ite2 {c A B : Prop} [Decidable c] (h1 : c → A) (h2 : ¬ c → B) : if c then A else B := by
  by_cases h : c
  · rw [if_pos h]
    exact h1 h
  · rw [if_neg h]
    exact h2 h
def Same (H H' : Hp) : Prop := ∀ b o, H b = some o → H' b = some o
theorem Same.refl (H : Hp) : Same H H := fun _ _ h => h
theorem Same.trans {H H1 H2 : Hp} (a : Same H H1) (b : Same H1 H2) : Same H H2 := fun c o h => b c o (a c o h)
theorem Same.free {H H' : Hp} (e : Same H H') {l : Addr} (h : H' l = Option.none) : H l = Option.none := by
  cases q : H l with
  | none => rfl
  | some o =>
    rw [e l o q] at h
    cases h
theorem Same.seq {K : PySem.W.Frag} {H H' : Hp} {a : Addr} {xs : List V} (e : Same H H') (h : SqL K H a xs) : SqL K H' a xs := by
  rcases h with (h | ⟨o, h⟩) | h
  · exact .inl (.inl (e _ _ h))
  · exact .inl (.inr ⟨o, e _ _ h⟩)
  · exact .inr h
theorem at_of {xs : List V} {z : Int} {j : Nat} {v : V} (e : z = (j : Int)) (h : xs[j]? = some v) : atI xs z = some v := by
  rw [e]
  exact atI_nat h
theorem Same.made {H H1 : Hp} {x dx C : Addr} (nx : H x = Option.none) (nd : H dx = Option.none) (k : ∀ b o, (upd (upd H dx (.own x)) x (.ins C dx [])) b = some o → b ≠ x → H1 b = some o) : Same H H1 := fun b o e =>
  k b o (by rw [upd_ne (ne_of_none e nx), upd_ne (ne_of_none e nd)]; exact e) (ne_of_none e nx)
end L2
end
section
set_option Elab.async false
namespace My
open Sv17

def esz (e : Edit) : Nat := (e.map Step.size).sum
theorem esz_nil : esz [] = 0 := rfl
theorem esz_cons (s : Step) (r : Edit) : esz (s :: r) = s.size + esz r := by simp [esz]
theorem esz_append (a b : Edit) : esz (a ++ b) = esz a + esz b := by simp [esz]
theorem before_nil : before [] = 0 := rfl
theorem behind_nil : behind [] = 0 := rfl
theorem before_keep (n : Nat) (r : Edit) : before (.keep n :: r) = n + before r := by simp [before, Step.size]
theorem before_ins (c : Bytes) (r : Edit) : before (.ins c :: r) = before r := by simp [before]
theorem before_del (n : Nat) (r : Edit) : before (.del n :: r) = n + before r := by simp [before, Step.size]
theorem behind_keep (n : Nat) (r : Edit) : behind (.keep n :: r) = n + behind r := by simp [behind, Step.size]
theorem behind_ins (c : Bytes) (r : Edit) : behind (.ins c :: r) = c.length + behind r := by simp [behind, Step.size]
theorem behind_del (n : Nat) (r : Edit) : behind (.del n :: r) = behind r := by simp [behind]
theorem before_append (a b : Edit) : before (a ++ b) = before a + before b := by simp [before]
theorem behind_append (a b : Edit) : behind (a ++ b) = behind a + behind b := by simp [behind]
theorem esz_le (e : Edit) : esz e ≤ before e + behind e := by
  induction e with
  | nil => exact Nat.le_refl _
  | cons s r ih =>
    cases s <;> simp only [esz_cons, before_keep, before_ins, before_del, behind_keep, behind_ins, behind_del, Step.size] <;> omega
theorem before_le (e : Edit) : before e ≤ esz e := by
  induction e with
  | nil => exact Nat.le_refl _
  | cons s r ih =>
    cases s <;> simp only [esz_cons, before_keep, before_ins, before_del, Step.size] <;> omega
theorem behind_le (e : Edit) : behind e ≤ esz e := by
  induction e with
  | nil => exact Nat.le_refl _
  | cons s r ih =>
    cases s <;> simp only [esz_cons, behind_keep, behind_ins, behind_del, Step.size] <;> omega

/-- every step has something -/
def PosE (e : Edit) : Prop := ∀ s ∈ e, 0 < s.size
theorem PosE.nil : PosE [] := fun _ h => nomatch h
theorem PosE.cons {s : Step} {r : Edit} (h : 0 < s.size) (t : PosE r) : PosE (s :: r) := fun x hx => by
  rcases List.mem_cons.mp hx with e | m
  · rw [e]; exact h
  · exact t x m
theorem PosE.head {s : Step} {r : Edit} (h : PosE (s :: r)) : 0 < s.size := h s List.mem_cons_self
theorem PosE.tail {s : Step} {r : Edit} (h : PosE (s :: r)) : PosE r := fun x hx => h x (List.mem_cons_of_mem _ hx)
theorem PosE.app {a b : Edit} (h : PosE a) (t : PosE b) : PosE (a ++ b) := fun x hx => by
  rcases List.mem_append.mp hx with m | m
  · exact h x m
  · exact t x m
theorem PosE.len {e : Edit} (h : PosE e) : e.length ≤ esz e := by
  induction e with
  | nil => exact Nat.le_refl _
  | cons s r ih =>
    have := h.head
    have := ih h.tail
    rw [esz_cons, List.length_cons]; omega

/-! ### what is left of a step -/
theorem rest_esz (s : Step) (k : Nat) : esz (s.rest k) = s.size - k := by
  unfold Step.rest
  split
  · rw [esz_nil]; omega
  · cases s <;> simp [esz, Step.size]
theorem rest_all {s : Step} {k : Nat} (h : s.size ≤ k) : s.rest k = [] := by unfold Step.rest; rw [if_pos h]
theorem rest_len (s : Step) (k : Nat) : (s.rest k).length ≤ 1 := by
  unfold Step.rest
  split
  · exact Nat.zero_le _
  · cases s <;> simp
theorem rest_pos (s : Step) (k : Nat) : PosE (s.rest k) := by
  unfold Step.rest
  split
  · exact PosE.nil
  · rename_i h
    cases s <;> (refine PosE.cons ?_ PosE.nil; simp [Step.size] at h ⊢; omega)

/-! ### composed, turned: the fuel is enough -/
def mu (a b : Edit) : Nat := esz a + esz b + a.length + b.length
theorem fuel_mu (a b : Edit) : fuel a b = mu a b + 1 := rfl
theorem mu_l (s : Step) (r b : Edit) : mu r b < mu (s :: r) b := by unfold mu; rw [esz_cons, List.length_cons]; omega
theorem mu_r (s : Step) (a t : Edit) : mu a t < mu a (s :: t) := by unfold mu; rw [esz_cons, List.length_cons]; omega
theorem mu_b (x y : Step) (r t : Edit) : mu (x.rest (min x.size y.size) ++ r) (y.rest (min x.size y.size) ++ t) < mu (x :: r) (y :: t) := by
  unfold mu
  rw [esz_append, esz_append, esz_cons, esz_cons, rest_esz, rest_esz, List.length_append, List.length_append, List.length_cons, List.length_cons]
  have h1 := rest_len x (min x.size y.size)
  have h2 := rest_len y (min x.size y.size)
  by_cases h : x.size ≤ y.size
  · rw [Nat.min_eq_left h] at h1 h2 ⊢
    rw [rest_all (Nat.le_refl x.size)] at h1 ⊢
    simp only [List.length_nil]
    omega
  · have h' : y.size ≤ x.size := by omega
    rw [Nat.min_eq_right h'] at h1 h2 ⊢
    rw [rest_all (Nat.le_refl y.size)] at h2 ⊢
    simp only [List.length_nil]
    omega

theorem comp_fuel : ∀ (f g : Nat) (a b : Edit), mu a b < f → mu a b < g → composed f a b = composed g a b
  | 0, _, _, _, h, _ => absurd h (Nat.not_lt_zero _)
  | _ + 1, 0, _, _, _, h => absurd h (Nat.not_lt_zero _)
  | f + 1, g + 1, [], [], _, _ => rfl
  | f + 1, g + 1, [], .ins c :: t, h, h' => by
    have q := mu_r (.ins c) [] t
    simp only [composed]
    rw [comp_fuel f g [] t (by omega) (by omega)]
  | f + 1, g + 1, [], .keep n :: t, h, h' => rfl
  | f + 1, g + 1, [], .del n :: t, h, h' => rfl
  | f + 1, g + 1, .del n :: r, b, h, h' => by
    have q := mu_l (.del n) r b
    simp only [composed]
    rw [comp_fuel f g r b (by omega) (by omega)]
  | f + 1, g + 1, .keep n :: r, [], h, h' => rfl
  | f + 1, g + 1, .ins n :: r, [], h, h' => rfl
  | f + 1, g + 1, .keep n :: r, .ins c :: t, h, h' => by
    have q := mu_r (.ins c) (.keep n :: r) t
    simp only [composed]
    rw [comp_fuel f g (.keep n :: r) t (by omega) (by omega)]
  | f + 1, g + 1, .ins n :: r, .ins c :: t, h, h' => by
    have q := mu_r (.ins c) (.ins n :: r) t
    simp only [composed]
    rw [comp_fuel f g (.ins n :: r) t (by omega) (by omega)]
  | f + 1, g + 1, .keep n :: r, .keep m :: t, h, h' => by
    have q := mu_b (.keep n) (.keep m) r t
    simp only [composed]
    rw [comp_fuel f g _ _ (Nat.lt_of_lt_of_le q (by omega)) (Nat.lt_of_lt_of_le q (by omega))]
  | f + 1, g + 1, .keep n :: r, .del m :: t, h, h' => by
    have q := mu_b (.keep n) (.del m) r t
    simp only [composed]
    rw [comp_fuel f g _ _ (Nat.lt_of_lt_of_le q (by omega)) (Nat.lt_of_lt_of_le q (by omega))]
  | f + 1, g + 1, .ins n :: r, .keep m :: t, h, h' => by
    have q := mu_b (.ins n) (.keep m) r t
    simp only [composed]
    rw [comp_fuel f g _ _ (Nat.lt_of_lt_of_le q (by omega)) (Nat.lt_of_lt_of_le q (by omega))]
  | f + 1, g + 1, .ins n :: r, .del m :: t, h, h' => by
    have q := mu_b (.ins n) (.del m) r t
    simp only [composed]
    rw [comp_fuel f g _ _ (Nat.lt_of_lt_of_le q (by omega)) (Nat.lt_of_lt_of_le q (by omega))]

def CC (a b : Edit) : Edit := composed (fuel a b) a b
theorem cc_of {f : Nat} {a b : Edit} (h : mu a b < f) : composed f a b = CC a b := comp_fuel f _ a b h (by rw [fuel_mu]; omega)
theorem cc_nil : CC [] [] = [] := rfl
theorem cc_del (n : Nat) (r b : Edit) : CC (.del n :: r) b = .del n :: CC r b := by
  have q := mu_l (.del n) r b
  unfold CC
  rw [fuel_mu]
  simp only [composed]
  rw [cc_of (f := mu (.del n :: r) b) q]
  rfl
def notDel : Edit → Prop
  | .del _ :: _ => False
  | _ => True
theorem cc_ins {a : Edit} (h : notDel a) (c : Bytes) (t : Edit) : CC a (.ins c :: t) = .ins c :: CC a t := by
  have q := mu_r (.ins c) a t
  show composed (fuel a (.ins c :: t)) a (.ins c :: t) = _
  rw [fuel_mu]
  match a, h with
  | [], _ =>
    simp only [composed]
    rw [cc_of q]
  | .keep n :: r, _ =>
    simp only [composed]
    rw [cc_of q]
  | .ins n :: r, _ =>
    simp only [composed]
    rw [cc_of q]
def hereC (x y : Step) (k : Nat) : Edit := match x, y with
  | .keep _, .keep _ => [.keep k]
  | .keep _, .del _ => [.del k]
  | .ins c, .keep _ => [.ins (c.take k)]
  | _, _ => []
def isIns : Step → Bool
  | .ins _ => true
  | _ => false
def isDel : Step → Bool
  | .del _ => true
  | _ => false
def isKeep : Step → Bool
  | .keep _ => true
  | _ => false
theorem cc_both (x y : Step) (r t : Edit) (hx : isDel x = false) (hy : isIns y = false) :
    CC (x :: r) (y :: t) = hereC x y (min x.size y.size) ++ CC (x.rest (min x.size y.size) ++ r) (y.rest (min x.size y.size) ++ t) := by
  have q := mu_b x y r t
  show composed (fuel (x :: r) (y :: t)) (x :: r) (y :: t) = _
  rw [fuel_mu]
  match x, y, hx, hy with
  | .keep n, .keep m, _, _ =>
    simp only [composed]
    rw [cc_of q]; rfl
  | .keep n, .del m, _, _ =>
    simp only [composed]
    rw [cc_of q]; rfl
  | .ins n, .keep m, _, _ =>
    simp only [composed]
    rw [cc_of q]; rfl
  | .ins n, .del m, _, _ =>
    simp only [composed]
    rw [cc_of q]; rfl
end My
end
section
set_option Elab.async false
namespace My
open Sv17
theorem turn_fuel : ∀ (f g : Nat) (a b : Edit), mu a b < f → mu a b < g → turned f a b = turned g a b
  | 0, _, _, _, h, _ => absurd h (Nat.not_lt_zero _)
  | _ + 1, 0, _, _, _, h => absurd h (Nat.not_lt_zero _)
  | f + 1, g + 1, [], [], _, _ => rfl
  | f + 1, g + 1, .ins c :: r, b, h, h' => by
    have q := mu_l (.ins c) r b
    simp only [turned]
    rw [turn_fuel f g r b (by omega) (by omega)]
  | f + 1, g + 1, [], .ins c :: t, h, h' => by
    have q := mu_r (.ins c) [] t
    simp only [turned]
    rw [turn_fuel f g [] t (by omega) (by omega)]
  | f + 1, g + 1, [], .keep n :: t, h, h' => rfl
  | f + 1, g + 1, [], .del n :: t, h, h' => rfl
  | f + 1, g + 1, .keep n :: r, [], h, h' => rfl
  | f + 1, g + 1, .del n :: r, [], h, h' => rfl
  | f + 1, g + 1, .keep n :: r, .ins c :: t, h, h' => by
    have q := mu_r (.ins c) (.keep n :: r) t
    simp only [turned]
    rw [turn_fuel f g (.keep n :: r) t (by omega) (by omega)]
  | f + 1, g + 1, .del n :: r, .ins c :: t, h, h' => by
    have q := mu_r (.ins c) (.del n :: r) t
    simp only [turned]
    rw [turn_fuel f g (.del n :: r) t (by omega) (by omega)]
  | f + 1, g + 1, .keep n :: r, .keep m :: t, h, h' => by
    have q := mu_b (.keep n) (.keep m) r t
    simp only [turned]
    rw [turn_fuel f g _ _ (Nat.lt_of_lt_of_le q (by omega)) (Nat.lt_of_lt_of_le q (by omega))]
  | f + 1, g + 1, .keep n :: r, .del m :: t, h, h' => by
    have q := mu_b (.keep n) (.del m) r t
    simp only [turned]
    rw [turn_fuel f g _ _ (Nat.lt_of_lt_of_le q (by omega)) (Nat.lt_of_lt_of_le q (by omega))]
  | f + 1, g + 1, .del n :: r, .keep m :: t, h, h' => by
    have q := mu_b (.del n) (.keep m) r t
    simp only [turned]
    rw [turn_fuel f g _ _ (Nat.lt_of_lt_of_le q (by omega)) (Nat.lt_of_lt_of_le q (by omega))]
  | f + 1, g + 1, .del n :: r, .del m :: t, h, h' => by
    have q := mu_b (.del n) (.del m) r t
    simp only [turned]
    rw [turn_fuel f g _ _ (Nat.lt_of_lt_of_le q (by omega)) (Nat.lt_of_lt_of_le q (by omega))]
def TT (a b : Edit) : Edit × Edit := turned (fuel a b) a b
theorem tt_of {f : Nat} {a b : Edit} (h : mu a b < f) : turned f a b = TT a b := turn_fuel f _ a b h (by rw [fuel_mu]; omega)
theorem tt_nil : TT [] [] = ([], []) := rfl
theorem tt_ins1 (c : Bytes) (r b : Edit) : TT (.ins c :: r) b = (.ins c :: (TT r b).1, .keep c.length :: (TT r b).2) := by
  have q := mu_l (.ins c) r b
  show turned (fuel (.ins c :: r) b) (.ins c :: r) b = _
  rw [fuel_mu]
  simp only [turned]
  rw [tt_of q]
def notIns : Edit → Prop
  | .ins _ :: _ => False
  | _ => True
theorem tt_ins2 {a : Edit} (h : notIns a) (c : Bytes) (t : Edit) : TT a (.ins c :: t) = (.keep c.length :: (TT a t).1, .ins c :: (TT a t).2) := by
  have q := mu_r (.ins c) a t
  show turned (fuel a (.ins c :: t)) a (.ins c :: t) = _
  rw [fuel_mu]
  match a, h with
  | [], _ =>
    simp only [turned]
    rw [tt_of q]
  | .keep n :: r, _ =>
    simp only [turned]
    rw [tt_of q]
  | .del n :: r, _ =>
    simp only [turned]
    rw [tt_of q]
def here1 (x y : Step) (k : Nat) : Edit := match x, y with
  | .keep _, .keep _ => [.keep k]
  | .del _, .keep _ => [.del k]
  | _, _ => []
def here2 (x y : Step) (k : Nat) : Edit := match x, y with
  | .keep _, .keep _ => [.keep k]
  | .keep _, .del _ => [.del k]
  | _, _ => []
theorem tt_both (x y : Step) (r t : Edit) (hx : isIns x = false) (hy : isIns y = false) :
    TT (x :: r) (y :: t) = (here1 x y (min x.size y.size) ++ (TT (x.rest (min x.size y.size) ++ r) (y.rest (min x.size y.size) ++ t)).1,
      here2 x y (min x.size y.size) ++ (TT (x.rest (min x.size y.size) ++ r) (y.rest (min x.size y.size) ++ t)).2) := by
  have q := mu_b x y r t
  show turned (fuel (x :: r) (y :: t)) (x :: r) (y :: t) = _
  rw [fuel_mu]
  match x, y, hx, hy with
  | .keep n, .keep m, _, _ =>
    simp only [turned]
    rw [tt_of q]; rfl
  | .keep n, .del m, _, _ =>
    simp only [turned]
    rw [tt_of q]; rfl
  | .del n, .keep m, _, _ =>
    simp only [turned]
    rw [tt_of q]; rfl
  | .del n, .del m, _, _ =>
    simp only [turned]
    rw [tt_of q]; rfl

/-! ### the row that is put together -/
structure RS where
  closed : Edit
  kept : Nat
  put : Bytes
  taken : Nat
def oK (n : Nat) : Edit := if 0 < n then [.keep n] else []
def oI (b : Bytes) : Edit := if 0 < b.length then [.ins b] else []
def oD (n : Nat) : Edit := if 0 < n then [.del n] else []
def RS.flat (r : RS) : Edit := r.closed ++ oK r.kept ++ oI r.put ++ oD r.taken
def RS.init : RS := ⟨[], 0, [], 0⟩
def RS.close (r : RS) : RS := ⟨r.flat, 0, [], 0⟩
def RS.keep (r : RS) (n : Nat) : RS := if 0 < r.taken ∨ 0 < r.put.length then ⟨r.flat, n, [], 0⟩ else { r with kept := r.kept + n }
def RS.ins (r : RS) (b : Bytes) : RS := { r with put := r.put ++ b }
def RS.del (r : RS) (n : Nat) : RS := { r with taken := r.taken + n }
def RS.op (r : RS) : Step → RS
  | .keep n => r.keep n
  | .ins b => r.ins b
  | .del n => r.del n
def RS.run (r : RS) (l : Edit) : RS := l.foldl RS.op r
def RS.tot (r : RS) : Nat := esz r.closed + r.kept + r.put.length + r.taken
theorem oK_esz (n : Nat) : esz (oK n) = n := by unfold oK; split <;> simp [esz, Step.size] <;> omega
theorem oI_esz (b : Bytes) : esz (oI b) = b.length := by unfold oI; split <;> simp [esz, Step.size] <;> omega
theorem oD_esz (n : Nat) : esz (oD n) = n := by unfold oD; split <;> simp [esz, Step.size] <;> omega
theorem RS.esz_flat (r : RS) : esz r.flat = r.tot := by
  unfold RS.flat RS.tot
  rw [esz_append, esz_append, esz_append, oK_esz, oI_esz, oD_esz]
theorem RS.tot_op (r : RS) (s : Step) : (r.op s).tot = r.tot + s.size := by
  cases s with
  | keep n =>
    show (r.keep n).tot = _
    unfold RS.keep
    split
    · have := r.esz_flat
      show esz r.flat + n + 0 + 0 = _
      rw [this]; simp [Step.size]
    · show esz r.closed + (r.kept + n) + r.put.length + r.taken = esz r.closed + r.kept + r.put.length + r.taken + n
      omega
  | ins b =>
    show esz r.closed + r.kept + (r.put ++ b).length + r.taken = esz r.closed + r.kept + r.put.length + r.taken + b.length
    rw [List.length_append]; omega
  | del n =>
    show esz r.closed + r.kept + r.put.length + (r.taken + n) = esz r.closed + r.kept + r.put.length + r.taken + n
    omega
def notK (e : Edit) : Prop := ∀ n, e.getLast? ≠ some (.keep n)
structure RS.Ok (r : RS) : Prop where
  zero : r.kept = 0 → r.closed = []
  last : notK r.closed
  pos : PosE r.closed
theorem RS.Ok.init : RS.Ok RS.init := ⟨fun _ => rfl, (fun _ h => nomatch h), PosE.nil⟩
theorem oK_pos (n : Nat) : PosE (oK n) := by
  unfold oK; split
  · rename_i h; exact PosE.cons h PosE.nil
  · exact PosE.nil
theorem oI_pos (b : Bytes) : PosE (oI b) := by
  unfold oI; split
  · rename_i h; exact PosE.cons h PosE.nil
  · exact PosE.nil
theorem oD_pos (n : Nat) : PosE (oD n) := by
  unfold oD; split
  · rename_i h; exact PosE.cons h PosE.nil
  · exact PosE.nil
theorem RS.Ok.flat {r : RS} (h : r.Ok) : PosE r.flat := ((h.pos.app (oK_pos _)).app (oI_pos _)).app (oD_pos _)

theorem put_new {l : Edit} {s : Step} (h : 0 < s.size) (e : l.getLast? = none) : Sv17.put l s = l ++ [s] := by
  unfold Sv17.put
  rw [if_neg (by omega), e]
/-- the row's step is the specification's -/
theorem op_flat {r : RS} {s : Step} (h : r.Ok) (hs : 0 < s.size) : (r.op s).flat = Sv17.put r.flat s ∧ (r.op s).Ok := by
  obtain ⟨c, k, p, t⟩ := r
  obtain ⟨hz, hl, hp⟩ := h
  have hz' : k = 0 → c = [] := hz
  have hl' : notK c := hl
  have h0 : ¬ s.size = 0 := by omega
  cases s with
  | keep n =>
    have hn : 0 < n := hs
    by_cases ht : 0 < t ∨ 0 < p.length
    · have e : RS.op ⟨c, k, p, t⟩ (.keep n) = ⟨RS.flat ⟨c, k, p, t⟩, n, [], 0⟩ := by
        show RS.keep _ n = _
        unfold RS.keep
        rw [if_pos ht]
      rw [e]
      have hlast : ∃ x, (RS.flat ⟨c, k, p, t⟩).getLast? = some x ∧ isKeep x = false := by
        show ∃ x, (c ++ oK k ++ oI p ++ oD t).getLast? = some x ∧ _
        by_cases h1 : 0 < t
        · refine ⟨.del t, ?_, rfl⟩
          unfold oD; rw [if_pos h1]; simp
        · have h2 : 0 < p.length := ht.resolve_left h1
          refine ⟨.ins p, ?_, rfl⟩
          unfold oD; rw [if_neg h1]; unfold oI; rw [if_pos h2]; simp
      obtain ⟨x, hx, hk⟩ := hlast
      refine ⟨?_, fun z => absurd z (by show n ≠ 0; omega), fun m z => ?_, ?_⟩
      · show RS.flat ⟨c, k, p, t⟩ ++ oK n ++ oI [] ++ oD 0 = _
        unfold Sv17.put
        rw [if_neg h0, hx]
        cases x with
        | keep m => cases hk
        | ins b => simp [oK, oI, oD, hn]
        | del m => simp [oK, oI, oD, hn]
      · have z : (RS.flat ⟨c, k, p, t⟩).getLast? = some (.keep m) := z
        rw [hx] at z; cases z; cases hk
      · exact RS.Ok.flat ⟨hz, hl, hp⟩
    · have ht0 : t = 0 := by omega
      have hp0 : p = [] := List.length_eq_zero_iff.mp (by omega)
      subst ht0 hp0
      have e : RS.op ⟨c, k, [], 0⟩ (.keep n) = ⟨c, k + n, [], 0⟩ := by
        show RS.keep _ n = _
        unfold RS.keep
        rw [if_neg ht]
      rw [e]
      refine ⟨?_, fun z => absurd z (by show k + n ≠ 0; omega), hl', hp⟩
      show c ++ oK (k + n) ++ oI [] ++ oD 0 = Sv17.put (c ++ oK k ++ oI [] ++ oD 0) (.keep n)
      by_cases hk : 0 < k
      · have e1 : c ++ oK k ++ oI [] ++ oD 0 = c ++ [.keep k] := by simp [oK, oI, oD, hk]
        rw [e1]
        unfold Sv17.put
        rw [if_neg h0]
        have hkn : 0 < k + n := by omega
        simp [oK, oI, oD, hkn]
      · have hk0 : k = 0 := by omega
        subst hk0
        have hc := hz' rfl
        subst hc
        simp [oK, oI, oD, hn, Sv17.put, Step.size]
        omega
  | ins b =>
    have hb : 0 < b.length := hs
    refine ⟨?_, hz', hl', hp⟩
    show c ++ oK k ++ oI (p ++ b) ++ oD t = Sv17.put (c ++ oK k ++ oI p ++ oD t) (.ins b)
    have ei : oI (p ++ b) = [.ins (p ++ b)] := by unfold oI; rw [if_pos (by rw [List.length_append]; omega)]
    rw [ei]
    have hck : ∀ y, (c ++ oK k).getLast? = some y → isKeep y = true := fun y hy => by
      by_cases hk : 0 < k
      · simp [oK, hk] at hy; subst hy; rfl
      · have hk0 : k = 0 := by omega
        subst hk0
        rw [hz' rfl] at hy
        simp [oK] at hy
    unfold Sv17.put
    rw [if_neg h0]
    clear ei
    generalize c ++ oK k = L at hck ⊢
    by_cases ht : 0 < t
    · have ed : oD t = [.del t] := by unfold oD; rw [if_pos ht]
      rw [ed]
      by_cases hp1 : 0 < p.length
      · have e2 : oI p = [.ins p] := by unfold oI; rw [if_pos hp1]
        rw [e2]
        simp
      · have hp0 : p = [] := List.length_eq_zero_iff.mp (by omega)
        subst hp0
        have e2 : oI [] = [] := rfl
        rw [e2, List.append_nil, List.nil_append, List.getLast?_append, List.getLast?_singleton, Option.some_or, List.dropLast_concat]
        cases hq : L.getLast? with
        | none => simp
        | some y =>
          have := hck y hq
          cases y with
          | keep m => simp
          | ins m => cases this
          | del m => cases this
    · have ed : oD t = [] := by unfold oD; rw [if_neg ht]
      rw [ed]
      by_cases hp1 : 0 < p.length
      · have e2 : oI p = [.ins p] := by unfold oI; rw [if_pos hp1]
        rw [e2]
        simp
      · have hp0 : p = [] := List.length_eq_zero_iff.mp (by omega)
        subst hp0
        have e2 : oI [] = [] := rfl
        rw [e2, List.append_nil, List.append_nil, List.append_nil, List.nil_append]
        cases hq : L.getLast? with
        | none => rfl
        | some y =>
          have := hck y hq
          cases y with
          | keep m => rfl
          | ins m => cases this
          | del m => cases this
  | del n =>
    have hn : 0 < n := hs
    refine ⟨?_, hz', hl', hp⟩
    show c ++ oK k ++ oI p ++ oD (t + n) = Sv17.put (c ++ oK k ++ oI p ++ oD t) (.del n)
    have ei : oD (t + n) = [.del (t + n)] := by unfold oD; rw [if_pos (by omega)]
    rw [ei]
    unfold Sv17.put
    rw [if_neg h0]
    by_cases ht : 0 < t
    · have ed : oD t = [.del t] := by unfold oD; rw [if_pos ht]
      rw [ed]
      simp
    · have ht0 : t = 0 := by omega
      subst ht0
      have ed : oD 0 = [] := rfl
      rw [ed, List.append_nil]
      have nd : ∀ y, (c ++ oK k ++ oI p).getLast? = some y → isDel y = false := fun y hy => by
        by_cases hp1 : 0 < p.length
        · simp [oI, hp1] at hy; subst hy; rfl
        · have hp0 : p = [] := List.length_eq_zero_iff.mp (by omega)
          subst hp0
          by_cases hk : 0 < k
          · simp [oI, oK, hk] at hy; subst hy; rfl
          · have hk0 : k = 0 := by omega
            subst hk0
            rw [hz' rfl] at hy
            simp [oK, oI] at hy
      generalize c ++ oK k ++ oI p = L at nd ⊢
      cases hq : L.getLast? with
      | none => simp
      | some y =>
        have := nd y hq
        cases y with
        | keep m => simp
        | ins m => simp
        | del m => cases this
theorem run_flat : ∀ (l : Edit) (r : RS), r.Ok → PosE l → (r.run l).flat = l.foldl Sv17.put r.flat ∧ (r.run l).Ok
  | [], r, h, _ => ⟨rfl, h⟩
  | s :: l, r, h, hp => by
    obtain ⟨e, o⟩ := op_flat h hp.head
    have := run_flat l (r.op s) o hp.tail
    rw [e] at this
    exact this
theorem run_formed {l : Edit} (hp : PosE l) : (RS.init.run l).flat = formed l := (run_flat l RS.init RS.Ok.init hp).1
theorem run_ok {l : Edit} {r : RS} (h : r.Ok) (hp : PosE l) : (r.run l).Ok := (run_flat l r h hp).2
theorem run_append (r : RS) (a b : Edit) : r.run (a ++ b) = (r.run a).run b := by unfold RS.run; rw [List.foldl_append]
theorem run_cons (r : RS) (s : Step) (b : Edit) : r.run (s :: b) = (r.op s).run b := rfl
theorem run_nil (r : RS) : r.run [] = r := rfl
theorem insdel (r : RS) (b : Bytes) (n : Nat) : (r.ins b).del n = (r.del n).ins b := rfl
/-- what is put in by the second may come ahead of what the first takes out -/
theorem cc_ins_run (c : Bytes) (t : Edit) : ∀ (a : Edit) (r : RS), r.run (CC a (.ins c :: t)) = (r.ins c).run (CC a t)
  | [], r => by rw [cc_ins (a := []) trivial]; rfl
  | .keep n :: q, r => by rw [cc_ins (a := .keep n :: q) trivial]; rfl
  | .ins n :: q, r => by rw [cc_ins (a := .ins n :: q) trivial]; rfl
  | .del n :: q, r => by
    rw [cc_del, cc_del, run_cons, run_cons]
    exact cc_ins_run c t q (r.del n)
end My
end
section
set_option Elab.async false
namespace My
open Sv17
/-! ### the form -/
def kd : Step → Nat
  | .keep _ => 1
  | .ins _ => 2
  | .del _ => 3
def mayF (k p : Nat) : Bool := if k = p then false else !(decide (k = 2) && decide (p = 3))
def goodF : Nat → Edit → Bool
  | _, [] => true
  | p, s :: r => decide (0 < s.size) && (mayF (kd s) p && goodF (kd s) r)
def lastK (p : Nat) (l : Edit) : Nat := match l.getLast? with
  | some s => kd s
  | none => p
theorem lastK_nil (p : Nat) : lastK p [] = p := rfl
theorem lastK_snoc (p : Nat) (l : Edit) (s : Step) : lastK p (l ++ [s]) = kd s := by unfold lastK; simp
theorem lastK_cons (p : Nat) (s : Step) (l : Edit) : lastK p (s :: l) = lastK (kd s) l := by
  cases l with
  | nil => rfl
  | cons a l =>
    unfold lastK
    rw [List.getLast?_cons_cons]
    cases h : (a :: l).getLast? with
    | none => simp at h
    | some y => rfl
theorem good_append : ∀ (l m : Edit) (p : Nat), goodF p (l ++ m) = (goodF p l && goodF (lastK p l) m)
  | [], m, p => by simp [goodF, lastK]
  | s :: l, m, p => by
    rw [List.cons_append, lastK_cons]
    simp only [goodF, good_append l m (kd s), Bool.and_assoc]
theorem good_snoc (l : Edit) (s : Step) (p : Nat) : goodF p (l ++ [s]) = (goodF p l && (decide (0 < s.size) && mayF (kd s) (lastK p l))) := by
  rw [good_append]; simp [goodF]
theorem snoc_of {α : Type} (l : List α) : l = [] ∨ ∃ l' x, l = l' ++ [x] := by
  rcases List.eq_nil_or_concat l with h | ⟨l', x, h⟩
  · exact .inl h
  · exact .inr ⟨l', x, by rw [h, List.concat_eq_append]⟩
theorem put_snoc {l : Edit} {s : Step} (hs : 0 < s.size) (h : mayF (kd s) (lastK 0 l) = true) : Sv17.put l s = l ++ [s] := by
  unfold Sv17.put
  rw [if_neg (by omega)]
  unfold lastK at h
  cases e : l.getLast? with
  | none => rfl
  | some x =>
    rw [e] at h
    cases x <;> cases s <;> first | rfl | (simp [mayF, kd] at h)
theorem foldl_good : ∀ (e acc : Edit), goodF (lastK 0 acc) e = true → e.foldl Sv17.put acc = acc ++ e
  | [], acc, _ => by simp
  | s :: e, acc, h => by
    simp only [goodF, Bool.and_eq_true, decide_eq_true_eq] at h
    obtain ⟨h1, h2, h3⟩ := h
    rw [List.foldl_cons, put_snoc h1 h2, foldl_good e (acc ++ [s]) (by rw [lastK_snoc]; exact h3)]
    simp
theorem formed_good {e : Edit} (h : goodF 0 e = true) : formed e = e := by
  have := foldl_good e [] h
  simpa [formed] using this
theorem mayF_pos {s : Step} {l : Edit} (h : goodF 0 (l ++ [s]) = true) : goodF 0 l = true ∧ 0 < s.size ∧ mayF (kd s) (lastK 0 l) = true := by
  rw [good_snoc] at h
  simpa using h
theorem put_good (l : Edit) (s : Step) (h : goodF 0 l = true) : goodF 0 (Sv17.put l s) = true := by
  by_cases hs : s.size = 0
  · unfold Sv17.put; rw [if_pos hs]; exact h
  by_cases hm : mayF (kd s) (lastK 0 l) = true
  · rw [put_snoc (by omega) hm, good_snoc, h, hm]
    simp; omega
  rcases snoc_of l with rfl | ⟨l', x, rfl⟩
  · exact absurd (by cases s <;> rfl) hm
  obtain ⟨g1, g2, g3⟩ := mayF_pos h
  rw [lastK_snoc] at hm
  unfold Sv17.put
  rw [if_neg hs]
  simp only [List.getLast?_append, List.getLast?_singleton, Option.some_or, List.dropLast_concat]
  cases x with
  | keep n =>
    cases s with
    | keep m =>
      simp only []
      have q : 0 < n + m := Nat.lt_of_lt_of_le (show 0 < n from g2) (Nat.le_add_right _ _)
      rw [good_snoc, g1]
      show (true && (decide (0 < n + m) && mayF 1 (lastK 0 l'))) = true
      rw [decide_eq_true q]
      exact g3
    | ins m => exact absurd rfl hm
    | del m => exact absurd rfl hm
  | ins b =>
    cases s with
    | keep m => exact absurd rfl hm
    | ins c =>
      simp only []
      rw [good_snoc, g1]
      simp [kd, Step.size] at g2 g3 ⊢
      exact ⟨by omega, g3⟩
    | del m => exact absurd rfl hm
  | del n =>
    cases s with
    | keep m => exact absurd rfl hm
    | ins c =>
      simp only []
      have hc : 0 < c.length := Nat.pos_of_ne_zero hs
      have hn : 0 < n := g2
      have fin2 : ∀ (d : Bytes) (L : Edit), goodF 0 L = true → 0 < d.length → mayF 2 (lastK 0 L) = true → goodF 0 (L ++ [.ins d, .del n]) = true := fun d L a1 a2 a3 => by
        have e : L ++ [Step.ins d, Step.del n] = (L ++ [Step.ins d]) ++ [Step.del n] := by simp
        rw [e, good_snoc, good_snoc, lastK_snoc, a1]
        simp only [kd, a3, Step.size]
        simp [a2, hn, mayF]
      rcases snoc_of l' with rfl | ⟨l'', y, rfl⟩
      · exact fin2 c [] rfl hc rfl
      · obtain ⟨k1, k2, k3⟩ := mayF_pos g1
        rw [lastK_snoc] at g3
        simp only [List.getLast?_append, List.getLast?_singleton, Option.some_or, List.dropLast_concat]
        cases y with
        | keep m => exact fin2 c _ g1 hc (by rw [lastK_snoc]; rfl)
        | ins b => exact fin2 (b ++ c) _ k1 (by rw [List.length_append]; omega) k3
        | del m => cases g3
    | del m =>
      simp only []
      have q : 0 < n + m := Nat.lt_of_lt_of_le (show 0 < n from g2) (Nat.le_add_right _ _)
      rw [good_snoc, g1]
      show (true && (decide (0 < n + m) && mayF 3 (lastK 0 l'))) = true
      rw [decide_eq_true q]
      exact g3
theorem foldl_put_good : ∀ (e acc : Edit), goodF 0 acc = true → goodF 0 (e.foldl Sv17.put acc) = true
  | [], _, h => h
  | s :: e, acc, h => foldl_put_good e _ (put_good acc s h)
theorem good_formed (e : Edit) : goodF 0 (formed e) = true := foldl_put_good e [] rfl
theorem formed_iff (e : Edit) : formed e = e ↔ goodF 0 e = true := ⟨fun h => by have := good_formed e; rwa [h] at this, formed_good⟩
theorem good_pos : ∀ {e : Edit} {p : Nat}, goodF p e = true → PosE e
  | [], _, _ => PosE.nil
  | s :: e, p, h => by
    simp only [goodF, Bool.and_eq_true, decide_eq_true_eq] at h
    exact PosE.cons h.1 (good_pos h.2.2)
/-- what putting together keeps -/
theorem put_meas (m : Edit → Nat) (hm : ∀ a b, m (a ++ b) = m a + m b) (h0 : ∀ s : Step, s.size = 0 → m [s] = 0) (hk : ∀ a b, m [.keep (a + b)] = m [.keep a] + m [.keep b])
    (hi : ∀ a b : Bytes, m [.ins (a ++ b)] = m [.ins a] + m [.ins b]) (hd : ∀ a b, m [.del (a + b)] = m [.del a] + m [.del b]) (l : Edit) (s : Step) : m (Sv17.put l s) = m l + m [s] := by
  by_cases hs : s.size = 0
  · unfold Sv17.put; rw [if_pos hs, h0 s hs]; rfl
  have two : ∀ (x y : Step), m [x, y] = m [x] + m [y] := fun x y => hm [x] [y]
  rcases snoc_of l with rfl | ⟨l', x, rfl⟩
  · unfold Sv17.put
    rw [if_neg hs]
    show m ([] ++ [s]) = _
    rw [hm]
  unfold Sv17.put
  rw [if_neg hs]
  simp only [List.getLast?_append, List.getLast?_singleton, Option.some_or, List.dropLast_concat]
  cases x with
  | keep n =>
    cases s with
    | keep k => simp only [hm, hk]; omega
    | ins k => simp only [hm]
    | del k => simp only [hm]
  | ins n =>
    cases s with
    | keep k => simp only [hm]
    | ins k => simp only [hm, hi]; omega
    | del k => simp only [hm]
  | del n =>
    cases s with
    | keep k => simp only [hm]
    | ins k =>
      simp only []
      rcases snoc_of l' with rfl | ⟨l'', y, rfl⟩
      · simp only [List.getLast?_nil, hm, two]; omega
      · simp only [List.getLast?_append, List.getLast?_singleton, Option.some_or, List.dropLast_concat]
        cases y with
        | keep j => simp only [hm, two]; omega
        | ins j => simp only [hm, two, hi]; omega
        | del j => simp only [hm, two]; omega
    | del k => simp only [hm, hd]; omega
theorem put_esz (l : Edit) (s : Step) : esz (Sv17.put l s) = esz l + s.size := by
  have := put_meas esz esz_append (fun s h => by rw [esz_cons, h]; rfl) (fun a b => by simp [esz, Step.size]) (fun a b => by simp [esz, Step.size]) (fun a b => by simp [esz, Step.size]) l s
  rw [this, esz_cons, esz_nil]; omega
theorem put_before (l : Edit) (s : Step) : before (Sv17.put l s) = before l + before [s] :=
  put_meas before before_append (fun s h => by cases s <;> simp_all [before, Step.size]) (fun a b => by simp [before, Step.size]) (fun a b => by simp [before]) (fun a b => by simp [before, Step.size]) l s
theorem put_behind (l : Edit) (s : Step) : behind (Sv17.put l s) = behind l + behind [s] :=
  put_meas behind behind_append (fun s h => by cases s <;> simp_all [behind, Step.size]) (fun a b => by simp [behind, Step.size]) (fun a b => by simp [behind, Step.size]) (fun a b => by simp [behind]) l s
theorem fold_esz : ∀ (e acc : Edit), esz (e.foldl Sv17.put acc) = esz acc + esz e
  | [], acc => by simp [esz_nil]
  | s :: e, acc => by rw [List.foldl_cons, fold_esz e, put_esz, esz_cons]; omega
theorem fold_before : ∀ (e acc : Edit), before (e.foldl Sv17.put acc) = before acc + before e
  | [], acc => by simp [before_nil]
  | s :: e, acc => by
    have : before (s :: e) = before [s] + before e := before_append [s] e
    rw [List.foldl_cons, fold_before e, put_before, this]; omega
theorem fold_behind : ∀ (e acc : Edit), behind (e.foldl Sv17.put acc) = behind acc + behind e
  | [], acc => by simp [behind_nil]
  | s :: e, acc => by
    have : behind (s :: e) = behind [s] + behind e := behind_append [s] e
    rw [List.foldl_cons, fold_behind e, put_behind, this]; omega
theorem formed_esz (e : Edit) : esz (formed e) = esz e := by unfold formed; rw [fold_esz, esz_nil]; omega
theorem formed_before (e : Edit) : before (formed e) = before e := by unfold formed; rw [fold_before, before_nil]; omega
theorem formed_behind (e : Edit) : behind (formed e) = behind e := by unfold formed; rw [fold_behind, behind_nil]; omega
theorem formed_pos (e : Edit) : PosE (formed e) := good_pos (good_formed e)

/-! ### bytes to an edit -/
def fin (e : Edit) : Option Edit := if formed e = e ∧ before e ≤ TEXT ∧ behind e ≤ TEXT then some e else none
theorem fin_bad {e : Edit} (h : goodF 0 e = false) : fin e = none := by
  unfold fin
  rw [if_neg (fun z => by rw [(formed_iff e).mp z.1] at h; cases h)]
theorem fin_good {e : Edit} (h : goodF 0 e = true) : fin e = if before e ≤ TEXT ∧ behind e ≤ TEXT then some e else none := by
  unfold fin
  have := formed_good h
  by_cases q : before e ≤ TEXT ∧ behind e ≤ TEXT
  · rw [if_pos q, if_pos ⟨this, q⟩]
  · rw [if_neg q, if_neg fun z => q z.2]
theorem steps_fuel : ∀ (f g : Nat) (b : Bytes), b.length < f → b.length < g → stepsOf f b = stepsOf g b
  | 0, _, _, h, _ => absurd h (Nat.not_lt_zero _)
  | _ + 1, 0, _, _, h => absurd h (Nat.not_lt_zero _)
  | f + 1, g + 1, [], _, _ => rfl
  | f + 1, g + 1, k :: r, h, h' => by
    simp only [List.length_cons] at h h'
    have e1 : stepsOf f (r.drop 4) = stepsOf g (r.drop 4) := steps_fuel f g _ (by rw [List.length_drop]; omega) (by rw [List.length_drop]; omega)
    have e2 : ∀ n, stepsOf f ((r.drop 4).drop n) = stepsOf g ((r.drop 4).drop n) := fun n => steps_fuel f g _ (by rw [List.length_drop, List.length_drop]; omega) (by rw [List.length_drop, List.length_drop]; omega)
    simp only [stepsOf, e1, e2]
def SO (b : Bytes) : Option Edit := stepsOf (b.length + 1) b
theorem so_of {f : Nat} {b : Bytes} (h : b.length < f) : stepsOf f b = SO b := steps_fuel _ _ _ h (by omega)
theorem editOf_eq (b : Bytes) : editOf b = (SO b).bind fin := rfl
theorem so_nil : SO [] = some [] := rfl
theorem stepsOf_cons (f k : Nat) (r : Bytes) : stepsOf (f + 1) (k :: r) = if r.length < 4 then none else
    if k = 1 then (stepsOf f (r.drop 4)).map fun l => .keep (word r) :: l
    else if k = 2 then (if (r.drop 4).length < word r then none else (stepsOf f ((r.drop 4).drop (word r))).map fun l => .ins ((r.drop 4).take (word r)) :: l)
    else if k = 3 then (stepsOf f (r.drop 4)).map fun l => .del (word r) :: l else none := by
  simp only [stepsOf]
theorem so_cons (k : Nat) (r : Bytes) : SO (k :: r) = if r.length < 4 then none else
    if k = 1 then (SO (r.drop 4)).map fun l => .keep (word r) :: l
    else if k = 2 then (if (r.drop 4).length < word r then none else (SO ((r.drop 4).drop (word r))).map fun l => .ins ((r.drop 4).take (word r)) :: l)
    else if k = 3 then (SO (r.drop 4)).map fun l => .del (word r) :: l else none := by
  show stepsOf (r.length + 1 + 1) (k :: r) = _
  rw [stepsOf_cons]
  by_cases h : r.length < 4
  · rw [if_pos h, if_pos h]
  · rw [if_neg h, if_neg h, so_of (b := r.drop 4) (by rw [List.length_drop]; omega), so_of (b := (r.drop 4).drop (word r)) (by rw [List.length_drop, List.length_drop]; omega)]
/-- the edit's bytes read to here: acc; the rest -/
def Tol (b : Bytes) (place : Nat) (acc : Edit) : Prop := goodF 0 acc = true ∧ editOf b = (SO (b.drop place)).bind fun l => fin (acc ++ l)
theorem Tol.start (b : Bytes) : Tol b 0 [] := ⟨rfl, by rw [editOf_eq]; simp⟩
theorem Tol.done {b : Bytes} {place : Nat} {acc : Edit} (h : Tol b place acc) (hp : b.length ≤ place) : editOf b = if before acc ≤ TEXT ∧ behind acc ≤ TEXT then some acc else none := by
  obtain ⟨h1, h2⟩ := h
  rw [h2, List.drop_eq_nil_of_le hp, so_nil]
  simp [fin_good h1]
/-- what stands at a place -/
def stepAt (b : Bytes) (place : Nat) : Option Step :=
  if b.length < place + 5 then none else
  let r := b.drop (place + 1)
  let k := b.getD place 0
  if (k = 1 ∨ k = 2 ∨ k = 3) ∧ word r ≠ 0 then
    (if k = 1 then some (.keep (word r)) else if k = 3 then some (.del (word r)) else if (r.drop 4).length < word r then none else some (.ins ((r.drop 4).take (word r))))
  else none
def width : Step → Nat
  | .ins b => 5 + b.length
  | _ => 5
theorem drop_split (b : Bytes) (place : Nat) (h : place < b.length) : b.drop place = b.getD place 0 :: b.drop (place + 1) := by
  rw [List.drop_eq_getElem_cons h]
  simp [List.getD, h]
theorem no_zero {acc l : Edit} {s : Step} (h : s.size = 0) : fin (acc ++ s :: l) = none := by
  refine fin_bad ?_
  rw [good_append]
  simp [goodF, h]
theorem Tol.none {b : Bytes} {place : Nat} {acc : Edit} (h : Tol b place acc) (hp : place < b.length) (e : stepAt b place = none) : editOf b = none := by
  obtain ⟨_, h2⟩ := h
  rw [h2, drop_split b place hp, so_cons]
  unfold stepAt at e
  by_cases h4 : (b.drop (place + 1)).length < 4
  · rw [if_pos h4]; rfl
  rw [if_neg h4]
  rw [List.length_drop] at h4
  rw [if_neg (by omega)] at e
  simp only [] at e
  generalize hk : b.getD place 0 = k at e ⊢
  generalize hr : b.drop (place + 1) = r at e ⊢
  by_cases hw : word r = 0
  · rw [hw]
    have z1 : ∀ o : Option Edit, (o.map fun l => Step.keep 0 :: l).bind (fun l => fin (acc ++ l)) = Option.none := fun o => by
      cases o with
      | none => rfl
      | some l => exact no_zero rfl
    have z2 : ∀ (o : Option Edit), (o.map fun l => Step.ins (List.take 0 (List.drop 4 r)) :: l).bind (fun l => fin (acc ++ l)) = Option.none := fun o => by
      cases o with
      | none => rfl
      | some l => exact no_zero (by simp [Step.size])
    have z3 : ∀ o : Option Edit, (o.map fun l => Step.del 0 :: l).bind (fun l => fin (acc ++ l)) = Option.none := fun o => by
      cases o with
      | none => rfl
      | some l => exact no_zero rfl
    by_cases k1 : k = 1
    · rw [if_pos k1]; exact z1 _
    rw [if_neg k1]
    by_cases k2 : k = 2
    · rw [if_pos k2, if_neg (Nat.not_lt_zero _)]; exact z2 _
    rw [if_neg k2]
    by_cases k3 : k = 3
    · rw [if_pos k3]; exact z3 _
    rw [if_neg k3]; rfl
  · by_cases k1 : k = 1
    · rw [if_pos ⟨.inl k1, hw⟩, if_pos k1] at e; cases e
    rw [if_neg k1]
    by_cases k2 : k = 2
    · rw [if_pos ⟨.inr (.inl k2), hw⟩, if_neg k1, if_neg (by omega)] at e
      rw [if_pos k2]
      by_cases hl : (r.drop 4).length < word r
      · rw [if_pos hl]; rfl
      · rw [if_neg hl] at e; cases e
    rw [if_neg k2]
    by_cases k3 : k = 3
    · rw [if_pos ⟨.inr (.inr k3), hw⟩, if_neg k1, if_pos k3] at e; cases e
    rw [if_neg k3]; rfl
theorem so_step {b : Bytes} {place : Nat} {s : Step} (e : stepAt b place = some s) : place < b.length ∧ 0 < s.size ∧ place + width s ≤ b.length ∧ SO (b.drop place) = (SO (b.drop (place + width s))).map fun l => s :: l := by
  unfold stepAt at e
  by_cases h5 : b.length < place + 5
  · rw [if_pos h5] at e; cases e
  rw [if_neg h5] at e
  simp only [] at e
  rw [drop_split b place (by omega), so_cons, if_neg (by rw [List.length_drop]; omega)]
  generalize hk : b.getD place 0 = k at e ⊢
  have d5 : (b.drop (place + 1)).drop 4 = b.drop (place + 5) := by rw [List.drop_drop]
  rw [d5] at e ⊢
  generalize hn : word (b.drop (place + 1)) = n at e ⊢
  by_cases hc : (k = 1 ∨ k = 2 ∨ k = 3) ∧ n ≠ 0
  · rw [if_pos hc] at e
    by_cases k1 : k = 1
    · rw [if_pos k1] at e
      cases e
      rw [if_pos k1]
      exact ⟨by omega, Nat.pos_of_ne_zero hc.2, by show place + 5 ≤ _; omega, rfl⟩
    rw [if_neg k1] at e ⊢
    by_cases k3 : k = 3
    · rw [if_pos k3] at e
      cases e
      rw [if_neg (by omega), if_pos k3]
      exact ⟨by omega, Nat.pos_of_ne_zero hc.2, by show place + 5 ≤ _; omega, rfl⟩
    rw [if_neg k3] at e
    by_cases hl : (b.drop (place + 5)).length < n
    · rw [if_pos hl] at e; cases e
    rw [if_neg hl] at e
    cases e
    rw [if_pos (by omega), if_neg hl]
    rw [List.length_drop] at hl
    have hlen : ((b.drop (place + 5)).take n).length = n := by rw [List.length_take, List.length_drop]; omega
    refine ⟨by omega, ?_, ?_, ?_⟩
    · show 0 < ((b.drop (place + 5)).take n).length; rw [hlen]; exact Nat.pos_of_ne_zero hc.2
    · show place + (5 + ((b.drop (place + 5)).take n).length) ≤ _; rw [hlen]; omega
    · show _ = (SO (b.drop (place + (5 + ((b.drop (place + 5)).take n).length)))).map _
      rw [hlen, List.drop_drop, show place + 5 + n = place + (5 + n) by omega]
  · rw [if_neg hc] at e; cases e
theorem Tol.bad {b : Bytes} {place : Nat} {acc : Edit} {s : Step} (h : Tol b place acc) (e : stepAt b place = some s) (hm : mayF (kd s) (lastK 0 acc) = false) : editOf b = Option.none := by
  obtain ⟨_, _, _, e2⟩ := so_step e
  rw [h.2, e2]
  cases SO (b.drop (place + width s)) with
  | none => rfl
  | some l =>
    refine fin_bad ?_
    rw [good_append]
    simp [goodF, hm]
theorem Tol.next {b : Bytes} {place : Nat} {acc : Edit} {s : Step} (h : Tol b place acc) (e : stepAt b place = some s) (hm : mayF (kd s) (lastK 0 acc) = true) : Tol b (place + width s) (acc ++ [s]) := by
  obtain ⟨_, hp, _, e2⟩ := so_step e
  refine ⟨?_, ?_⟩
  · rw [good_snoc, h.1, hm]; simp [hp]
  · rw [h.2, e2]
    cases SO (b.drop (place + width s)) with
    | none => rfl
    | some l => simp
theorem editOf_some {b : Bytes} {e : Edit} (h : editOf b = some e) : goodF 0 e = true ∧ before e ≤ TEXT ∧ behind e ≤ TEXT := by
  rw [editOf_eq] at h
  cases q : SO b with
  | none => rw [q] at h; cases h
  | some l =>
    rw [q] at h
    have h : fin l = some e := h
    unfold fin at h
    by_cases z : formed l = l ∧ before l ≤ TEXT ∧ behind l ≤ TEXT
    · rw [if_pos z] at h
      cases h
      exact ⟨(formed_iff _).mp z.1, z.2⟩
    · rw [if_neg z] at h; cases h
end My
end
section
set_option Elab.async false
namespace My
open Sv17
/-! ### undone -/
theorem undone_pos : ∀ {e : Edit} {t : Bytes}, PosE e → before e ≤ t.length → PosE (undone e t)
  | [], _, _, _ => PosE.nil
  | .keep n :: r, t, h, hb => by
    rw [before_keep] at hb
    exact PosE.cons h.head (undone_pos h.tail (by rw [List.length_drop]; omega))
  | .ins c :: r, t, h, hb => by
    rw [before_ins] at hb
    exact PosE.cons (s := .del c.length) (show 0 < (Step.ins c).size from h.head) (undone_pos h.tail hb)
  | .del n :: r, t, h, hb => by
    rw [before_del] at hb
    have hn : 0 < n := h.head
    exact PosE.cons (by show 0 < (t.take n).length; rw [List.length_take]; omega) (undone_pos h.tail (by rw [List.length_drop]; omega))
theorem undone_esz : ∀ {e : Edit} {t : Bytes}, esz (undone e t) ≤ esz e
  | [], _ => Nat.le_refl _
  | .keep n :: r, t => by
    have := undone_esz (e := r) (t := t.drop n)
    simp only [undone, esz_cons]; omega
  | .ins c :: r, t => by
    have := undone_esz (e := r) (t := t)
    simp only [undone, esz_cons, Step.size]; omega
  | .del n :: r, t => by
    have := undone_esz (e := r) (t := t.drop n)
    have h2 : (t.take n).length ≤ n := by rw [List.length_take]; omega
    simp only [undone, esz_cons, Step.size]; omega
/-! ### applied -/
theorem apply_len : ∀ {e : Edit} {t : Bytes}, before e ≤ t.length → (apply e t).length = behind e
  | [], _, _ => rfl
  | .keep n :: r, t, h => by
    rw [before_keep] at h
    have := apply_len (e := r) (t := t.drop n) (by rw [List.length_drop]; omega)
    simp only [apply, List.length_append, List.length_take, this, behind_keep]; omega
  | .ins c :: r, t, h => by
    rw [before_ins] at h
    have := apply_len (e := r) (t := t) h
    simp only [apply, List.length_append, this, behind_ins]
  | .del n :: r, t, h => by
    rw [before_del] at h
    have := apply_len (e := r) (t := t.drop n) (by rw [List.length_drop]; omega)
    simp only [apply, this, behind_del]
/-! ### composed -/
theorem mu_ind {P : Edit → Edit → Prop} (h : ∀ a b, (∀ a' b', mu a' b' < mu a b → P a' b') → P a b) (a b : Edit) : P a b := by
  have : ∀ n a b, mu a b < n → P a b := by
    intro n
    induction n with
    | zero => intro a b q; exact absurd q (Nat.not_lt_zero _)
    | succ n ih => intro a b q; exact h a b fun a' b' q' => ih a' b' (by omega)
  exact this _ a b (Nat.lt_succ_self _)
theorem min_pos {x y : Step} (hx : 0 < x.size) (hy : 0 < y.size) : 0 < min x.size y.size := by omega
theorem hereC_pos {x y : Step} (hx : 0 < x.size) (hy : 0 < y.size) : PosE (hereC x y (min x.size y.size)) := by
  have h := min_pos hx hy
  cases x with
  | keep n =>
    cases y with
    | keep m => exact PosE.cons h PosE.nil
    | ins m => exact PosE.nil
    | del m => exact PosE.cons h PosE.nil
  | ins c =>
    cases y with
    | keep m =>
      refine PosE.cons ?_ PosE.nil
      show 0 < (c.take (min (Step.ins c).size (Step.keep m).size)).length
      rw [List.length_take]
      have e : (Step.ins c).size = c.length := rfl
      have h2 := Nat.min_le_left (Step.ins c).size (Step.keep m).size
      omega
    | ins m => exact PosE.nil
    | del m => exact PosE.nil
  | del n => cases y <;> exact PosE.nil
theorem here1_pos {x y : Step} (hx : 0 < x.size) (hy : 0 < y.size) : PosE (here1 x y (min x.size y.size)) := by
  have h := min_pos hx hy
  cases x <;> cases y <;> first | exact PosE.nil | exact PosE.cons h PosE.nil
theorem here2_pos {x y : Step} (hx : 0 < x.size) (hy : 0 < y.size) : PosE (here2 x y (min x.size y.size)) := by
  have h := min_pos hx hy
  cases x <;> cases y <;> first | exact PosE.nil | exact PosE.cons h PosE.nil
theorem here1_esz (x y : Step) (k : Nat) : esz (here1 x y k) ≤ k := by cases x <;> cases y <;> simp [here1, esz, Step.size]
theorem here2_esz (x y : Step) (k : Nat) : esz (here2 x y k) ≤ k := by cases x <;> cases y <;> simp [here2, esz, Step.size]
theorem hereC_esz (x y : Step) (k : Nat) : esz (hereC x y k) ≤ k := by cases x <;> cases y <;> simp [hereC, esz, Step.size, List.length_take] <;> omega
theorem rest_before (s : Step) (k : Nat) (h : isIns s = false) : before (s.rest k) = s.size - k := by
  unfold Step.rest
  split
  · rw [before_nil]; omega
  · match s, h with
    | .keep n, _ => simp [before, Step.size]
    | .del n, _ => simp [before, Step.size]
theorem rest_behind (s : Step) (k : Nat) (h : isDel s = false) : behind (s.rest k) = s.size - k := by
  unfold Step.rest
  split
  · rw [behind_nil]; omega
  · match s, h with
    | .keep n, _ => simp [behind, Step.size]
    | .ins n, _ => simp [behind, Step.size]
theorem rest_behind0 (s : Step) (k : Nat) (h : isDel s = true) : behind (s.rest k) = 0 := by
  unfold Step.rest
  split
  · rfl
  · match s, h with
    | .del n, _ => simp [behind]
theorem rest_before0 (s : Step) (k : Nat) (h : isIns s = true) : before (s.rest k) = 0 := by
  unfold Step.rest
  split
  · rfl
  · match s, h with
    | .ins n, _ => simp [before]
theorem before_cons (s : Step) (r : Edit) : before (s :: r) = before [s] + before r := before_append [s] r
theorem behind_cons (s : Step) (r : Edit) : behind (s :: r) = behind [s] + behind r := behind_append [s] r
theorem before_one (s : Step) : before [s] = if isIns s = true then 0 else s.size := by cases s <;> simp [before, isIns, Step.size]
theorem behind_one (s : Step) : behind [s] = if isDel s = true then 0 else s.size := by cases s <;> simp [behind, isDel, Step.size]
/-- of b after a -/
structure CProp (a b : Edit) (e : Edit) : Prop where
  pos : PosE e
  bef : before e = before a
  beh : behind e = behind b
  sz : esz e ≤ esz a + esz b
theorem rest_app_pos {s : Step} {r : Edit} {k : Nat} (h : PosE (s :: r)) : PosE (s.rest k ++ r) := (rest_pos s k).app h.tail
theorem cc_prop (a b : Edit) : PosE a → PosE b → behind a = before b → CProp a b (CC a b) := by
  refine mu_ind (P := fun a b => PosE a → PosE b → behind a = before b → CProp a b (CC a b)) (fun a b ih ha hb hf => ?_) a b
  have insC : ∀ (a : Edit) (c : Bytes) (t : Edit), notDel a → PosE a → PosE (.ins c :: t) → behind a = before (.ins c :: t) → (∀ a' b', mu a' b' < mu a (.ins c :: t) → PosE a' → PosE b' → behind a' = before b' → CProp a' b' (CC a' b')) → CProp a (.ins c :: t) (CC a (.ins c :: t)) := fun a c t nd ha hb hf ih => by
    rw [before_ins] at hf
    obtain ⟨p, q1, q2, z⟩ := ih a t (mu_r _ a t) ha hb.tail hf
    rw [cc_ins nd]
    refine ⟨PosE.cons hb.head p, ?_, ?_, ?_⟩
    · rw [before_ins]; exact q1
    · rw [behind_ins, behind_ins, q2]
    · rw [esz_cons, esz_cons]; omega
  have bothC : ∀ (x y : Step) (r t : Edit), isDel x = false → isIns y = false → PosE (x :: r) → PosE (y :: t) → behind (x :: r) = before (y :: t) → (∀ a' b', mu a' b' < mu (x :: r) (y :: t) → PosE a' → PosE b' → behind a' = before b' → CProp a' b' (CC a' b')) → CProp (x :: r) (y :: t) (CC (x :: r) (y :: t)) := fun x y r t nx ny ha hb hf ih => by
    rw [cc_both x y r t nx ny]
    rw [behind_cons, before_cons y, behind_one, before_one, nx, ny, if_neg Bool.false_ne_true, if_neg Bool.false_ne_true] at hf
    have mx : min x.size y.size ≤ x.size := Nat.min_le_left _ _
    have my : min x.size y.size ≤ y.size := Nat.min_le_right _ _
    obtain ⟨p, q1, q2, z⟩ := ih (x.rest (min x.size y.size) ++ r) (y.rest (min x.size y.size) ++ t) (mu_b x y r t) (rest_app_pos ha) (rest_app_pos hb) (by rw [behind_append, before_append, rest_behind x _ nx, rest_before y _ ny]; omega)
    have hz := hereC_esz x y (min x.size y.size)
    rw [before_append] at q1
    rw [behind_append] at q2
    rw [esz_append, esz_append, rest_esz, rest_esz] at z
    refine ⟨(hereC_pos ha.head hb.head).app p, ?_, ?_, ?_⟩
    · rw [before_append, q1, before_cons x r]
      match x, y, nx, ny with
      | .keep n, .keep m, _, _ => simp only [rest_before _ _ (show isIns (.keep n) = false from rfl), hereC, before_one, isIns]; simp only [Step.size] at *; simp; omega
      | .keep n, .del m, _, _ => simp only [rest_before _ _ (show isIns (.keep n) = false from rfl), hereC, before_one, isIns]; simp only [Step.size] at *; simp; omega
      | .ins n, .keep m, _, _ => simp only [rest_before0 _ _ (show isIns (.ins n) = true from rfl), hereC, before_one, isIns]; simp
      | .ins n, .del m, _, _ => simp only [rest_before0 _ _ (show isIns (.ins n) = true from rfl), hereC, before_one, isIns]; simp [before_nil]
    · rw [behind_append, q2, behind_cons y t]
      match x, y, nx, ny with
      | .keep n, .keep m, _, _ => simp only [rest_behind _ _ (show isDel (.keep m) = false from rfl), hereC, behind_one, isDel]; simp only [Step.size] at *; simp; omega
      | .keep n, .del m, _, _ => simp only [rest_behind0 _ _ (show isDel (.del m) = true from rfl), hereC, behind_one, isDel]; simp
      | .ins n, .keep m, _, _ => simp only [rest_behind _ _ (show isDel (.keep m) = false from rfl), hereC, behind_one, isDel]; simp only [Step.size, List.length_take] at *; simp; omega
      | .ins n, .del m, _, _ => simp only [rest_behind0 _ _ (show isDel (.del m) = true from rfl), hereC, behind_one, isDel]; simp [behind_nil]
    · rw [esz_append, esz_cons, esz_cons]; omega
  match a, b, ih, ha, hb, hf with
  | [], [], _, _, _, _ => exact ⟨PosE.nil, rfl, rfl, Nat.le_refl _⟩
  | .del n :: r, b, ih, ha, hb, hf =>
    rw [behind_del] at hf
    obtain ⟨p, q1, q2, z⟩ := ih r b (mu_l _ r b) ha.tail hb hf
    rw [cc_del]
    refine ⟨PosE.cons ha.head p, ?_, by rw [behind_del]; exact q2, ?_⟩
    · rw [before_del, before_del, q1]
    · rw [esz_cons, esz_cons]; omega
  | [], .ins c :: t, ih, ha, hb, hf => exact insC [] c t trivial ha hb hf ih
  | .keep n :: r, .ins c :: t, ih, ha, hb, hf => exact insC _ c t trivial ha hb hf ih
  | .ins n :: r, .ins c :: t, ih, ha, hb, hf => exact insC _ c t trivial ha hb hf ih
  | [], .keep m :: t, ih, ha, hb, hf =>
    rw [behind_nil, before_keep] at hf
    have : 0 < m := hb.head
    omega
  | [], .del m :: t, ih, ha, hb, hf =>
    rw [behind_nil, before_del] at hf
    have : 0 < m := hb.head
    omega
  | .keep n :: r, [], ih, ha, hb, hf =>
    rw [before_nil, behind_keep] at hf
    have : 0 < n := ha.head
    omega
  | .ins n :: r, [], ih, ha, hb, hf =>
    rw [before_nil, behind_ins] at hf
    have : 0 < n.length := ha.head
    omega
  | .keep n :: r, .keep m :: t, ih, ha, hb, hf => exact bothC _ _ r t rfl rfl ha hb hf ih
  | .keep n :: r, .del m :: t, ih, ha, hb, hf => exact bothC _ _ r t rfl rfl ha hb hf ih
  | .ins n :: r, .keep m :: t, ih, ha, hb, hf => exact bothC _ _ r t rfl rfl ha hb hf ih
  | .ins n :: r, .del m :: t, ih, ha, hb, hf => exact bothC _ _ r t rfl rfl ha hb hf ih
/-- of a and b turned past one another -/
structure TProp (a b : Edit) (e : Edit × Edit) : Prop where
  pos1 : PosE e.1
  pos2 : PosE e.2
  bef1 : before e.1 = behind b
  bef2 : before e.2 = behind a
  beh : behind e.1 = behind e.2
  sz1 : esz e.1 ≤ esz a + esz b
  sz2 : esz e.2 ≤ esz a + esz b
theorem tt_prop (a b : Edit) : PosE a → PosE b → before a = before b → TProp a b (TT a b) := by
  refine mu_ind (P := fun a b => PosE a → PosE b → before a = before b → TProp a b (TT a b)) (fun a b ih ha hb hf => ?_) a b
  have insC : ∀ (a : Edit) (c : Bytes) (t : Edit), notIns a → PosE a → PosE (.ins c :: t) → before a = before (.ins c :: t) → (∀ a' b', mu a' b' < mu a (.ins c :: t) → PosE a' → PosE b' → before a' = before b' → TProp a' b' (TT a' b')) → TProp a (.ins c :: t) (TT a (.ins c :: t)) := fun a c t nd ha hb hf ih => by
    rw [before_ins] at hf
    obtain ⟨p1, p2, b1, b2, q, z1, z2⟩ := ih a t (mu_r _ a t) ha hb.tail hf
    rw [tt_ins2 nd]
    have hc : 0 < c.length := hb.head
    refine ⟨PosE.cons hc p1, PosE.cons hb.head p2, ?_, ?_, ?_, ?_, ?_⟩
    · show before (.keep c.length :: _) = _
      rw [before_keep, b1, behind_ins]
    · show before (.ins c :: _) = _
      rw [before_ins, b2]
    · show behind (.keep c.length :: _) = behind (.ins c :: _)
      rw [behind_keep, behind_ins, q]
    · show esz (.keep c.length :: _) ≤ _
      rw [esz_cons, esz_cons]; simp only [Step.size]; omega
    · show esz (.ins c :: _) ≤ _
      rw [esz_cons, esz_cons]; simp only [Step.size]; omega
  have bothC : ∀ (x y : Step) (r t : Edit), isIns x = false → isIns y = false → PosE (x :: r) → PosE (y :: t) → before (x :: r) = before (y :: t) → (∀ a' b', mu a' b' < mu (x :: r) (y :: t) → PosE a' → PosE b' → before a' = before b' → TProp a' b' (TT a' b')) → TProp (x :: r) (y :: t) (TT (x :: r) (y :: t)) := fun x y r t nx ny ha hb hf ih => by
    rw [tt_both x y r t nx ny]
    rw [before_cons x, before_cons y, before_one, before_one, nx, ny, if_neg Bool.false_ne_true, if_neg Bool.false_ne_true] at hf
    have mx : min x.size y.size ≤ x.size := Nat.min_le_left _ _
    have my : min x.size y.size ≤ y.size := Nat.min_le_right _ _
    obtain ⟨p1, p2, b1, b2, q, z1, z2⟩ := ih (x.rest (min x.size y.size) ++ r) (y.rest (min x.size y.size) ++ t) (mu_b x y r t) (rest_app_pos ha) (rest_app_pos hb) (by rw [before_append, before_append, rest_before x _ nx, rest_before y _ ny]; omega)
    generalize TT (x.rest (min x.size y.size) ++ r) (y.rest (min x.size y.size) ++ t) = w at p1 p2 b1 b2 q z1 z2 ⊢
    have hz1 := here1_esz x y (min x.size y.size)
    have hz2 := here2_esz x y (min x.size y.size)
    rw [behind_append] at b1 b2
    rw [esz_append, esz_append, rest_esz, rest_esz] at z1 z2
    refine ⟨(here1_pos ha.head hb.head).app p1, (here2_pos ha.head hb.head).app p2, ?_, ?_, ?_, ?_, ?_⟩
    · show before (here1 x y _ ++ w.1) = _
      rw [before_append, b1, behind_cons y t]
      match x, y, nx, ny with
      | .keep n, .keep m, _, _ => simp only [rest_behind _ _ (show isDel (.keep m) = false from rfl), here1, before_one, behind_one, isDel, isIns]; simp only [Step.size] at *; simp; omega
      | .keep n, .del m, _, _ => simp only [rest_behind0 _ _ (show isDel (.del m) = true from rfl), here1, behind_one, isDel]; simp [before_nil]
      | .del n, .keep m, _, _ => simp only [rest_behind _ _ (show isDel (.keep m) = false from rfl), here1, before_one, behind_one, isDel, isIns]; simp only [Step.size] at *; simp; omega
      | .del n, .del m, _, _ => simp only [rest_behind0 _ _ (show isDel (.del m) = true from rfl), here1, behind_one, isDel]; simp [before_nil]
    · show before (here2 x y _ ++ w.2) = _
      rw [before_append, b2, behind_cons x r]
      match x, y, nx, ny with
      | .keep n, .keep m, _, _ => simp only [rest_behind _ _ (show isDel (.keep n) = false from rfl), here2, before_one, behind_one, isDel, isIns]; simp only [Step.size] at *; simp; omega
      | .keep n, .del m, _, _ => simp only [rest_behind _ _ (show isDel (.keep n) = false from rfl), here2, before_one, behind_one, isDel, isIns]; simp only [Step.size] at *; simp; omega
      | .del n, .keep m, _, _ => simp only [rest_behind0 _ _ (show isDel (.del n) = true from rfl), here2, behind_one, isDel]; simp [before_nil]
      | .del n, .del m, _, _ => simp only [rest_behind0 _ _ (show isDel (.del n) = true from rfl), here2, behind_one, isDel]; simp [before_nil]
    · show behind (here1 x y _ ++ w.1) = behind (here2 x y _ ++ w.2)
      rw [behind_append, behind_append, q]
      match x, y, nx, ny with
      | .keep n, .keep m, _, _ => rfl
      | .keep n, .del m, _, _ => simp [here1, here2, behind_nil, behind_one, isDel]
      | .del n, .keep m, _, _ => simp [here1, here2, behind_nil, behind_one, isDel]
      | .del n, .del m, _, _ => rfl
    · show esz (here1 x y _ ++ w.1) ≤ _
      rw [esz_append, esz_cons, esz_cons]; omega
    · show esz (here2 x y _ ++ w.2) ≤ _
      rw [esz_append, esz_cons, esz_cons]; omega
  match a, b, ih, ha, hb, hf with
  | [], [], _, _, _, _ => exact ⟨PosE.nil, PosE.nil, rfl, rfl, rfl, Nat.le_refl _, Nat.le_refl _⟩
  | .ins c :: r, b, ih, ha, hb, hf =>
    rw [before_ins] at hf
    obtain ⟨p1, p2, b1, b2, q, z1, z2⟩ := ih r b (mu_l _ r b) ha.tail hb hf
    rw [tt_ins1]
    have hc : 0 < c.length := ha.head
    refine ⟨PosE.cons ha.head p1, PosE.cons hc p2, ?_, ?_, ?_, ?_, ?_⟩
    · show before (.ins c :: _) = _
      rw [before_ins, b1]
    · show before (.keep c.length :: _) = _
      rw [before_keep, b2, behind_ins]
    · show behind (.ins c :: _) = behind (.keep c.length :: _)
      rw [behind_keep, behind_ins, q]
    · show esz (.ins c :: _) ≤ _
      rw [esz_cons, esz_cons]; simp only [Step.size]; omega
    · show esz (.keep c.length :: _) ≤ _
      rw [esz_cons, esz_cons]; simp only [Step.size]; omega
  | [], .ins c :: t, ih, ha, hb, hf => exact insC [] c t trivial ha hb hf ih
  | .keep n :: r, .ins c :: t, ih, ha, hb, hf => exact insC _ c t trivial ha hb hf ih
  | .del n :: r, .ins c :: t, ih, ha, hb, hf => exact insC _ c t trivial ha hb hf ih
  | [], .keep m :: t, ih, ha, hb, hf =>
    rw [before_nil, before_keep] at hf
    have : 0 < m := hb.head
    omega
  | [], .del m :: t, ih, ha, hb, hf =>
    rw [before_nil, before_del] at hf
    have : 0 < m := hb.head
    omega
  | .keep n :: r, [], ih, ha, hb, hf =>
    rw [before_nil, before_keep] at hf
    have : 0 < n := ha.head
    omega
  | .del n :: r, [], ih, ha, hb, hf =>
    rw [before_nil, before_del] at hf
    have : 0 < n := ha.head
    omega
  | .keep n :: r, .keep m :: t, ih, ha, hb, hf => exact bothC _ _ r t rfl rfl ha hb hf ih
  | .keep n :: r, .del m :: t, ih, ha, hb, hf => exact bothC _ _ r t rfl rfl ha hb hf ih
  | .del n :: r, .keep m :: t, ih, ha, hb, hf => exact bothC _ _ r t rfl rfl ha hb hf ih
  | .del n :: r, .del m :: t, ih, ha, hb, hf => exact bothC _ _ r t rfl rfl ha hb hf ih
/-! ### compose, turn, undo of the specification -/
theorem compose_eq (a b : Edit) : compose a b = formed (CC a b) := rfl
theorem turn_eq (a b : Edit) : turn a b = (formed (TT a b).1, formed (TT a b).2) := rfl
structure Fine (e : Edit) : Prop where
  good : goodF 0 e = true
theorem Fine.pos {e : Edit} (h : Fine e) : PosE e := good_pos h.good
theorem Fine.formed (e : Edit) : Fine (formed e) := ⟨good_formed e⟩
/-! ### an edit's bytes -/
theorem little4 (n : Nat) : little 4 n = [n % 256, n / 256 % 256, n / 65536 % 256, n / 16777216 % 256] := by
  simp [little, List.range, List.range.loop]
theorem bytes_cons (s : Step) (e : Edit) : bytes (s :: e) = s.bytes ++ bytes e := by simp [bytes]
theorem bytes_append (a b : Edit) : bytes (a ++ b) = bytes a ++ bytes b := by simp [bytes]
theorem step_bytes_len (s : Step) : s.bytes.length ≤ 5 + s.size := by
  cases s <;> simp [Step.bytes, Step.size, little] ; omega
theorem bytes_len : ∀ (e : Edit), (bytes e).length ≤ 5 * e.length + esz e
  | [] => Nat.le_refl _
  | s :: e => by
    have := bytes_len e
    have := step_bytes_len s
    rw [bytes_cons, List.length_append, List.length_cons, esz_cons]; omega
end My
end
section
set_option Elab.async false
namespace My
open Sv17
/-! ### the calls, one behind another -/
theorem flat_cons (f : Nat) (p : Int) (r : List Int) : PyFlat.calls PySv17.shape (f + 1) (p :: r) = match PyFlat.call PySv17.shape (p :: r) with
    | none => none
    | some (c, t) => match PyFlat.calls PySv17.shape f t with
      | none => none
      | some cs => some (c :: cs) := rfl
/-- the rest behind a row is shorter -/
theorem row_len {r x s : List Int} (h : PyFlat.row r = some (x, s)) : s.length < r.length := by
  cases r with
  | nil => cases h
  | cons n r =>
    simp only [PyFlat.row] at h
    split at h
    · cases h
      simp only [List.length_drop, List.length_cons]; omega
    · cases h
theorem rows_len : ∀ (k : Nat) {r : List Int} {xs : List (List Int)} {s : List Int}, PyFlat.rows k r = some (xs, s) → s.length ≤ r.length
  | 0, r, xs, s, h => by
    simp only [PyFlat.rows] at h
    cases h
    exact Nat.le_refl _
  | k + 1, r, xs, s, h => by
    simp only [PyFlat.rows] at h
    cases e : PyFlat.row r with
    | none => rw [e] at h; cases h
    | some p =>
      obtain ⟨x, s1⟩ := p
      rw [e] at h
      simp only [] at h
      cases e2 : PyFlat.rows k s1 with
      | none => rw [e2] at h; cases h
      | some p2 =>
        obtain ⟨ys, t⟩ := p2
        rw [e2] at h
        simp only [] at h
        cases h
        have := row_len e
        have := rows_len k e2
        omega
theorem call_len {r : List Int} {c : List (List Int)} {t : List Int} (h : PyFlat.call PySv17.shape r = some (c, t)) : t.length < r.length := by
  cases r with
  | nil => cases h
  | cons p r =>
    simp only [PyFlat.call] at h
    cases e : PySv17.shape p with
    | none => rw [e] at h; cases h
    | some nk =>
      obtain ⟨n, k⟩ := nk
      rw [e] at h
      simp only [] at h
      by_cases hl : r.length < n
      · rw [if_pos hl] at h; cases h
      · rw [if_neg hl] at h
        cases e2 : PyFlat.rows k (r.drop n) with
        | none => rw [e2] at h; cases h
        | some p2 =>
          obtain ⟨xs, t2⟩ := p2
          rw [e2] at h
          simp only [] at h
          cases h
          have := rows_len k e2
          rw [List.length_drop] at this
          rw [List.length_cons]
          omega
theorem calls_fuel : ∀ (f g : Nat) (l : List Int), l.length ≤ f → l.length ≤ g → PyFlat.calls PySv17.shape f l = PyFlat.calls PySv17.shape g l
  | 0, 0, _, _, _ => rfl
  | 0, g + 1, [], _, _ => rfl
  | 0, g + 1, _ :: _, h, _ => absurd h (by simp)
  | f + 1, 0, [], _, _ => rfl
  | f + 1, 0, _ :: _, _, h => absurd h (by simp)
  | f + 1, g + 1, [], _, _ => rfl
  | f + 1, g + 1, p :: r, h, h' => by
    rw [flat_cons, flat_cons]
    cases e : PyFlat.call PySv17.shape (p :: r) with
    | none => rfl
    | some ct =>
      obtain ⟨c, t⟩ := ct
      simp only []
      have := call_len e
      rw [List.length_cons] at h h' this
      rw [calls_fuel f g t (by omega) (by omega)]
def PC (l : List Int) : Option (List (List (List Int))) := PyFlat.calls PySv17.shape l.length l
theorem pc_nil : PC [] = some [] := rfl
theorem pc_cons {l : List Int} (hl : l ≠ []) : PC l = match PyFlat.call PySv17.shape l with
    | none => none
    | some (c, t) => match PC t with
      | none => none
      | some cs => some (c :: cs) := by
  cases l with
  | nil => exact absurd rfl hl
  | cons p r =>
    unfold PC
    rw [List.length_cons, flat_cons]
    cases e : PyFlat.call PySv17.shape (p :: r) with
    | none => rfl
    | some ct =>
      obtain ⟨c, t⟩ := ct
      simp only []
      have := call_len e
      rw [List.length_cons] at this
      rw [calls_fuel r.length t.length t (by omega) (Nat.le_refl _)]
/-- what is asked splits: the first call, the rest -/
theorem pc_some {l : List Int} {raw : List (List (List Int))} (hl : l ≠ []) (h : PC l = some raw) : ∃ c t cs, PyFlat.call PySv17.shape l = some (c, t) ∧ PC t = some cs ∧ raw = c :: cs := by
  rw [pc_cons hl] at h
  cases e : PyFlat.call PySv17.shape l with
  | none => rw [e] at h; cases h
  | some ct =>
    obtain ⟨c, t⟩ := ct
    rw [e] at h
    simp only [] at h
    cases e2 : PC t with
    | none => rw [e2] at h; cases h
    | some cs =>
      rw [e2] at h
      simp only [] at h
      cases h
      exact ⟨c, t, cs, rfl, e2, rfl⟩
end My
end
section
set_option Elab.async false
namespace My
open Sv17
/-- of two edits that fit the same text, turned -/
structure TurnF (x y : Edit) : Prop where
  g1 : goodF 0 (turn x y).1 = true
  g2 : goodF 0 (turn x y).2 = true
  b1 : before (turn x y).1 = behind y
  b2 : before (turn x y).2 = behind x
  eh : behind (turn x y).1 = behind (turn x y).2
  z1 : esz (turn x y).1 ≤ esz x + esz y
  z2 : esz (turn x y).2 ≤ esz x + esz y
theorem turn_f {x y : Edit} (hx : PosE x) (hy : PosE y) (h : before x = before y) : TurnF x y := by
  have t := tt_prop x y hx hy h
  exact ⟨good_formed _, good_formed _, (formed_before _).trans t.bef1, (formed_before _).trans t.bef2, ((formed_behind _).trans t.beh).trans (formed_behind _).symm, Nat.le_trans (Nat.le_of_eq (formed_esz _)) t.sz1, Nat.le_trans (Nat.le_of_eq (formed_esz _)) t.sz2⟩
/-- an edit as it is kept -/
structure EOk (e : Edit) : Prop where
  good : goodF 0 e = true
  bef : before e ≤ 65536
  beh : behind e ≤ 65536
theorem EOk.pos {e : Edit} (h : EOk e) : PosE e := good_pos h.good
theorem EOk.esz {e : Edit} (h : EOk e) : esz e ≤ 131072 := by
  have := esz_le e
  have := h.bef
  have := h.beh
  omega
theorem eok_of {b : Bytes} {e : Edit} (h : editOf b = some e) : EOk e := ⟨(editOf_some h).1, (editOf_some h).2.1, (editOf_some h).2.2⟩
theorem small_one (e : Edit) (l : List Edit) : small (e :: l) = (decide (before e ≤ 65536) && decide (behind e ≤ 65536) && small l) := rfl
theorem small_ok {e : Edit} (h : EOk e) : small [e] = true := by
  rw [small_one, decide_eq_true h.bef, decide_eq_true h.beh]; rfl
theorem comp_ok {x y : Edit} (hx : EOk x) (hy : EOk y) (h : behind x = before y) : EOk (compose x y) := by
  have t := cc_prop x y hx.pos hy.pos h
  exact ⟨good_formed _, Nat.le_trans (Nat.le_of_eq ((formed_before _).trans t.bef)) hx.bef, Nat.le_trans (Nat.le_of_eq ((formed_behind _).trans t.beh)) hy.beh⟩
theorem comp_bef {x y : Edit} (hx : EOk x) (hy : EOk y) (h : behind x = before y) : before (compose x y) = before x ∧ behind (compose x y) = behind y := by
  have t := cc_prop x y hx.pos hy.pos h
  exact ⟨(formed_before _).trans t.bef, (formed_behind _).trans t.beh⟩
/-! ### a hand -/
structure HandInv (h : Hand) : Prop where
  oi : h.out = none → h.back = none
  og : ∀ a, h.out = some a → EOk a
  bg : ∀ b, h.back = some b → EOk b
  fb : ∀ a b, h.out = some a → h.back = some b → behind a = before b
  tb : ∀ b, h.back = some b → h.text.length = behind b
  to : ∀ a, h.out = some a → h.back = none → h.text.length = behind a
  tl : h.text.length ≤ 65536
  rv : h.revision ≤ 2147483647
theorem hand_new {t : Bytes} (h : t.length ≤ 65536) : HandInv ⟨t, 0, none, none⟩ :=
  ⟨fun _ => rfl, (fun _ z => nomatch z), (fun _ z => nomatch z), (fun _ _ z => nomatch z), (fun _ z => nomatch z), (fun _ z => nomatch z), h, Nat.zero_le _⟩
/-- what the hand's text would be before an own edit more: the last edit leaves it -/
theorem hand_edit {h : Hand} {x : Edit} (hi : HandInv h) (hx : EOk x) (hf : before x = h.text.length) : HandInv (h.edit x).1 ∧ (match (h.edit x).1.back with
    | some b => small [b]
    | none => true) = true := by
  obtain ⟨t, r, out, back⟩ := h
  have hl : (apply x t).length = behind x := apply_len (Nat.le_of_eq hf)
  have hx2 := hx.beh
  cases out with
  | none =>
    have hb : back = none := hi.oi rfl
    subst hb
    refine ⟨⟨(fun z => nomatch z), fun a z => ?_, (fun _ z => nomatch z), (fun _ _ _ z => nomatch z), (fun _ z => nomatch z), fun a z _ => ?_, ?_, hi.rv⟩, rfl⟩
    · cases z; exact hx
    · cases z; exact hl
    · show (apply x t).length ≤ _; omega
  | some a =>
    cases back with
    | none =>
      refine ⟨⟨(fun z => nomatch z), fun a' z => hi.og a' z, fun b z => ?_, fun a' b z1 z2 => ?_, fun b z => ?_, (fun _ _ z => nomatch z), ?_, hi.rv⟩, small_ok hx⟩
      · cases z; exact hx
      · cases z1; cases z2
        have := hi.to a rfl rfl
        have hf : before x = t.length := hf
        have this : t.length = behind a := this
        show behind a = before x
        omega
      · cases z; exact hl
      · show (apply x t).length ≤ _; omega
    | some b =>
      have hb := hi.bg b rfl
      have hbt : t.length = behind b := hi.tb b rfl
      have hf : before x = t.length := hf
      have hbx : behind b = before x := by omega
      have hc := comp_ok hb hx hbx
      have hcc := comp_bef hb hx hbx
      refine ⟨⟨(fun z => nomatch z), fun a' z => hi.og a' z, fun b' z => ?_, fun a' b' z1 z2 => ?_, fun b' z => ?_, (fun _ _ z => nomatch z), ?_, hi.rv⟩, small_ok hc⟩
      · cases z; exact hc
      · cases z1; cases z2
        rw [hcc.1]; exact hi.fb a b rfl rfl
      · cases z; rw [hcc.2]; exact hl
      · show (apply x t).length ≤ _; omega
theorem hand_confirmed {h : Hand} (hi : HandInv h) (ho : h.out ≠ none) (hr : h.revision < 2147483647) : HandInv h.confirmed := by
  obtain ⟨t, r, out, back⟩ := h
  cases out with
  | none => exact absurd rfl ho
  | some a =>
    cases back with
    | none => exact ⟨fun _ => rfl, (fun _ z => nomatch z), (fun _ z => nomatch z), (fun _ _ z => nomatch z), (fun _ z => nomatch z), (fun _ z => nomatch z), hi.tl, hr⟩
    | some b => exact ⟨(fun z => nomatch z), fun a' z => hi.bg a' z, (fun _ z => nomatch z), (fun _ _ _ z => nomatch z), (fun _ z => nomatch z), fun a' z _ => hi.tb a' z, hi.tl, hr⟩
/-- another's edit: what is turned, how long it leaves the text -/
structure RemF (h : Hand) (x : Edit) : Prop where
  small : small ((h.remote x).2 :: ((h.remote x).1.out.toList ++ (h.remote x).1.back.toList)) = true ↔ (∀ a, (h.remote x).1.out = some a → behind a ≤ 65536) ∧ (∀ b, (h.remote x).1.back = some b → behind b ≤ 65536) ∧ behind (h.remote x).2 ≤ 65536
  bef : before (h.remote x).2 = h.text.length
  pos : PosE (h.remote x).2
  sz : esz (h.remote x).2 ≤ 393216
theorem hand_remote {h : Hand} {x : Edit} (hi : HandInv h) (hx : EOk x) (hf : before x = h.base) : RemF h x ∧ (h.revision < 2147483647 → (∀ a, (h.remote x).1.out = some a → behind a ≤ 65536) → (∀ b, (h.remote x).1.back = some b → behind b ≤ 65536) → behind (h.remote x).2 ≤ 65536 → HandInv (h.remote x).1) := by
  obtain ⟨t, r, out, back⟩ := h
  have hzx := hx.esz
  have xb := hx.bef
  have xh := hx.beh
  cases out with
  | none =>
    have hb : back = none := hi.oi rfl
    subst hb
    have hf : before x = t.length := hf
    have hl : (apply x t).length = behind x := apply_len (Nat.le_of_eq hf)
    refine ⟨⟨⟨fun _ => ⟨(fun _ z => nomatch z), (fun _ z => nomatch z), xh⟩, fun _ => small_ok hx⟩, hf, hx.pos, by show esz x ≤ _; omega⟩, fun hr _ _ _ => ⟨fun _ => rfl, (fun _ z => nomatch z), (fun _ z => nomatch z), (fun _ _ z => nomatch z), (fun _ z => nomatch z), (fun _ z => nomatch z), ?_, hr⟩⟩
    show (apply x t).length ≤ _; omega
  | some a =>
    have ha := hi.og a rfl
    have hza := ha.esz
    have ab := ha.bef
    have ah := ha.beh
    have hf : before x = before a := hf
    have T := turn_f ha.pos hx.pos hf.symm
    have Tb1 := T.b1
    have Tb2 := T.b2
    have Teh := T.eh
    have Tz1 := T.z1
    have Tz2 := T.z2
    cases back with
    | none =>
      have ht : t.length = behind a := hi.to a rfl rfl
      have hl : (apply (turn a x).2 t).length = behind (turn a x).2 := apply_len (by omega)
      refine ⟨⟨⟨fun hs => ?_, fun hs => ?_⟩, by show before (turn a x).2 = t.length; omega, good_pos T.g2, by show esz (turn a x).2 ≤ _; omega⟩, fun hr h1 _ h3 => ⟨(fun z => nomatch z), fun a' z => ?_, (fun _ z => nomatch z), (fun _ _ _ z => nomatch z), (fun _ z => nomatch z), fun a' z _ => ?_, ?_, hr⟩⟩
      · have hs : small [(turn a x).2, (turn a x).1] = true := hs
        rw [small_one, small_one] at hs
        simp only [Bool.and_eq_true, decide_eq_true_eq] at hs
        refine ⟨fun a' z => ?_, (fun _ z => nomatch z), hs.1.2⟩
        cases z; exact hs.2.1.2
      · show small [(turn a x).2, (turn a x).1] = true
        have h1 : behind (turn a x).1 ≤ 65536 := hs.1 _ rfl
        have h2 : behind (turn a x).2 ≤ 65536 := hs.2.2
        rw [small_one, small_one, decide_eq_true h2, decide_eq_true h1, decide_eq_true (show before (turn a x).2 ≤ 65536 by omega), decide_eq_true (show before (turn a x).1 ≤ 65536 by omega)]
        rfl
      · cases z
        have h1 : behind (turn a x).1 ≤ 65536 := h1 _ rfl
        exact ⟨T.g1, by omega, h1⟩
      · cases z
        show (apply (turn a x).2 t).length = behind (turn a x).1
        omega
      · show (apply (turn a x).2 t).length ≤ _
        have h3 : behind (turn a x).2 ≤ 65536 := h3
        omega
    | some b =>
      have hb := hi.bg b rfl
      have hzb := hb.esz
      have bb := hb.bef
      have bh := hb.beh
      have hab : behind a = before b := hi.fb a b rfl rfl
      have ht : t.length = behind b := hi.tb b rfl
      have U := turn_f (x := b) (y := (turn a x).2) hb.pos (good_pos T.g2) (by omega)
      have Ub1 := U.b1
      have Ub2 := U.b2
      have Ueh := U.eh
      have Uz1 := U.z1
      have Uz2 := U.z2
      have hl : (apply (turn b (turn a x).2).2 t).length = behind (turn b (turn a x).2).2 := apply_len (by omega)
      refine ⟨⟨⟨fun hs => ?_, fun hs => ?_⟩, by show before (turn b (turn a x).2).2 = t.length; omega, good_pos U.g2, by show esz (turn b (turn a x).2).2 ≤ _; omega⟩, fun hr h1 h2 h3 => ⟨(fun z => nomatch z), fun a' z => ?_, fun b' z => ?_, fun a' b' z1 z2 => ?_, fun b' z => ?_, (fun _ _ z => nomatch z), ?_, hr⟩⟩
      · have hs : small [(turn b (turn a x).2).2, (turn a x).1, (turn b (turn a x).2).1] = true := hs
        rw [small_one, small_one, small_one] at hs
        simp only [Bool.and_eq_true, decide_eq_true_eq] at hs
        refine ⟨fun a' z => ?_, fun b' z => ?_, hs.1.2⟩
        · cases z; exact hs.2.1.2
        · cases z; exact hs.2.2.1.2
      · show small [(turn b (turn a x).2).2, (turn a x).1, (turn b (turn a x).2).1] = true
        have h1 : behind (turn a x).1 ≤ 65536 := hs.1 _ rfl
        have h2 : behind (turn b (turn a x).2).1 ≤ 65536 := hs.2.1 _ rfl
        have h3 : behind (turn b (turn a x).2).2 ≤ 65536 := hs.2.2
        rw [small_one, small_one, small_one, decide_eq_true h1, decide_eq_true h2, decide_eq_true h3, decide_eq_true (show before (turn b (turn a x).2).2 ≤ 65536 by omega), decide_eq_true (show before (turn a x).1 ≤ 65536 by omega), decide_eq_true (show before (turn b (turn a x).2).1 ≤ 65536 by omega)]
        rfl
      · cases z
        have h1 : behind (turn a x).1 ≤ 65536 := h1 _ rfl
        exact ⟨T.g1, by omega, h1⟩
      · cases z
        have h1 : behind (turn a x).1 ≤ 65536 := h1 _ rfl
        have h2 : behind (turn b (turn a x).2).1 ≤ 65536 := h2 _ rfl
        show EOk (turn b (turn a x).2).1
        exact ⟨U.g1, by omega, h2⟩
      · cases z1; cases z2
        show behind (turn a x).1 = before (turn b (turn a x).2).1
        omega
      · cases z
        show (apply (turn b (turn a x).2).2 t).length = behind (turn b (turn a x).2).1
        omega
      · show (apply (turn b (turn a x).2).2 t).length ≤ _
        have h3 : behind (turn b (turn a x).2).2 ≤ 65536 := h3
        omega
/-! ### the host -/
def chain : Nat → List Edit → Nat → Prop
  | n, [], m => n = m
  | n, e :: r, m => EOk e ∧ before e = n ∧ chain (behind e) r m
structure HostInv (s : Host) : Prop where
  ch : chain s.first.length s.edits s.text.length
  fl : s.first.length ≤ 65536
  ct : s.edits.length ≤ 64
theorem host_new {t : Bytes} (h : t.length ≤ 65536) : HostInv ⟨t, t, []⟩ := ⟨rfl, h, Nat.zero_le _⟩
theorem chain_snoc : ∀ {es : List Edit} {n m : Nat} {e : Edit}, chain n es m → EOk e → before e = m → chain n (es ++ [e]) (behind e)
  | [], n, m, e, h, he, hb => ⟨he, hb.trans (show n = m from h).symm, rfl⟩
  | x :: r, n, m, e, h, he, hb => ⟨h.1, h.2.1, chain_snoc h.2.2 he hb⟩
theorem chain_end : ∀ {es : List Edit} {n m : Nat}, chain n es m → n ≤ 65536 → m ≤ 65536
  | [], n, m, h, hn => by rw [← (show n = m from h)]; exact hn
  | x :: r, n, m, h, hn => chain_end h.2.2 h.1.beh
/-- how long the text was at a revision -/
theorem chain_drop : ∀ {es : List Edit} {n m : Nat} (r : Nat), chain n es m → r ≤ es.length → chain (if r = 0 then n else behind (es.getD (r - 1) [])) (es.drop r) m
  | es, n, m, 0, h, _ => h
  | [], n, m, r + 1, h, hr => absurd hr (by simp)
  | e :: es, n, m, r + 1, h, hr => by
    have := chain_drop r h.2.2 (by simpa using hr)
    rw [if_neg (by omega)]
    show chain _ (es.drop r) m
    by_cases z : r = 0
    · subst z
      rw [if_pos rfl] at this
      exact this
    · rw [if_neg z] at this
      have e1 : (e :: es).getD (r + 1 - 1) [] = es.getD (r - 1) [] := by
        obtain ⟨k, rfl⟩ : ∃ k, r = k + 1 := ⟨r - 1, by omega⟩
        rfl
      rw [e1]
      exact this
theorem host_long {s : Host} (h : HostInv s) {r : Nat} (hr : r ≤ s.edits.length) : chain (s.long r) (s.edits.drop r) s.text.length := chain_drop r h.ch hr
/-- an edit turned past each of them in order: what comes of it each time -/
def parts : Edit → List Edit → List Edit
  | _, [] => []
  | x, b :: r => (turn x b).1 :: parts (turn x b).1 r
theorem parts_eq (x : Edit) (es : List Edit) : (es.zipIdx.map fun p => ((es.take (p.2 + 1)).foldl (fun a b => (turn a b).1) x)) = parts x es := by
  have gen : ∀ (es : List Edit) (pre : List Edit) (x : Edit), ((es.zipIdx pre.length).map fun p => (((pre ++ es).take (p.2 + 1)).foldl (fun a b => (turn a b).1) x)) = parts (pre.foldl (fun a b => (turn a b).1) x) es := by
    intro es
    induction es with
    | nil => intro pre x; rfl
    | cons b r ih =>
      intro pre x
      rw [List.zipIdx_cons, List.map_cons]
      have e1 : (pre ++ b :: r).take (pre.length + 1) = pre ++ [b] := by
        rw [List.take_append, List.take_of_length_le (by omega)]
        simp
      have e2 := ih (pre ++ [b]) x
      rw [List.length_append] at e2
      simp only [List.append_assoc, List.singleton_append, List.length_singleton] at e2
      simp only [parts]
      rw [e1, e2, List.foldl_append]
      rfl
  have := gen es [] x
  simpa using this
theorem host_turned (s : Host) (r : Nat) (x : Edit) : s.turned r x = (s.edits.drop r).foldl (fun a b => (turn a b).1) x := rfl
/-- one turn past an edit of the chain -/
theorem chain_turn {x b : Edit} {n m : Nat} {r : List Edit} (h : chain n (b :: r) m) (hx : PosE x) (hb : before x = n) : goodF 0 (turn x b).1 = true ∧ before (turn x b).1 = behind b ∧ esz (turn x b).1 ≤ esz x + 131072 := by
  have T := turn_f hx h.1.pos (hb.trans h.2.1.symm)
  have := h.1.esz
  have := T.z1
  exact ⟨T.g1, T.b1, by omega⟩
theorem parts_small {x b : Edit} {n m : Nat} {r : List Edit} (h : chain n (b :: r) m) (hx : PosE x) (hb : before x = n) : small (parts x (b :: r)) = (decide (behind (turn x b).1 ≤ 65536) && small (parts (turn x b).1 r)) := by
  have t := chain_turn h hx hb
  have := h.1.beh
  show small ((turn x b).1 :: parts (turn x b).1 r) = _
  rw [small_one, t.2.1, decide_eq_true this, Bool.true_and]
/-- where none is too long: what comes of it at last -/
theorem chain_fold : ∀ {es : List Edit} {n m : Nat} {x : Edit}, chain n es m → EOk x → before x = n → small (parts x es) = true → EOk (es.foldl (fun a b => (turn a b).1) x) ∧ before (es.foldl (fun a b => (turn a b).1) x) = m
  | [], n, m, x, h, hx, hb, _ => ⟨hx, hb.trans h⟩
  | b :: r, n, m, x, h, hx, hb, hs => by
    rw [parts_small h hx.pos hb, Bool.and_eq_true, decide_eq_true_eq] at hs
    have t := chain_turn h hx.pos hb
    have := h.1.beh
    exact chain_fold (x := (turn x b).1) h.2.2 ⟨t.1, by omega, hs.1⟩ t.2.1 hs.2
theorem host_receive {s : Host} {r : Nat} {x : Edit} (h : HostInv s) (hr : r ≤ s.edits.length) (hx : EOk x) (hb : before x = s.long r) (hc : s.edits.length < 64) (hs : small (parts x (s.edits.drop r)) = true) : HostInv (s.receive r x).1 ∧ EOk (s.receive r x).2 ∧ before (s.receive r x).2 = s.text.length := by
  have hd := host_long h hr
  obtain ⟨h1, h2⟩ := chain_fold hd hx hb hs
  have hl : (apply (s.turned r x) s.text).length = behind (s.turned r x) := apply_len (Nat.le_of_eq h2)
  refine ⟨⟨?_, h.fl, ?_⟩, h1, h2⟩
  · show chain s.first.length (s.edits ++ [s.turned r x]) (apply (s.turned r x) s.text).length
    rw [hl]
    exact chain_snoc h.ch h1 h2
  · show (s.edits ++ [s.turned r x]).length ≤ 64
    rw [List.length_append]
    simp; omega
theorem host_tl {s : Host} (h : HostInv s) : s.text.length ≤ 65536 := chain_end h.ch h.fl
end My
end
section
set_option Elab.async false
set_option linter.all false
set_option maxRecDepth 100000
set_option maxHeartbeats 2000000
namespace My
open PySem PySem.Spec PyProof.Rows L2
/-! ### the text by places -/
def top (i : Nat) : Stmt := PySem.Challenge.pw_onetext_s01_answers.main.body.getD i (.Pass ⟨0, 0, 0, 0⟩)
abbrev s_length_before : Stmt := top 7
abbrev s_length_after : Stmt := top 8
abbrev s_number_at : Stmt := top 9
abbrev s_bytes_of_number : Stmt := top 10
abbrev s_step_at : Stmt := top 11
abbrev s_may_follow : Stmt := top 12
abbrev s_edit_from_bytes : Stmt := top 13
abbrev s_bytes_of_edit : Stmt := top 14
abbrev s_Row_init : Stmt := inClass (top 16) 0
abbrev s_Row_keep : Stmt := inClass (top 16) 1
abbrev s_Row_put_in : Stmt := inClass (top 16) 2
abbrev s_Row_take_out : Stmt := inClass (top 16) 3
abbrev s_Row_close : Stmt := inClass (top 16) 4
abbrev s_Row_finished : Stmt := inClass (top 16) 5
abbrev s_Cursor_init : Stmt := inClass (top 17) 0
abbrev s_Cursor_enter_step : Stmt := inClass (top 17) 1
abbrev s_Cursor_go_on : Stmt := inClass (top 17) 2
abbrev s_applied : Stmt := top 19
abbrev s_undone : Stmt := top 20
abbrev s_compose_common : Stmt := top 21
abbrev s_composed : Stmt := top 22
abbrev s_turn_putting_in : Stmt := top 23
abbrev s_turn_common : Stmt := top 24
abbrev s_turned : Stmt := top 25
abbrev s_bad_edit_length : Stmt := top 33
abbrev s_bad_text_length : Stmt := top 34
abbrev s_counted : Stmt := top 35
abbrev s_check : Stmt := top 37
abbrev s_refused_on_text : Stmt := top 38
abbrev s_apply_to_text : Stmt := top 39
abbrev s_undo_on_text : Stmt := top 40
abbrev s_compose : Stmt := top 41
abbrev s_turn : Stmt := top 42
abbrev s_turned_past_own : Stmt := top 44
abbrev s_Hand_init : Stmt := inClass (top 45) 0
abbrev s_Hand_change : Stmt := inClass (top 45) 1
abbrev s_Hand_length_without_own : Stmt := inClass (top 45) 2
abbrev s_Hand_follow : Stmt := inClass (top 45) 3
abbrev s_Hand_confirm : Stmt := inClass (top 45) 4
abbrev s_Host_init : Stmt := inClass (top 46) 0
abbrev s_Host_length_as_of : Stmt := inClass (top 46) 1
abbrev s_Host_turned_since : Stmt := inClass (top 46) 2
abbrev s_Host_put_in_order : Stmt := inClass (top 46) 3
abbrev s_begin : Stmt := top 54
abbrev s_edit_by_hand : Stmt := top 55
abbrev s_follow_remote : Stmt := top 56
abbrev s_remote : Stmt := top 57
abbrev s_confirmed : Stmt := top 58
abbrev s_receive : Stmt := top 59
abbrev s_text_of : Stmt := top 60
abbrev s_revision_of : Stmt := top 61
abbrev s_state_of : Stmt := top 62
abbrev s_read_rows : Stmt := top 76
abbrev s_answer_by_itself : Stmt := top 77
abbrev s_answer_of_object : Stmt := top 78
abbrev s_answer : Stmt := top 79
abbrev s_answers : Stmt := top 80
/-! ### what is called, what is named -/
structure Glb (mg : Str → Option Value) (x : Str) (v : V) : Prop where
  ex : ∃ u, mg x = some u ∧ RelV v u
/-- a def that may be called by its name -/
structure Cal (P : Program) (w : World) (K : PySem.W.Frag) (mg : Str → Option Value) (base : Heap) (x : Str) (k : Nat) (ps : List Str) (sp : Sp) : Prop where
  ex : ∃ (f : Addr) (fd : FuncData), FnOk P w K mg base CX0 k f fd ps sp ∧ mg x = some (.ref f) ∧ PySem.W.keepIn K (.ref f) = true ∧ Binds K fd ps []
section
variable {X : Cx}
theorem pg_glob {x : Str} {v : V} {pos : Pos} (g : Glb X.mg x v) (hg : Gl X x := by rfl) (hd : (x == ("__debug__" : Str)) = false := by decide) : PE X (.Name x pos) (tC v) := by
  obtain ⟨u, hm, r⟩ := g.ex
  exact pe_glob hg hm r hd
theorem pc_call {x : Str} {k k' : Nat} {ps : List Str} {sp : Sp} {p pos : Pos} {e : Expr} {es : List Expr} {t : TA} (c : Cal X.prog X.w X.K X.mg X.base x k ps sp) (hr : Room k' X.A) (ha : PA X (e :: es) t) (hk : k ≤ k' := by decide) (hg : Gl X x := by rfl)
    (hdb : (x == ("__debug__" : Str)) = false := by decide) (he : starEach (e :: es) X.env = (false, eval e X.env) :: starEach es X.env := by rfl) (hpl : (backTo pos (starEach es X.env)).any (·.1) = false := by rfl) :
    PE X (.Call (.Name x p) (e :: es) [] pos) (tCall sp [] E0 t) := by
  obtain ⟨f, fd, G, hm, hkp, hb⟩ := c.ex
  exact pe_call G (hr.mono hk) hg hm hkp hb .nil pass0 ha hdb he hpl
end
/-! ### data -/
abbrev Bytes := Sv17.Bytes
abbrev Step := Sv17.Step
abbrev Edit := Sv17.Edit
def bv (b : Bytes) : List V := b.map fun (n : Nat) => V.int (n : Int)
theorem bv_len (b : Bytes) : (bv b).length = b.length := List.length_map ..
theorem bv_get {b : Bytes} {n : Nat} (h : n < b.length) : (bv b)[n]? = some (V.int ((b.getD n 0 : Nat) : Int)) := by
  unfold bv
  rw [List.getElem?_map, List.getD_eq_getElem?_getD, List.getElem?_eq_getElem h]
  rfl
theorem bv_append (a b : Bytes) : bv (a ++ b) = bv a ++ bv b := by unfold bv; rw [List.map_append]
theorem bv_take (b : Bytes) (n : Nat) : (bv b).take n = bv (b.take n) := by unfold bv; rw [List.map_take]
theorem bv_drop (b : Bytes) (n : Nat) : (bv b).drop n = bv (b.drop n) := by unfold bv; rw [List.map_drop]
/-- xs[i:j] by numbers -/
theorem cut_nat (xs : List V) (i j : Nat) : cutV xs (some (i : Int)) (some (j : Int)) = (xs.drop i).take (j - i) := by
  unfold cutV
  rw [HT.sIx_nat, HT.sIx_nat]
  by_cases h : i ≤ xs.length
  · rw [Nat.min_eq_left h]
    by_cases h2 : j ≤ xs.length
    · rw [Nat.min_eq_left h2]
    · rw [Nat.min_eq_right (by omega), List.take_of_length_le (by rw [List.length_drop]; omega), List.take_of_length_le (by rw [List.length_drop]; omega)]
  · rw [Nat.min_eq_right (show xs.length ≤ i by omega), List.drop_eq_nil_of_le (Nat.le_refl _), List.drop_eq_nil_of_le (by omega), List.take_nil, List.take_nil]
theorem cut_bv (b : Bytes) (i j : Nat) : cutV (bv b) (some (i : Int)) (some (j : Int)) = bv ((b.drop i).take (j - i)) := by rw [cut_nat, bv_drop, bv_take]
def dat : Step → Bytes
  | .ins b => b
  | _ => []
def StepAt (H : Hp) (t : Addr) (s : Step) : Prop := ∃ d, H t = some (.tup [.int (kd s), .int s.size, .ref d]) ∧ H d = some (.lst (bv (dat s)))
structure EditAt (H : Hp) (a : Addr) (e : Edit) : Prop where
  ex : ∃ ts : List Addr, H a = some (.lst (ts.map V.ref)) ∧ Paired (StepAt H) ts e
theorem StepAt.same {H H' : Hp} {t : Addr} {s : Step} (z : Same H H') (h : StepAt H t s) : StepAt H' t s := by
  obtain ⟨d, h1, h2⟩ := h
  exact ⟨d, z _ _ h1, z _ _ h2⟩
theorem EditAt.same {H H' : Hp} {a : Addr} {e : Edit} (z : Same H H') (h : EditAt H a e) : EditAt H' a e := by
  obtain ⟨ts, h1, h2⟩ := h.ex
  exact ⟨ts, z _ _ h1, Paired.mapP h2 fun _ _ q => q.same z⟩
theorem Paired.get {α β : Type} {F : α → β → Prop} : ∀ {l : List α} {m : List β} {i : Nat} {y : β}, Paired F l m → m[i]? = some y → ∃ x, l[i]? = some x ∧ F x y
  | _, _, _, _, .nil, e => by simp at e
  | _, _, 0, _, .cons r _, e => by simp at e; subst e; exact ⟨_, rfl, r⟩
  | _, _, i + 1, y, .cons _ t, e => by
    obtain ⟨x, h1, h2⟩ := Paired.get (i := i) (y := y) t (by simpa using e)
    exact ⟨x, by simpa using h1, h2⟩
theorem Paired.getL {α β : Type} {F : α → β → Prop} : ∀ {l : List α} {m : List β} {i : Nat} {x : α}, Paired F l m → l[i]? = some x → ∃ y, m[i]? = some y ∧ F x y
  | _, _, _, _, .nil, e => by simp at e
  | _, _, 0, _, .cons r _, e => by simp at e; subst e; exact ⟨_, rfl, r⟩
  | _, _, i + 1, x, .cons _ t, e => by
    obtain ⟨y, h1, h2⟩ := Paired.getL (i := i) (x := x) t (by simpa using e)
    exact ⟨y, by simpa using h1, h2⟩
theorem Paired.snoc {α β : Type} {F : α → β → Prop} : ∀ {l : List α} {m : List β} {x : α} {y : β}, Paired F l m → F x y → Paired F (l ++ [x]) (m ++ [y])
  | _, _, _, _, .nil, h => .cons h .nil
  | _, _, _, _, .cons r t, h => .cons r (Paired.snoc t h)
theorem same_upd {H : Hp} {p : Addr} {o : HO} (h : H p = none) : Same H (upd H p o) := fun b u e => by
  rw [upd_ne (ne_of_none e h)]; exact e
/-- all but these is as it was -/
def Frm (m : List Addr) (H H' : Hp) : Prop := ∀ b o, H b = some o → b ∉ m → H' b = some o
theorem Frm.of_same {m : List Addr} {H H' : Hp} (h : Same H H') : Frm m H H' := fun b o e _ => h b o e
theorem Frm.refl (m : List Addr) (H : Hp) : Frm m H H := fun _ _ e _ => e
theorem Frm.trans {m : List Addr} {H H1 H2 : Hp} (a : Frm m H H1) (b : Frm m H1 H2) : Frm m H H2 := fun c o e h => b c o (a c o e h) h
theorem Frm.mono {m m' : List Addr} {H H1 : Hp} (a : Frm m H H1) (h : ∀ b ∈ m, b ∈ m') : Frm m' H H1 := fun c o e q => a c o e fun z => q (h c z)
theorem Frm.upd {m : List Addr} {H : Hp} {p : Addr} {o : HO} (h : p ∈ m) : Frm m H (upd H p o) := fun b u e q => by
  rw [upd_ne (fun z => q (by rw [z]; exact h))]; exact e
end My
end
section
set_option Elab.async false
set_option linter.all false
set_option maxRecDepth 100000
set_option maxHeartbeats 2000000
namespace My
open PySem PySem.Spec PyProof.Rows L2
section
variable {P : Program} {w : World} {K : PySem.W.Frag} {mg : Str → Option Value} {base : Heap}
/-! ### number_at -/
def Byt (b : Bytes) : Prop := ∀ x ∈ b, x < 256
theorem Byt.at {b : Bytes} (h : Byt b) (n : Nat) : b.getD n 0 < 256 := by
  rw [List.getD_eq_getElem?_getD]
  cases e : b[n]? with
  | none => decide
  | some x => exact h x (List.mem_of_getElem? e)
theorem Byt.take {b : Bytes} (h : Byt b) (n : Nat) : Byt (b.take n) := fun x m => h x (List.mem_of_mem_take m)
theorem Byt.drop {b : Bytes} (h : Byt b) (n : Nat) : Byt (b.drop n) := fun x m => h x (List.mem_of_mem_drop m)
theorem word4 {b : Bytes} {p : Nat} (h : Byt b) (hp : p + 4 ≤ b.length) :
    Sv17.word (b.drop p) = b.getD p 0 + b.getD (p + 1) 0 * 256 + (b.getD (p + 2) 0 + b.getD (p + 3) 0 * 256) * 65536 := by
  rw [drop_split b p (by omega), drop_split b (p + 1) (by omega), drop_split b (p + 2) (by omega), drop_split b (p + 3) (by omega)]
  have h0 := h.at p
  have h1 := h.at (p + 1)
  have h2 := h.at (p + 2)
  have h3 := h.at (p + 3)
  simp only [Sv17.word, List.take_succ_cons, List.take_zero, List.foldr_cons, List.foldr_nil]
  omega
def spNum : Sp := fun vs H Q _ => ∃ (a : Addr) (b : Bytes) (p : Nat), vs = [.ref a, .int p] ∧ H a = some (.lst (bv b)) ∧ Byt b ∧ p + 4 ≤ b.length ∧ Q (.int ((Sv17.word (b.drop p) : Nat) : Int)) H
theorem sc_num : FnScope ["numbers", "place", "low", "high"] ["numbers", "place"] (defScope s_number_at) := ⟨rfl, rfl, rfl, by decide +kernel, rfl, by decide +kernel, by decide +kernel⟩
theorem ok_num {f : Addr} {fd : FuncData} (F : Fun K "number_at" "number_at" s_number_at f fd) : FnOk P w K mg base CX0 1 f fd ["numbers", "place"] spNum := by
  refine F.ok sc_num (fun vs H Q E h => ?_) (fun cdv A outer s H vs Q E hr h => ?_)
  · obtain ⟨a, b, p, rfl, _⟩ := h
    rfl
  · obtain ⟨a, b, p, rfl, h1, hb, hp, k⟩ := h
    refine ⟨_, pss_cons (ps_set (i := 2) sc_num.nd rfl (Or.inl rfl) (pe_op op_add (pe_ix ix_list (pv 0) (pv 1) (fun _ _ => rfl)) (pe_op op_mul (pe_ix ix_list (pv 0) (pe_op op_add (pv 1) pe_int) (fun _ _ => rfl)) pe_int)))
      (pss_cons (ps_set (i := 3) sc_num.nd rfl (Or.inl rfl) (pe_op op_add (pe_ix ix_list (pv 0) (pe_op op_add (pv 1) pe_int) (fun _ _ => rfl)) (pe_op op_mul (pe_ix ix_list (pv 0) (pe_op op_add (pv 1) pe_int) (fun _ _ => rfl)) pe_int)))
      (pss_one (ps_ret (pe_op op_add (pv 2) (pe_op op_mul (pv 3) pe_int))))), ?_⟩
    have hm : ∀ x : Int, CMul x 256 := fun x => .inr ⟨by decide, by decide⟩
    have hm2 : ∀ x : Int, CMul x 65536 := fun x => .inr ⟨by decide, by decide⟩
    refine ⟨_, rfl, _, rfl, a, _, _, _, rfl, rfl, SqL.of h1, at_of (j := p) rfl (bv_get (by omega)), ?_⟩
    refine ⟨_, rfl, _, rfl, _, _, rfl, rfl, a, _, _, _, rfl, rfl, SqL.of h1, at_of (j := p + 1) rfl (bv_get (by omega)), _, _, rfl, rfl, hm _, _, _, rfl, rfl, ?_⟩
    refine ⟨_, rfl, _, rfl, _, _, rfl, rfl, a, _, _, _, rfl, rfl, SqL.of h1, at_of (j := p + 2) rfl (bv_get (by omega)), ?_⟩
    refine ⟨_, rfl, _, rfl, _, _, rfl, rfl, a, _, _, _, rfl, rfl, SqL.of h1, at_of (j := p + 3) rfl (bv_get (by omega)), _, _, rfl, rfl, hm _, _, _, rfl, rfl, ?_⟩
    refine ⟨_, rfl, _, rfl, _, _, rfl, rfl, hm2 _, _, _, rfl, rfl, ?_⟩
    rw [word4 hb hp] at k
    simpa using k
/-! ### bytes_of_number -/
def spBon : Sp := fun vs H Q _ => ∃ (n : Nat), vs = [.int n] ∧ n < 4294967296 ∧ ∀ (H' : Hp) (p : Addr), Same H H' → H' p = some (.lst (bv (Sv17.little 4 n))) → Q (.ref p) H'
theorem sc_bon : FnScope ["number"] ["number"] (defScope s_bytes_of_number) := ⟨rfl, rfl, rfl, by decide +kernel, rfl, by decide +kernel, by decide +kernel⟩
theorem ok_bon {f : Addr} {fd : FuncData} (F : Fun K "bytes_of_number" "bytes_of_number" s_bytes_of_number f fd) : FnOk P w K mg base CX0 1 f fd ["number"] spBon := by
  refine F.ok sc_bon (fun vs H Q E h => ?_) (fun cdv A outer s H vs Q E hr h => ?_)
  · obtain ⟨n, rfl, _⟩ := h
    rfl
  · obtain ⟨n, rfl, hn, k⟩ := h
    refine ⟨_, pss_one (ps_ret (pe_lst (pa_cons (pe_op op_mod (pv 0) pe_int) (pa_cons (pe_op op_mod (pe_op op_fdiv (pv 0) pe_int) pe_int) (pa_cons (pe_op op_mod (pe_op op_fdiv (pv 0) pe_int) pe_int) (pa_cons (pe_op op_fdiv (pv 0) pe_int) pa_nil)))))), ?_⟩
    have hd : ∀ x : Int, CDiv x 256 := fun x => ⟨by decide, by decide⟩
    have hd2 : ∀ x : Int, CDiv x 65536 := fun x => ⟨by decide, by decide⟩
    have hd3 : ∀ x : Int, CDiv x 16777216 := fun x => ⟨by decide, by decide⟩
    have h0 : (0 : Int) < 256 := by decide
    refine ⟨_, rfl, _, _, rfl, rfl, h0, _, rfl, _, _, rfl, rfl, hd _, _, _, rfl, rfl, h0, _, rfl, _, _, rfl, rfl, hd2 _, _, _, rfl, rfl, h0, _, rfl, _, _, rfl, rfl, hd3 _, (by show 4 ≤ sizeLine; decide), fun l hl => ?_⟩
    refine k _ l (same_upd hl) ?_
    rw [upd_same, little4]
    have e : n / 16777216 % 256 = n / 16777216 := by omega
    rw [e]
    simp [bv]
/-! ### may_follow -/
def spMay : Sp := fun vs H Q _ => ∃ (k p : Nat), vs = [.int k, .int p] ∧ Q (.bl (mayF k p)) H
theorem sc_may : FnScope ["kind", "earlier"] ["kind", "earlier"] (defScope s_may_follow) := ⟨rfl, rfl, rfl, by decide +kernel, rfl, by decide +kernel, by decide +kernel⟩
theorem ok_may {f : Addr} {fd : FuncData} (F : Fun K "may_follow" "may_follow" s_may_follow f fd) (g2 : Glb mg "PUT_IN" (.int 2)) (g3 : Glb mg "TAKE_OUT" (.int 3)) : FnOk P w K mg base CX0 1 f fd ["kind", "earlier"] spMay := by
  refine F.ok sc_may (fun vs H Q E h => ?_) (fun cdv A outer s H vs Q E hr h => ?_)
  · obtain ⟨k, p, rfl, _⟩ := h
    rfl
  · obtain ⟨k, p, rfl, q⟩ := h
    refine ⟨_, pss_cons (ps_if (pt_cmpR op_eq (pv 0) (pv 1) (nomark _)) (pss_one (ps_ret pe_bl)) pss_nil)
      (pss_one (ps_ret (pe_not (pe_and (pe_cmpR op_eq (pv 0) (pg_glob g2) (nomark _)) (pe_one (pe_cmpR op_eq (pv 1) (pg_glob g3) (nomark _))))))), ?_⟩
    refine ⟨_, rfl, _, rfl, rfl, _, rfl, ite2 (fun e => ?_) (fun e => ?_)⟩
    · have e : k = p := by simp at e; omega
      have e2 : mayF k p = false := by unfold mayF; rw [if_pos e]
      rw [e2] at q
      exact q
    · have e : ¬ k = p := by simp at e; omega
      refine ⟨_, rfl, rfl, _, rfl, ite2 (fun e1 => ⟨_, rfl, rfl, _, rfl, ?_⟩) (fun e1 => ⟨_, rfl, ?_⟩)⟩
      · have e1 : k = 2 := by simp at e1; omega
        have e2 : mayF k p = !decide (V.int (p : Int) = V.int 3) := by
          unfold mayF
          rw [if_neg e, decide_eq_true e1, Bool.true_and]
          congr 1
          by_cases z : p = 3
          · subst z; rfl
          · rw [decide_eq_false z, decide_eq_false (by intro h; apply z; have := V.int.inj h; omega)]
        rw [← e2]
        exact q
      · have e1 : ¬ k = 2 := by intro z; apply e1; subst z; rfl
        have e2 : mayF k p = !false := by
          unfold mayF
          rw [if_neg e, decide_eq_false e1, Bool.false_and]
        rw [← e2]
        exact q
end
end My
end
section
set_option Elab.async false
set_option linter.all false
set_option maxRecDepth 100000
set_option maxHeartbeats 2000000
namespace My
open PySem PySem.Spec PyProof.Rows L2
/-! ### length_before, length_after -/
def lenF (k : Nat) (e : Edit) : List Int := (e.filter fun s => decide (kd s ≠ k)).map fun s => (s.size : Int)
theorem take_snoc {α : Type} {l : List α} {i : Nat} {x : α} (h : l[i]? = some x) : l.take (i + 1) = l.take i ++ [x] := by
  obtain ⟨h1, h2⟩ := List.getElem?_eq_some_iff.mp h
  rw [List.take_succ_eq_append_getElem h1, h2]
theorem lenF_len (k : Nat) (e : Edit) : (lenF k e).length ≤ e.length := by unfold lenF; rw [List.length_map]; exact List.length_filter_le ..
theorem lenF_in {k : Nat} {e : Edit} {i : Nat} {s : Step} (h : e[i]? = some s) (hs : kd s ≠ k) : lenF k (e.take (i + 1)) = lenF k (e.take i) ++ [(s.size : Int)] := by
  unfold lenF
  rw [take_snoc h, List.filter_append, List.filter_cons, if_pos (decide_eq_true hs), List.filter_nil, List.map_append]
  rfl
theorem lenF_out {k : Nat} {e : Edit} {i : Nat} {s : Step} (h : e[i]? = some s) (hs : kd s = k) : lenF k (e.take (i + 1)) = lenF k (e.take i) := by
  unfold lenF
  rw [take_snoc h, List.filter_append, List.filter_cons, if_neg (by simp [hs]), List.filter_nil, List.append_nil]
theorem lenF_before : ∀ e : Edit, (lenF 2 e).sum = ((Sv17.before e : Nat) : Int)
  | [] => rfl
  | s :: e => by
    have ih := lenF_before e
    unfold lenF at ih ⊢
    cases s with
    | keep n => rw [before_keep, List.filter_cons, if_pos (by simp [kd]), List.map_cons, List.sum_cons, ih]; simp [Sv17.Step.size]
    | ins n => rw [before_ins, List.filter_cons, if_neg (by simp [kd])]; exact ih
    | del n => rw [before_del, List.filter_cons, if_pos (by simp [kd]), List.map_cons, List.sum_cons, ih]; simp [Sv17.Step.size]
theorem lenF_behind : ∀ e : Edit, (lenF 3 e).sum = ((Sv17.behind e : Nat) : Int)
  | [] => rfl
  | s :: e => by
    have ih := lenF_behind e
    unfold lenF at ih ⊢
    cases s with
    | keep n => rw [behind_keep, List.filter_cons, if_pos (by simp [kd]), List.map_cons, List.sum_cons, ih]; simp [Sv17.Step.size]
    | ins n => rw [behind_ins, List.filter_cons, if_pos (by simp [kd]), List.map_cons, List.sum_cons, ih]; simp [Sv17.Step.size]
    | del n => rw [behind_del, List.filter_cons, if_neg (by simp [kd])]; exact ih
def spLen (m : Edit → Nat) : Sp := fun vs H Q _ => ∃ (a : Addr) (e : Edit), vs = [.ref a] ∧ EditAt H a e ∧ e.length ≤ sizeLine ∧ ∀ H' : Hp, Same H H' → Q (.int ((m e : Nat) : Int)) H'
section
variable {P : Program} {w : World} {K : PySem.W.Frag} {mg : Str → Option Value} {base : Heap}

theorem sc_lb : FnScope ["edit", "step"] ["edit"] (defScope s_length_before) := ⟨rfl, rfl, rfl, by decide +kernel, rfl, by decide +kernel, by decide +kernel⟩
theorem ok_lb {f : Addr} {fd : FuncData} (F : Fun K "length_before" "length_before" s_length_before f fd) (g2 : Glb mg "PUT_IN" (.int 2)) (gs : mg "sum" = none) : FnOk P w K mg base CX0 1 f fd ["edit"] (spLen Sv17.before) := by
  refine F.ok sc_lb (fun vs H Q E h => ?_) (fun cdv A outer s H vs Q E hr h => ?_)
  · obtain ⟨a, e, rfl, _⟩ := h
    rfl
  · obtain ⟨a, e, rfl, he, hz, k⟩ := h
    obtain ⟨ts, h1, h2⟩ := he.ex
    have hl : ts.length = e.length := Paired.length h2
    refine ⟨_, pss_one (ps_ret (pe_callB (cr_sum rfl) rfl gs boot_sum (pa_cons (pe_lc (own := [("step", 1)]) rfl sc_lb.nd (pi_list (pv 0)) (by exact blkOk_by (N := ["edit", "step"]) (sc := defScope s_length_before) (by decide +kernel))
      (fun _ _ _ _ _ => pg_name (i := 1) sc_lb.nd rfl (Or.inl rfl))
      (fun _ _ _ _ _ => pts_one (pt_cmpR op_ne (pe_ix (r := rIxT K) ix_tup (pv 1) pe_int (fun _ _ => rfl)) (pg_glob g2) (nomark _)))
      (fun _ _ _ _ _ => pe_ix (r := rIxT K) ix_tup (pv 1) pe_int (fun _ _ => rfl))) pa_nil))), ?_⟩
    refine ⟨_, rfl, a, rfl, ⟨_, SqL.of h1⟩, fun D hD => ?_⟩
    refine lc_list (K := K) (a := a) (xs := ts.map V.ref) (fun i H' => Same H H' ∧ H' D = some (.lst ((lenF 2 (e.take i)).map V.int))) ⟨same_upd hD, upd_same⟩ (fun i H' _ h => SqL.of (h.1 _ _ h1)) ?_ ?_
    · rintro i x H' hi ⟨s1, hd⟩
      rw [List.getElem?_map] at hi
      obtain ⟨t, ht, rfl⟩ : ∃ t, ts[i]? = some t ∧ V.ref t = x := by
        cases q : ts[i]? with
        | none => rw [q] at hi; cases hi
        | some t => rw [q] at hi; exact ⟨t, rfl, Option.some.inj hi⟩
      obtain ⟨y, hy, d, ht1, ht2⟩ := Paired.getL h2 ht
      have hT := s1 _ _ ht1
      have hlt : i < e.length := (List.getElem?_eq_some_iff.mp hy).1
      refine ⟨rfl, _, rfl, t, _, _, _, rfl, rfl, SqT.of hT, atI_nat (j := 0) rfl, rfl, _, rfl, ?_⟩
      refine ite2 (fun c => ?_) (fun c => ?_)
      · refine ⟨_, rfl, t, _, _, _, rfl, rfl, SqT.of hT, atI_nat (j := 1) rfl, _, hd, ?_, ?_, ?_⟩
        · rw [List.length_map]
          have := lenF_len 2 (e.take i)
          rw [List.length_take] at this
          omega
        · exact fun b o q => by rw [upd_ne (ne_of_none q hD)]; exact s1 b o q
        · rw [upd_same, lenF_in hy (by intro z; rw [z] at c; simp at c)]
          simp
      · refine ⟨s1, ?_⟩
        rw [lenF_out hy (by simp at c; omega)]
        exact hd
    · rintro H' ⟨s1, hd⟩
      rw [List.length_map, hl, List.take_length] at hd
      refine ⟨D, _, rfl, SqL.of hd, ?_⟩
      rw [lenF_before]
      exact k H' s1

theorem sc_la : FnScope ["edit", "step"] ["edit"] (defScope s_length_after) := ⟨rfl, rfl, rfl, by decide +kernel, rfl, by decide +kernel, by decide +kernel⟩
theorem ok_la {f : Addr} {fd : FuncData} (F : Fun K "length_after" "length_after" s_length_after f fd) (g2 : Glb mg "TAKE_OUT" (.int 3)) (gs : mg "sum" = none) : FnOk P w K mg base CX0 1 f fd ["edit"] (spLen Sv17.behind) := by
  refine F.ok sc_la (fun vs H Q E h => ?_) (fun cdv A outer s H vs Q E hr h => ?_)
  · obtain ⟨a, e, rfl, _⟩ := h
    rfl
  · obtain ⟨a, e, rfl, he, hz, k⟩ := h
    obtain ⟨ts, h1, h2⟩ := he.ex
    have hl : ts.length = e.length := Paired.length h2
    refine ⟨_, pss_one (ps_ret (pe_callB (cr_sum rfl) rfl gs boot_sum (pa_cons (pe_lc (own := [("step", 1)]) rfl sc_la.nd (pi_list (pv 0)) (by exact blkOk_by (N := ["edit", "step"]) (sc := defScope s_length_after) (by decide +kernel))
      (fun _ _ _ _ _ => pg_name (i := 1) sc_la.nd rfl (Or.inl rfl))
      (fun _ _ _ _ _ => pts_one (pt_cmpR op_ne (pe_ix (r := rIxT K) ix_tup (pv 1) pe_int (fun _ _ => rfl)) (pg_glob g2) (nomark _)))
      (fun _ _ _ _ _ => pe_ix (r := rIxT K) ix_tup (pv 1) pe_int (fun _ _ => rfl))) pa_nil))), ?_⟩
    refine ⟨_, rfl, a, rfl, ⟨_, SqL.of h1⟩, fun D hD => ?_⟩
    refine lc_list (K := K) (a := a) (xs := ts.map V.ref) (fun i H' => Same H H' ∧ H' D = some (.lst ((lenF 3 (e.take i)).map V.int))) ⟨same_upd hD, upd_same⟩ (fun i H' _ h => SqL.of (h.1 _ _ h1)) ?_ ?_
    · rintro i x H' hi ⟨s1, hd⟩
      rw [List.getElem?_map] at hi
      obtain ⟨t, ht, rfl⟩ : ∃ t, ts[i]? = some t ∧ V.ref t = x := by
        cases q : ts[i]? with
        | none => rw [q] at hi; cases hi
        | some t => rw [q] at hi; exact ⟨t, rfl, Option.some.inj hi⟩
      obtain ⟨y, hy, d, ht1, ht2⟩ := Paired.getL h2 ht
      have hT := s1 _ _ ht1
      have hlt : i < e.length := (List.getElem?_eq_some_iff.mp hy).1
      refine ⟨rfl, _, rfl, t, _, _, _, rfl, rfl, SqT.of hT, atI_nat (j := 0) rfl, rfl, _, rfl, ?_⟩
      refine ite2 (fun c => ?_) (fun c => ?_)
      · refine ⟨_, rfl, t, _, _, _, rfl, rfl, SqT.of hT, atI_nat (j := 1) rfl, _, hd, ?_, ?_, ?_⟩
        · rw [List.length_map]
          have := lenF_len 3 (e.take i)
          rw [List.length_take] at this
          omega
        · exact fun b o q => by rw [upd_ne (ne_of_none q hD)]; exact s1 b o q
        · rw [upd_same, lenF_in hy (by intro z; rw [z] at c; simp at c)]
          simp
      · refine ⟨s1, ?_⟩
        rw [lenF_out hy (by simp at c; omega)]
        exact hd
    · rintro H' ⟨s1, hd⟩
      rw [List.length_map, hl, List.take_length] at hd
      refine ⟨D, _, rfl, SqL.of hd, ?_⟩
      rw [lenF_behind]
      exact k H' s1
end
end My
end
section
set_option Elab.async false
set_option linter.all false
set_option maxRecDepth 100000
set_option maxHeartbeats 2000000
namespace My
open PySem PySem.Spec PyProof.Rows L2
section
variable {P : Program} {w : World} {K : PySem.W.Frag} {mg : Str → Option Value} {base : Heap}
/-! ### step_at -/
/-- a step just made: its data is new -/
def OptStep (H H' : Hp) (v : V) : Option Step → Prop
  | none => v = .non
  | some s => ∃ t d, v = .ref t ∧ H t = none ∧ H d = none ∧ H' t = some (.tup [.int (kd s), .int s.size, .ref d]) ∧ H' d = some (.lst (bv (dat s)))
def spStep : Sp := fun vs H Q _ => ∃ (a : Addr) (b : Bytes) (p : Nat), vs = [.ref a, .int p] ∧ H a = some (.lst (bv b)) ∧ Byt b ∧ ∀ (v : V) (H' : Hp), Same H H' → OptStep H H' v (stepAt b p) → Q v H'
theorem sc_step : FnScope ["numbers", "place", "kind", "count", "data"] ["numbers", "place"] (defScope s_step_at) := ⟨rfl, rfl, rfl, by decide +kernel, rfl, by decide +kernel, by decide +kernel⟩
theorem inV3 (k : Nat) : inV (V.int (k : Int)) [V.int 1, V.int 2, V.int 3] = decide (k = 1 ∨ k = 2 ∨ k = 3) := by
  have e : inV (V.int (k : Int)) [V.int 1, V.int 2, V.int 3] = ((1 : Int) == (k : Int) || ((2 : Int) == (k : Int) || ((3 : Int) == (k : Int) || false))) := rfl
  rw [e]
  by_cases h1 : k = 1
  · subst h1; rfl
  by_cases h2 : k = 2
  · subst h2; rfl
  by_cases h3 : k = 3
  · subst h3; rfl
  rw [decide_eq_false (by omega), beq_eq_false_iff_ne.mpr (by omega), beq_eq_false_iff_ne.mpr (by omega), beq_eq_false_iff_ne.mpr (by omega)]
  rfl
theorem ok_step {f : Addr} {fd : FuncData} (F : Fun K "step_at" "step_at" s_step_at f fd) (g1 : Glb mg "KEEP" (.int 1)) (g2 : Glb mg "PUT_IN" (.int 2)) (g3 : Glb mg "TAKE_OUT" (.int 3)) (g5 : Glb mg "HEAD_LENGTH" (.int 5)) (gl : mg "len" = none)
    (cN : Cal P w K mg base "number_at" 1 ["numbers", "place"] spNum) : FnOk P w K mg base CX0 2 f fd ["numbers", "place"] spStep := by
  refine F.ok sc_step (fun vs H Q E h => ?_) (fun cdv A outer s H vs Q E hr h => ?_)
  · obtain ⟨a, b, p, rfl, _⟩ := h
    rfl
  · obtain ⟨a, b, p, rfl, h1, hb, k⟩ := h
    refine ⟨_, pss_cons (ps_if (pt_cmpR op_gt (pe_op op_add (pv 1) (pg_glob g5)) (pe_callB call_len_seq rfl gl PySem.boot_len (pa_cons (pv 0) pa_nil)) (nomark _)) (pss_one (ps_ret pe_non)) pss_nil)
      (pss_cons (ps_set (i := 2) sc_step.nd rfl (Or.inl rfl) (pe_ix ix_list (pv 0) (pv 1) (fun _ _ => rfl)))
      (pss_cons (ps_set (i := 3) sc_step.nd rfl (Or.inl rfl) (pc_call cN hr (pa_cons (pv 0) (pa_cons (pe_op op_add (pv 1) pe_int) pa_nil))))
      (pss_cons (ps_if (PW.pt (pw_or (pt_cmpR op_notIn_seq (pv 2) (pe_tup (pa_cons (pg_glob g1) (pa_cons (pg_glob g2) (pa_cons (pg_glob g3) pa_nil)))) (by with_unfolding_all rfl)) (pw_or1 (pt_cmpR op_eq (pv 3) pe_int (nomark _))))) (pss_one (ps_ret pe_non)) pss_nil)
      (pss_cons (ps_if (pt_cmpR op_ne (pv 2) (pg_glob g2) (nomark _)) (pss_one (ps_ret (pe_tup (pa_cons (pv 2) (pa_cons (pv 3) (pa_cons (pe_lst pa_nil) pa_nil)))))) pss_nil)
      (pss_cons (ps_set (i := 4) sc_step.nd rfl (Or.inl rfl) (pe_slice sl_list (pv 0) (po_some (pe_op op_add (pv 1) (pg_glob g5))) (po_some (pe_op op_add (pe_op op_add (pv 1) (pg_glob g5)) (pv 3)))))
      (pss_cons (ps_if (pt_cmpR op_lt (pe_callB call_len_seq rfl gl PySem.boot_len (pa_cons (pv 4) pa_nil)) (pv 3) (nomark _)) (pss_one (ps_ret pe_non)) pss_nil)
      (pss_one (ps_ret (pe_tup (pa_cons (pv 2) (pa_cons (pv 3) (pa_cons (pv 4) pa_nil)))))))))))), ?_⟩
    refine ⟨_, rfl, _, _, rfl, rfl, _, rfl, a, _, rfl, .inl (SqL.of h1), _, _, rfl, rfl, _, rfl, ite2 (fun c => ?_) (fun c => ?_)⟩
    · have c : b.length < p + 5 := by rw [bv_len] at c; simp at c; omega
      refine k _ _ (Same.refl H) ?_
      unfold stepAt
      rw [if_pos c]
      rfl
    have c : ¬ b.length < p + 5 := by rw [bv_len] at c; simp at c; omega
    refine ⟨_, rfl, _, rfl, a, _, _, _, rfl, rfl, SqL.of h1, at_of (j := p) rfl (bv_get (by omega)), ?_⟩
    refine ⟨_, rfl, _, rfl, _, _, rfl, rfl, a, b, p + 1, rfl, h1, hb, by omega, ?_⟩
    have hs : stepAt b p = if (b.getD p 0 = 1 ∨ b.getD p 0 = 2 ∨ b.getD p 0 = 3) ∧ Sv17.word (b.drop (p + 1)) ≠ 0 then
      (if b.getD p 0 = 1 then some (.keep (Sv17.word (b.drop (p + 1)))) else if b.getD p 0 = 3 then some (.del (Sv17.word (b.drop (p + 1)))) else if ((b.drop (p + 1)).drop 4).length < Sv17.word (b.drop (p + 1)) then none else some (.ins (((b.drop (p + 1)).drop 4).take (Sv17.word (b.drop (p + 1))))))
      else none := by
      unfold stepAt
      rw [if_neg c]
    have hd : (b.drop (p + 1)).drop 4 = b.drop (p + 5) := by rw [List.drop_drop]
    rw [hd] at hs
    generalize hn : Sv17.word (b.drop (p + 1)) = n at hs ⊢
    generalize hk : b.getD p 0 = kk at hs ⊢
    refine ⟨_, rfl, (by show 3 ≤ sizeLine; decide), fun l hl => ⟨l, _, rfl, .inr (SqT.of upd_same), rfl, rfl, _, rfl, ?_⟩⟩
    have s1 : Same H (upd H l (.tup [.int 1, .int 2, .int 3])) := same_upd hl
    have hin := inV3 kk
    show if (!inV (V.int (kk : Int)) [V.int 1, V.int 2, V.int 3]) = true then _ else _
    rw [hin]
    by_cases hkk : kk = 1 ∨ kk = 2 ∨ kk = 3
    · rw [decide_eq_true hkk]
      refine iteF ⟨_, rfl, rfl, _, rfl, ite2 (fun c0 => ?_) (fun c0 => ?_)⟩
      · have c0 : n = 0 := by simp at c0; omega
        refine k _ _ s1 ?_
        rw [hs, if_neg (fun z => z.2 c0)]
        rfl
      · have c0 : n ≠ 0 := by intro z; apply c0; subst z; rfl
        rw [if_pos ⟨hkk, c0⟩] at hs
        refine ⟨_, rfl, rfl, _, rfl, ite2 (fun c2 => ?_) (fun c2 => ?_)⟩
        · have c2 : kk ≠ 2 := by intro z; subst z; simp at c2
          refine ⟨_, rfl, _, rfl, (by show 0 ≤ sizeLine; decide), fun d hdn => ⟨(by show 3 ≤ sizeLine; decide), fun t htn => ?_⟩⟩
          refine k _ _ ((s1.trans (same_upd hdn)).trans (same_upd htn)) ?_
          have dt : d ≠ t := ne_of_none upd_same htn
          have e2 : (upd (upd (upd H l (.tup [.int 1, .int 2, .int 3])) d (.lst [])) t (.tup [.int kk, .int n, .ref d])) d = some (.lst []) := by rw [upd_ne dt, upd_same]
          by_cases k1 : kk = 1
          · rw [if_pos k1] at hs
            rw [hs]
            subst k1
            exact ⟨t, d, rfl, (s1.trans (same_upd hdn)).free htn, s1.free hdn, upd_same, e2⟩
          · have k3 : kk = 3 := by omega
            rw [if_neg k1, if_pos k3] at hs
            rw [hs]
            subst k3
            exact ⟨t, d, rfl, (s1.trans (same_upd hdn)).free htn, s1.free hdn, upd_same, e2⟩
        · have c2 : kk = 2 := by simp at c2; omega
          rw [if_neg (by omega), if_neg (by omega)] at hs
          refine ⟨_, rfl, _, rfl, _, _, rfl, rfl, _, rfl, _, rfl, _, _, rfl, rfl, _, rfl, _, _, rfl, rfl, _, rfl, a, _, rfl, SqL.of (s1 _ _ h1), fun d hdn => ?_⟩
          have ec : cutV (bv b) (some ((p : Int) + 5)) (some ((p : Int) + 5 + (n : Int))) = bv ((b.drop (p + 5)).take n) := by
            have := cut_bv b (p + 5) (p + 5 + n)
            rw [show p + 5 + n - (p + 5) = n by omega] at this
            simpa using this
          rw [ec]
          refine ⟨_, rfl, d, _, rfl, .inl (SqL.of upd_same), _, rfl, _, _, rfl, rfl, _, rfl, ite2 (fun c3 => ?_) (fun c3 => ?_)⟩
          · have c3 : (b.drop (p + 5)).length < n := by rw [bv_len, List.length_take] at c3; simp at c3 ⊢; omega
            refine k _ _ (s1.trans (same_upd hdn)) ?_
            rw [hs, if_pos c3]
            rfl
          · have c3 : ¬ (b.drop (p + 5)).length < n := by rw [bv_len, List.length_take] at c3; simp at c3 ⊢; omega
            refine ⟨_, rfl, _, rfl, _, rfl, (by show 3 ≤ sizeLine; decide), fun t htn => ?_⟩
            refine k _ _ ((s1.trans (same_upd hdn)).trans (same_upd htn)) ?_
            rw [hs, if_neg c3]
            have dt : d ≠ t := ne_of_none upd_same htn
            have elen : ((b.drop (p + 5)).take n).length = n := by rw [List.length_take]; omega
            refine ⟨t, d, rfl, (s1.trans (same_upd hdn)).free htn, s1.free hdn, ?_, by rw [upd_ne dt, upd_same]; rfl⟩
            rw [upd_same, c2]
            show some (HO.tup [V.int ((2 : Nat) : Int), V.int (n : Int), V.ref d]) = some (HO.tup [V.int ((2 : Nat) : Int), V.int ((((b.drop (p + 5)).take n).length : Nat) : Int), V.ref d])
            rw [elen]
    · rw [decide_eq_false hkk]
      refine iteT (iteT ?_)
      refine k _ _ s1 ?_
      rw [hs, if_neg (fun z => hkk z.1)]
      rfl
end
end My
end
section
set_option Elab.async false
set_option linter.all false
set_option maxRecDepth 100000
set_option maxHeartbeats 2000000
namespace My
open PySem PySem.Spec PyProof.Rows L2
/-! ### heaps without what is still written -/
def wo (H : Hp) (m : List Addr) : Hp := fun b => if b ∈ m then none else H b
theorem wo_sub (H : Hp) (m : List Addr) : Same (wo H m) H := fun b o e => by
  unfold wo at e
  by_cases h : b ∈ m
  · rw [if_pos h] at e; cases e
  · rw [if_neg h] at e; exact e
theorem wo_at {H : Hp} {m : List Addr} {b : Addr} {o : HO} (h : H b = some o) (hb : b ∉ m) : wo H m b = some o := by unfold wo; rw [if_neg hb]; exact h
theorem wo_out {H : Hp} {m : List Addr} {b : Addr} {o : HO} (e : wo H m b = some o) : b ∉ m := fun h => by
  unfold wo at e
  rw [if_pos h] at e; cases e
theorem wo_same {H H' : Hp} {m : List Addr} (h : Frm m H H') : Same (wo H m) (wo H' m) := fun b o e => wo_at (h b o (wo_sub H m b o e) (wo_out e)) (wo_out e)
/-- .. where one of the written things is replaced by a new one -/
theorem wo_mono {H H' : Hp} {m m' : List Addr} (h : Frm m H H') (hm : ∀ b ∈ m', b ∈ m ∨ H b = none) : Same (wo H m) (wo H' m') := fun b o e => by
  have hb := wo_out e
  have h1 := wo_sub H m b o e
  refine wo_at (h b o h1 hb) fun z => ?_
  rcases hm b z with q | q
  · exact hb q
  · rw [q] at h1; cases h1
section
variable {P : Program} {w : World} {K : PySem.W.Frag} {mg : Str → Option Value} {base : Heap}
/-! ### edit_from_bytes -/
def OptEdit (H : Hp) (v : V) : Option Edit → Prop
  | none => v = .non
  | some e => ∃ a, v = .ref a ∧ EditAt H a e
theorem OptEdit.unwo {H : Hp} {m : List Addr} {v : V} {o : Option Edit} (h : OptEdit (wo H m) v o) : OptEdit H v o := by
  cases o with
  | none => exact h
  | some e =>
    obtain ⟨a, h1, h2⟩ := h
    exact ⟨a, h1, h2.same (wo_sub _ _)⟩
/-- m: what is still written, and is no part of what comes back -/
def spEfb : Sp := fun vs H Q _ => ∃ (a : Addr) (b : Bytes) (m : List Addr), vs = [.ref a] ∧ H a = some (.lst (bv b)) ∧ Byt b ∧ b.length ≤ sizeLine ∧ (∀ c ∈ m, ∃ o, H c = some o) ∧ ∀ (v : V) (H' : Hp), Same H H' → OptEdit (wo H' m) v (Sv17.editOf b) → Q v H'
theorem sc_efb : FnScope ["numbers", "edit", "earlier", "place", "step"] ["numbers"] (defScope s_edit_from_bytes) := ⟨rfl, rfl, rfl, by decide +kernel, rfl, by decide +kernel, by decide +kernel⟩
theorem width_eq (s : Step) : width s = 5 + (dat s).length := by cases s <;> rfl
theorem ok_efb {f : Addr} {fd : FuncData} (F : Fun K "edit_from_bytes" "edit_from_bytes" s_edit_from_bytes f fd) (g0 : Glb mg "NO_STEP" (.int 0)) (g5 : Glb mg "HEAD_LENGTH" (.int 5)) (gT : Glb mg "LONGEST_TEXT" (.int 65536)) (gl : mg "len" = none)
    (cS : Cal P w K mg base "step_at" 2 ["numbers", "place"] spStep) (cM : Cal P w K mg base "may_follow" 1 ["kind", "earlier"] spMay)
    (cB : Cal P w K mg base "length_before" 1 ["edit"] (spLen Sv17.before)) (cA : Cal P w K mg base "length_after" 1 ["edit"] (spLen Sv17.behind)) : FnOk P w K mg base CX0 3 f fd ["numbers"] spEfb := by
  refine F.ok sc_efb (fun vs H Q E h => ?_) (fun cdv A outer s H vs Q E hr h => ?_)
  · obtain ⟨a, b, m, rfl, _⟩ := h
    rfl
  · obtain ⟨a, b, mm, rfl, h1, hb, hz, tm, k⟩ := h
    refine ⟨_, pss_cons (ps_set (i := 1) sc_efb.nd rfl (Or.inl rfl) (pe_lst pa_nil))
      (pss_cons (ps_set (i := 2) sc_efb.nd rfl (Or.inl rfl) (pg_glob g0))
      (pss_cons (ps_set (i := 3) sc_efb.nd rfl (Or.inl rfl) pe_int)
      (pss_cons (ps_while PassesOwn.never (pt_cmpR op_lt (pv 3) (pe_callB call_len_seq rfl gl PySem.boot_len (pa_cons (pv 0) pa_nil)) (nomark _))
        (pss_cons (ps_set (i := 4) sc_efb.nd rfl (Or.inl rfl) (pc_call cS hr (pa_cons (pv 0) (pa_cons (pv 3) pa_nil))))
        (pss_cons (ps_if (PW.pt (pw_or (pt_cmp (pc_isN (pv 4))) (pw_or1 (pt_not (pt_val (pc_call cM hr (pa_cons (pe_ix ix_tup (pv 4) pe_int (fun _ _ => rfl)) (pa_cons (pv 2) pa_nil)))))))) (pss_one (ps_ret pe_non)) pss_nil)
        (pss_cons (ps_expr (pe_bm PySem.F.plainAttrs_list PySem.F.slot_list_append PySem.F.type_list_append mt_append (pv 1) (pa_cons (pv 4) pa_nil)))
        (pss_cons (ps_set (i := 2) sc_efb.nd rfl (Or.inl rfl) (pe_ix ix_tup (pv 4) pe_int (fun _ _ => rfl)))
        (pss_one (ps_aug (i := 3) sc_efb.nd rfl (Or.inl rfl) (pe_op op_add (pg_glob g5) (pe_callB call_len_seq rfl gl PySem.boot_len (pa_cons (pe_ix ix_tup (pv 4) pe_int (fun _ _ => rfl)) pa_nil))) ip_add)))))))
      (pss_cons (ps_if (PW.pt (pw_or (pt_cmpR op_gt (pc_call cB hr (pa_cons (pv 1) pa_nil)) (pg_glob gT) (nomark _)) (pw_or1 (pt_cmpR op_gt (pc_call cA hr (pa_cons (pv 1) pa_nil)) (pg_glob gT) (nomark _))))) (pss_one (ps_ret pe_non)) pss_nil)
      (pss_one (ps_ret (pv 1))))))), ?_⟩
    refine ⟨Nat.zero_le _, fun l hl => ?_⟩
    have nal : a ≠ l := ne_of_none h1 hl
    have fresh : ∀ {G : Hp} {c : Addr}, Same H G → G c = none → c ∉ mm := fun z e q => by
      obtain ⟨o, y⟩ := tm _ q
      rw [z _ _ y] at e; cases e
    have nlm : l ∉ mm := fresh (Same.refl H) hl
    refine ⟨fun m σ H' => ∃ (acc : Edit) (place : Nat) (ts : List Addr) (x : Option V), m = b.length - place ∧ σ = [some (.ref a), some (.ref l), some (.int ((lastK 0 acc : Nat) : Int)), some (.int (place : Int)), x] ∧ Same H H' ∧
      H' l = some (.lst (ts.map V.ref)) ∧ Paired (StepAt (wo H' (l :: mm))) ts acc ∧ Tol b place acc ∧ acc.length ≤ place ∧ place ≤ b.length, ⟨_, [], 0, [], none, rfl, rfl, same_upd hl, upd_same, .nil, Tol.start b, Nat.le_refl _, Nat.zero_le _⟩, ?_⟩
    rintro m σ H1 ⟨acc, place, ts, x, rfl, rfl, s1, hL, hP, hT, hlen, hpl⟩
    have ha := s1 _ _ h1
    have hts : ts.length = acc.length := Paired.length hP
    refine ⟨_, rfl, _, rfl, a, _, rfl, .inl (SqL.of ha), _, _, rfl, rfl, _, rfl, ite2 (fun c => ?_) (fun c => ?_)⟩
    · have c : place < b.length := by rw [bv_len] at c; simp at c; omega
      refine ⟨_, fun σ' H' z => z, ?_⟩
      refine ⟨_, rfl, _, rfl, a, b, place, rfl, ha, hb, fun v H2 s2 hv => ?_⟩
      cases hst : stepAt b place with
      | none =>
        rw [hst] at hv
        cases hv
        refine ⟨_, rfl, _, rfl, iteT (iteT ?_)⟩
        refine k _ _ (s1.trans s2) ?_
        rw [Tol.none hT c hst]
        rfl
      | some st =>
        rw [hst] at hv
        obtain ⟨t, d, rfl, ht0, hd0, ht, hd⟩ := hv
        obtain ⟨_, hsz, hwid, _⟩ := so_step hst
        refine ⟨_, rfl, _, rfl, iteF ?_⟩
        refine ⟨_, rfl, t, _, _, _, rfl, rfl, SqT.of ht, atI_nat (j := 0) rfl, _, rfl, kd st, lastK 0 acc, rfl, _, rfl, ?_⟩
        cases hmay : mayF (kd st) (lastK 0 acc) with
        | false =>
          refine iteT ?_
          refine k _ _ (s1.trans s2) ?_
          rw [Tol.bad hT hst hmay]
          rfl
        | true =>
          refine iteF ?_
          have hL2 := s2 _ _ hL
          have dl : d ≠ l := fun z => by rw [z, hL] at hd0; cases hd0
          have tl : t ≠ l := ne_of ht hL2 (by intro z; cases z)
          refine ⟨_, rfl, .inl ⟨rfl, _, SqL.of hL2⟩, _, rfl, l, _, _, rfl, rfl, hL2, (by rw [List.length_map, hts]; omega), ?_⟩
          have ht3 : upd H2 l (.lst (ts.map V.ref ++ [V.ref t])) t = _ := (upd_ne tl).trans ht
          have hd3 : upd H2 l (.lst (ts.map V.ref ++ [V.ref t])) d = _ := (upd_ne dl).trans hd
          refine ⟨_, rfl, t, _, _, _, rfl, rfl, SqT.of ht3, atI_nat (j := 0) rfl, ?_⟩
          refine ⟨_, rfl, _, rfl, t, _, _, _, rfl, rfl, SqT.of ht3, atI_nat (j := 2) rfl, d, _, rfl, .inl (SqL.of hd3), _, _, rfl, rfl, _, _, rfl, rfl, ?_⟩
          refine ⟨_, ?_, acc ++ [st], place + width st, ts ++ [t], some (.ref t), rfl, ?_, ?_, ?_, ?_, Tol.next hT hst hmay, ?_, hwid⟩
          · have := width_eq st
            omega
          · rw [lastK_snoc, width_eq]
            simp [bv_len]
          · exact fun b' o e => by rw [upd_ne (ne_of_none e hl)]; exact s2 _ _ (s1 _ _ e)
          · rw [upd_same]
            simp
          · have f1 : Frm (l :: mm) H1 (upd H2 l (.lst (ts.map V.ref ++ [V.ref t]))) := (Frm.of_same s2).trans (Frm.upd (by simp))
            exact Paired.snoc (Paired.mapP hP fun _ _ q => q.same (wo_same f1)) ⟨d, wo_at ht3 (by simp [tl, fresh s1 ht0]), wo_at hd3 (by simp [dl, fresh s1 hd0])⟩
          · rw [List.length_append, width_eq]
            simp; omega
    · have c : ¬ place < b.length := by rw [bv_len] at c; simp at c; omega
      have hE : EditAt H1 l acc := ⟨ts, hL, Paired.mapP hP fun _ _ q => q.same (wo_sub H1 _)⟩
      have hE2 : EditAt (wo H1 mm) l acc := ⟨ts, wo_at hL nlm, Paired.mapP hP fun _ _ q => q.same (wo_mono (Frm.refl _ H1) fun b hb => .inl (List.mem_cons_of_mem _ hb))⟩
      have hdone := hT.done (by omega)
      refine ⟨_, rfl, l, acc, rfl, hE, by omega, fun H2 s2 => ⟨_, _, rfl, rfl, _, rfl, ite2 (fun c1 => ?_) (fun c1 => ?_)⟩⟩
      · have c1 : ¬ Sv17.before acc ≤ 65536 := by simp at c1; omega
        refine iteT (k _ _ (s1.trans s2) ?_)
        rw [hdone, if_neg (fun z => c1 z.1)]
        rfl
      · have c1 : Sv17.before acc ≤ 65536 := by simp at c1; omega
        refine ⟨_, rfl, l, acc, rfl, hE.same s2, by omega, fun H3 s3 => ⟨_, _, rfl, rfl, _, rfl, ite2 (fun c2 => ?_) (fun c2 => ?_)⟩⟩
        · have c2 : ¬ Sv17.behind acc ≤ 65536 := by simp at c2; omega
          refine k _ _ ((s1.trans s2).trans s3) ?_
          rw [hdone, if_neg (fun z => c2 z.2)]
          rfl
        · have c2 : Sv17.behind acc ≤ 65536 := by simp at c2; omega
          refine ⟨_, rfl, ?_⟩
          refine k _ _ ((s1.trans s2).trans s3) ?_
          rw [hdone, if_pos ⟨c1, c2⟩]
          exact ⟨l, rfl, hE2.same (wo_same (Frm.of_same (s2.trans s3)))⟩
/-! ### bytes_of_edit -/
def spBoe : Sp := fun vs H Q _ => ∃ (a : Addr) (e : Edit), vs = [.ref a] ∧ EditAt H a e ∧ (Sv17.bytes e).length ≤ sizeLine ∧ (∀ s ∈ e, s.size < 4294967296) ∧ ∀ (p : Addr) (H' : Hp), Same H H' → H' p = some (.lst (bv (Sv17.bytes e))) → Q (.ref p) H'
theorem sc_boe : FnScope ["edit", "numbers", "kind", "count", "data"] ["edit"] (defScope s_bytes_of_edit) := ⟨rfl, rfl, rfl, by decide +kernel, rfl, by decide +kernel, by decide +kernel⟩
theorem bytes_step (s : Step) : s.bytes = kd s :: (Sv17.little 4 s.size ++ dat s) := by
  cases s <;> simp [Sv17.Step.bytes, kd, dat, Sv17.Step.size]
theorem ok_boe {f : Addr} {fd : FuncData} (F : Fun K "bytes_of_edit" "bytes_of_edit" s_bytes_of_edit f fd) (cN : Cal P w K mg base "bytes_of_number" 1 ["number"] spBon) : FnOk P w K mg base CX0 2 f fd ["edit"] spBoe := by
  refine F.ok sc_boe (fun vs H Q E h => ?_) (fun cdv A outer s H vs Q E hr h => ?_)
  · obtain ⟨a, e, rfl, _⟩ := h
    rfl
  · obtain ⟨a, e, rfl, he, hz, hs, k⟩ := h
    obtain ⟨ts, h1, h2⟩ := he.ex
    have hl : ts.length = e.length := Paired.length h2
    refine ⟨_, pss_cons (ps_set (i := 1) sc_boe.nd rfl (Or.inl rfl) (pe_lst pa_nil))
      (pss_cons (ps_for PassesOwn.never rfl (pi_list (pv 0)) (pg_tup rfl (pgs_cons (pg_name (i := 2) sc_boe.nd rfl (Or.inl rfl)) (pgs_cons (pg_name (i := 3) sc_boe.nd rfl (Or.inl rfl)) (pgs_cons (pg_name (i := 4) sc_boe.nd rfl (Or.inl rfl)) pgs_nil))))
        (pss_cons (ps_expr (pe_bm PySem.F.plainAttrs_list PySem.F.slot_list_append PySem.F.type_list_append mt_append (pv 1) (pa_cons (pv 2) pa_nil)))
        (pss_cons (ps_expr (pe_bm PySem.F.plainAttrs_list PySem.F.slot_list_extend PySem.F.type_list_extend mt_extend (pv 1) (pa_cons (pc_call cN hr (pa_cons (pv 3) pa_nil)) pa_nil)))
        (pss_one (ps_expr (pe_bm PySem.F.plainAttrs_list PySem.F.slot_list_extend PySem.F.type_list_extend mt_extend (pv 1) (pa_cons (pv 4) pa_nil)))))))
      (pss_one (ps_ret (pv 1)))), ?_⟩
    refine ⟨Nat.zero_le _, fun nl hnl => ?_⟩
    have n0 : ∀ b o, H b = some o → b ≠ nl := fun b o q => ne_of_none q hnl
    refine ⟨_, rfl, a, rfl, ⟨_, SqL.of (same_upd hnl _ _ h1)⟩, for_list (K := K) (a := a) (xs := ts.map V.ref) (fun i σ H' => ∃ x2 x3 x4 : Option V, σ = [some (.ref a), some (.ref nl), x2, x3, x4] ∧ Same H H' ∧ H' nl = some (.lst (bv (Sv17.bytes (e.take i)))))
      ⟨none, none, none, rfl, same_upd hnl, upd_same⟩ (fun i σ H' _ ⟨_, _, _, _, s1, _⟩ => SqL.of (s1 _ _ h1)) ?_ ?_⟩
    · rintro i x σ H' hi ⟨x2, x3, x4, rfl, s1, hn⟩
      rw [List.getElem?_map] at hi
      obtain ⟨t, ht, rfl⟩ : ∃ t, ts[i]? = some t ∧ V.ref t = x := by
        cases q : ts[i]? with
        | none => rw [q] at hi; cases hi
        | some t => rw [q] at hi; exact ⟨t, rfl, Option.some.inj hi⟩
      obtain ⟨y, hy, d, ht1, ht2⟩ := Paired.getL h2 ht
      have htk := take_snoc hy
      have hdr : Sv17.bytes e = Sv17.bytes (e.take (i + 1)) ++ Sv17.bytes (e.drop (i + 1)) := by rw [← bytes_append, List.take_append_drop]
      have hlen : (Sv17.bytes (e.take i)).length + (1 + 4 + (dat y).length) ≤ sizeLine := by
        rw [hdr, htk, bytes_append, List.length_append, List.length_append] at hz
        have e1 : (Sv17.bytes [y]).length = 1 + 4 + (dat y).length := by
          rw [bytes_cons, bytes_step, little4]
          simp [Sv17.bytes]; omega
        omega
      refine ⟨t, _, rfl, SqT.of (s1 _ _ ht1), rfl, _, _, rfl, _, _, rfl, _, _, rfl, rfl, ?_⟩
      refine ⟨_, rfl, .inl ⟨rfl, _, SqL.of hn⟩, _, rfl, nl, _, _, rfl, rfl, hn, (by rw [bv_len]; omega), ?_⟩
      refine ⟨_, rfl, .inl ⟨rfl, _, SqL.of upd_same⟩, _, rfl, y.size, rfl, hs y (List.mem_of_getElem? hy), fun H2 p s2 hp => ?_⟩
      have hn2 := s2 _ _ upd_same
      refine ⟨nl, p, _, _, rfl, rfl, hn2, hp, ?_, ?_⟩
      · rw [List.length_append, bv_len, bv_len, little4]
        simp; omega
      have ed : (upd H2 nl (.lst (bv (Sv17.bytes (e.take i)) ++ [V.int (kd y)] ++ bv (Sv17.little 4 y.size)))) d = some (.lst (bv (dat y))) := by
        rw [upd_ne (n0 _ _ ht2)]
        exact s2 _ _ (by rw [upd_ne (n0 _ _ ht2)]; exact s1 _ _ ht2)
      refine ⟨_, rfl, .inl ⟨rfl, _, SqL.of upd_same⟩, _, rfl, nl, d, _, _, rfl, rfl, upd_same, ed, ?_, ?_⟩
      · rw [List.length_append, List.length_append, bv_len, bv_len, bv_len, little4]
        simp; omega
      refine ⟨_, _, _, rfl, fun b o q => ?_, ?_⟩
      · rw [upd_ne (n0 _ _ q), upd_ne (n0 _ _ q)]
        exact s2 _ _ (by rw [upd_ne (n0 _ _ q)]; exact s1 _ _ q)
      · rw [upd_same, htk, bytes_append, bytes_cons, bytes_step]
        simp [bv, Sv17.bytes]
    · rintro σ H' ⟨x2, x3, x4, rfl, s1, hn⟩
      rw [List.length_map, hl, List.take_length] at hn
      exact ⟨_, rfl, k _ _ s1 hn⟩
end
end My
end
section
set_option Elab.async false
set_option linter.all false
set_option maxRecDepth 100000
set_option maxHeartbeats 2000000
namespace My
open PySem PySem.Spec PyProof.Rows L2
/-! ### methods and classes that may be called -/
structure CalM (P : Program) (w : World) (K : PySem.W.Frag) (mg : Str → Option Value) (base : Heap) (C : Addr) (m : Str) (k : Nat) (ps : List Str) (sp : Sp) : Prop where
  ex : ∃ (f : Addr) (fd : FuncData), FnOk P w K mg base CX0 k f fd ps sp ∧ Meth K C m f ∧ Binds K fd ps []
structure CalI (P : Program) (w : World) (K : PySem.W.Frag) (mg : Str → Option Value) (base : Heap) (C : Addr) (x : Str) (k : Nat) (ps : List Str) (sp : Sp) : Prop where
  ex : ∃ (f : Addr) (fd : FuncData), FnOk P w K mg base CX0 k f fd ps sp ∧ Mk K C f ∧ mg x = some (.ref C) ∧ Binds K fd ps []
section
variable {X : Cx}
theorem pm_call {C : Addr} {m : Str} {k k' : Nat} {ps : List Str} {sp : Sp} {apos pos : Pos} {o e : Expr} {es : List Expr} {ta : TE} {t : TA} {pl : Sem Bool} (c : CalM X.prog X.w X.K X.mg X.base C m k ps sp) (cl : Cls X.K C) (hr : Room k' X.A) (he : PE X o ta) (ha : PA X (e :: es) t) (hk : k ≤ k' := by decide)
    (hst : starEach (e :: es) X.env = (false, eval e X.env) :: starEach es X.env := by rfl) (hpl : (backTo pos (starEach es X.env)).any (·.1) = false := by rfl)
    (ht : eval (.Call (.Attribute o m apos) (e :: es) [] pos) X.env = (do
      let ov ← eval o X.env
      standAt apos.atName
      let (f, first) ← holding [ov] (getMethod ov m pl)
      callWith pos f first (backTo pos (starEach (e :: es) X.env)) (backToKw pos (keywordEach [] X.env))) := by rfl) :
    PE X (.Call (.Attribute o m apos) (e :: es) [] pos) (tMeth C m sp [] E0 ta t) := by
  obtain ⟨f, fd, G, hm, hb⟩ := c.ex
  exact pe_meth he cl hm G (hr.mono hk) hb .nil pass0 ha hst hpl ht
theorem pm_call0 {C : Addr} {m : Str} {k k' : Nat} {ps : List Str} {sp : Sp} {apos pos : Pos} {o : Expr} {ta : TE} {pl : Sem Bool} (c : CalM X.prog X.w X.K X.mg X.base C m k ps sp) (cl : Cls X.K C) (hr : Room k' X.A) (he : PE X o ta) (hk : k ≤ k' := by decide)
    (ht : eval (.Call (.Attribute o m apos) [] [] pos) X.env = (do
      let ov ← eval o X.env
      standAt apos.atName
      let (f, first) ← holding [ov] (getMethod ov m pl)
      callWith pos f first (backTo pos (starEach [] X.env)) (backToKw pos (keywordEach [] X.env))) := by rfl) :
    PE X (.Call (.Attribute o m apos) [] [] pos) (tMeth C m sp [] E0 ta tNil) := by
  obtain ⟨f, fd, G, hm, hb⟩ := c.ex
  exact pe_meth0 he cl hm G (hr.mono hk) hb .nil pass0 ht
theorem pi_call {C : Addr} {x : Str} {k k' : Nat} {ps : List Str} {sp : Sp} {p pos : Pos} {e : Expr} {es : List Expr} {t : TA} (c : CalI X.prog X.w X.K X.mg X.base C x k ps sp) (hr : Room k' X.A) (ha : PA X (e :: es) t) (hk : k + 1 ≤ k' := by decide) (hg : Gl X x := by rfl)
    (hdb : (x == ("__debug__" : Str)) = false := by decide) (he : starEach (e :: es) X.env = (false, eval e X.env) :: starEach es X.env := by rfl) (hpl : (backTo pos (starEach es X.env)).any (·.1) = false := by rfl) :
    PE X (.Call (.Name x p) (e :: es) [] pos) (tMake C sp [] E0 t) := by
  obtain ⟨f, fd, G, hm, hx, hb⟩ := c.ex
  exact pe_make hm G (hr.mono hk) hg hx hb .nil pass0 ha hdb he hpl
theorem pi_call0 {C : Addr} {x : Str} {k k' : Nat} {ps : List Str} {sp : Sp} {p pos : Pos} (c : CalI X.prog X.w X.K X.mg X.base C x k ps sp) (hr : Room k' X.A) (hk : k + 1 ≤ k' := by decide) (hg : Gl X x := by rfl)
    (hdb : (x == ("__debug__" : Str)) = false := by decide) :
    PE X (.Call (.Name x p) [] [] pos) (tMake C sp [] E0 tNil) := by
  obtain ⟨f, fd, G, hm, hx, hb⟩ := c.ex
  exact pe_make0 hm G (hr.mono hk) hg hx hb .nil pass0 hdb
theorem PS.imp {st : Stmt} {t t' : TS} (h : PS X st t) (hi : ∀ D σ H, t' D σ H → t D σ H) : PS X st t' := fun pins s σ H D I q => h pins s σ H D I (hi D σ H q)
end
/-! ### attributes -/
theorem lk_eq {f : Str} {v : V} {r : List (Str × V)} : List.lookup f ((f, v) :: r) = some v := by rw [List.lookup_cons, beq_self_eq_true]
theorem lk_ne {f g : Str} {v : V} {r : List (Str × V)} (h : (f == g) = false) : List.lookup f ((g, v) :: r) = List.lookup f r := by rw [List.lookup_cons, h]
theorem pf_eq {f : Str} {v x : V} {r : List (Str × V)} : putF f v ((f, x) :: r) = (f, v) :: r := by unfold putF; rw [if_pos rfl]
theorem pf_ne {f g : Str} {v x : V} {r : List (Str × V)} (h : ¬ g = f) : putF f v ((g, x) :: r) = (g, x) :: putF f v r := by
  show (if g = f then (g, v) :: r else (g, x) :: putF f v r) = _
  rw [if_neg h]
theorem pf_nil {f : Str} {v : V} : putF f v [] = [(f, v)] := rfl
def rowF (l : Addr) (k : Nat) (q : Addr) (t : Nat) : List (Str × V) := [("closed", .ref l), ("kept", .int k), ("put", .ref q), ("taken", .int t)]
section
variable (l : Addr) (k : Nat) (q : Addr) (t : Nat)
theorem rowF_closed : (rowF l k q t).lookup ("closed" : Str) = some (.ref l) := lk_eq
theorem rowF_kept : (rowF l k q t).lookup ("kept" : Str) = some (.int k) := (lk_ne (by decide +kernel)).trans lk_eq
theorem rowF_put : (rowF l k q t).lookup ("put" : Str) = some (.ref q) := (lk_ne (by decide +kernel)).trans ((lk_ne (by decide +kernel)).trans lk_eq)
theorem rowF_taken : (rowF l k q t).lookup ("taken" : Str) = some (.int t) := (lk_ne (by decide +kernel)).trans ((lk_ne (by decide +kernel)).trans ((lk_ne (by decide +kernel)).trans lk_eq))
theorem rowF_no {m : Str} (h1 : (m == "closed") = false) (h2 : (m == "kept") = false) (h3 : (m == "put") = false) (h4 : (m == "taken") = false) : (rowF l k q t).lookup m = none := (lk_ne h1).trans ((lk_ne h2).trans ((lk_ne h3).trans ((lk_ne h4).trans rfl)))
theorem rowF_skept (y : Nat) : putF "kept" (.int y) (rowF l k q t) = rowF l y q t := by unfold rowF; rw [pf_ne (by decide +kernel), pf_eq]
theorem rowF_sput (y : Addr) : putF "put" (.ref y) (rowF l k q t) = rowF l k y t := by unfold rowF; rw [pf_ne (by decide +kernel), pf_ne (by decide +kernel), pf_eq]
theorem rowF_staken (y : Nat) : putF "taken" (.int y) (rowF l k q t) = rowF l k q y := by unfold rowF; rw [pf_ne (by decide +kernel), pf_ne (by decide +kernel), pf_ne (by decide +kernel), pf_eq]
end
/-! ### a row -/
structure RowAt (R : Addr) (rest : List Addr) (H : Hp) (p l q : Addr) (r : RS) : Prop where
  obj : ∃ dx, H p = some (.ins R dx (rowF l r.kept q r.taken))
  lst : ∃ ts, H l = some (.lst (ts.map V.ref)) ∧ Paired (StepAt (wo H (p :: l :: q :: rest))) ts r.closed
  put : H q = some (.lst (bv r.put))
  ne : l ≠ q
  nr : q ∉ rest ∧ l ∉ rest ∧ p ∉ rest
  trk : ∀ b ∈ rest, ∃ o, H b = some o
structure MidAt (R : Addr) (rest : List Addr) (H : Hp) (p l q : Addr) (k : Nat) (b : Bytes) (t : Nat) (c : Edit) : Prop where
  obj : ∃ dx, H p = some (.ins R dx (rowF l k q t))
  lst : ∃ ts, H l = some (.lst (ts.map V.ref)) ∧ Paired (StepAt (wo H (p :: l :: rest))) ts c
  put : H q = some (.lst (bv b))
  ne : l ≠ q
  nr : q ∉ rest ∧ l ∉ rest ∧ p ∉ rest
  trk : ∀ b ∈ rest, ∃ o, H b = some o
theorem wo_less {H : Hp} {m m' : List Addr} (h : ∀ b ∈ m', b ∈ m) : Same (wo H m) (wo H m') := wo_mono (Frm.refl m H) fun b hb => .inl (h b hb)
theorem RowAt.mid {R : Addr} {rest : List Addr} {H : Hp} {p l q : Addr} {r : RS} (h : RowAt R rest H p l q r) : MidAt R rest H p l q r.kept r.put r.taken r.closed := by
  obtain ⟨ts, h1, h2⟩ := h.lst
  exact ⟨h.obj, ⟨ts, h1, Paired.mapP h2 fun _ _ z => z.same (wo_less fun b hb => by simp at hb ⊢; rcases hb with e | e | e <;> simp [e])⟩, h.put, h.ne, h.nr, h.trk⟩
/-- a step is put behind -/
theorem MidAt.push {R : Addr} {rest : List Addr} {H H1 : Hp} {p l q : Addr} {k : Nat} {b : Bytes} {t : Nat} {c : Edit} {s : Step} {ta d : Addr} {xs : List V} (h : MidAt R rest H p l q k b t c) (hx : H l = some (.lst xs)) (z : Same H H1) (ht : H ta = none) (hd : H d = none ∨ d = q)
    (e1 : H1 ta = some (.tup [.int (kd s), .int s.size, .ref d])) (e2 : H1 d = some (.lst (bv (dat s)))) : MidAt R rest (upd H1 l (.lst (xs ++ [V.ref ta]))) p l q k b t (c ++ [s]) := by
  obtain ⟨ts, h1, h2⟩ := h.lst
  obtain ⟨dx, ho⟩ := h.obj
  have ex : xs = ts.map V.ref := by rw [h1] at hx; cases hx; rfl
  subst ex
  have pl : p ≠ l := ne_of ho h1 (by intro z; cases z)
  have ql : q ≠ l := h.ne.symm
  have tl : ta ≠ l := fun e => by rw [e, h1] at ht; cases ht
  have dl : d ≠ l := fun e => by
    rcases hd with q | q
    · rw [e, h1] at q; cases q
    · exact ql (q.symm.trans e)
  have f1 : Frm (p :: l :: rest) H (upd H1 l (.lst (ts.map V.ref ++ [V.ref ta]))) := (Frm.of_same z).trans (Frm.upd (by simp))
  have nin : ∀ a, H a = none → a ∉ (p :: l :: rest) := fun a ha m => by
    simp at m
    rcases m with e | e | e
    · rw [e, ho] at ha; cases ha
    · rw [e, h1] at ha; cases ha
    · obtain ⟨o, q⟩ := h.trk a e; rw [q] at ha; cases ha
  have dn : d ∉ (p :: l :: rest) := by
    rcases hd with q' | q'
    · exact nin d q'
    · rw [q']
      intro m
      simp at m
      rcases m with e | e | e
      · have := h.put; rw [e, ho] at this; cases this
      · exact ql e
      · exact h.nr.1 e
  refine ⟨⟨dx, by rw [upd_ne pl]; exact z _ _ ho⟩, ⟨ts ++ [ta], by rw [upd_same]; simp, ?_⟩, by rw [upd_ne ql]; exact z _ _ h.put, h.ne, h.nr, fun b hb => ?_⟩
  · refine Paired.snoc (Paired.mapP h2 fun _ _ y => y.same (wo_same f1)) ⟨d, wo_at (by rw [upd_ne tl]; exact e1) (nin _ ht), wo_at (by rw [upd_ne dl]; exact e2) dn⟩
  · obtain ⟨o, y⟩ := h.trk b hb
    by_cases e : b = l
    · subst e; exact absurd hb h.nr.2.1
    · exact ⟨o, by rw [upd_ne e]; exact z _ _ y⟩
structure RowTxt (K : PySem.W.Frag) (R : Addr) : Prop where
  cl : Cls K R
  n1 : NoAttr K R "closed"
  n2 : NoAttr K R "kept"
  n3 : NoAttr K R "put"
  n4 : NoAttr K R "taken"
section
variable {P : Program} {w : World} {K : PySem.W.Frag} {mg : Str → Option Value} {base : Heap}
def spRowInit (R : Addr) : Sp := fun vs H Q _ => ∃ (p dx : Addr), vs = [.ref p] ∧ H p = some (.ins R dx []) ∧ ∀ (H' : Hp) (l q : Addr), (∀ rest, (∀ b ∈ rest, ∃ o, H b = some o) → p ∉ rest → RowAt R rest H' p l q RS.init) → Frm [p] H H' → H l = none → H q = none → Q .non H'
theorem sc_ri : FnScope ["self"] ["self"] (defScope s_Row_init) := ⟨rfl, rfl, rfl, by decide +kernel, rfl, by decide +kernel, by decide +kernel⟩
theorem ok_ri {f R : Addr} {fd : FuncData} (F : Fun K "__init__" "Row.__init__" s_Row_init f fd) (T : RowTxt K R) : FnOk P w K mg base CX0 1 f fd ["self"] (spRowInit R) := by
  refine F.ok sc_ri (fun vs H Q E h => ?_) (fun cdv A outer s H vs Q E hr h => ?_)
  · obtain ⟨p, dx, rfl, _⟩ := h
    rfl
  · obtain ⟨p, dx, rfl, h1, k⟩ := h
    refine ⟨_, pss_cons (ps_fld (pv 0) (pe_lst pa_nil) rfl) (pss_cons (ps_fld (pv 0) pe_int rfl) (pss_cons (ps_fld (pv 0) (pe_lst pa_nil) rfl) (pss_one (ps_fld (pv 0) pe_int rfl)))), ?_⟩
    refine ⟨Nat.zero_le _, fun l hl => ⟨_, rfl, p, R, dx, [], rfl, ?_, T.cl, T.n1, (by show 0 < 1000; decide), ?_⟩⟩
    · rw [upd_ne (ne_of_none h1 hl)]; exact h1
    have pl : p ≠ l := ne_of_none h1 hl
    refine ⟨_, rfl, p, R, dx, _, rfl, upd_same, T.cl, T.n2, (by show 1 < 1000; decide), ?_⟩
    refine ⟨Nat.zero_le _, fun q hq => ?_⟩
    have pq : p ≠ q := fun z => by rw [← z, upd_same] at hq; cases hq
    refine ⟨_, rfl, p, R, dx, _, rfl, (upd_ne pq).trans upd_same, T.cl, T.n3, (by show 2 < 1000; decide), ?_⟩
    have hq1 : (upd (upd H l (.lst [])) p (.ins R dx (putF "closed" (.ref l) []))) q = none := by
      rw [upd_ne pq.symm] at hq; exact hq
    have hq2 : (upd H l (.lst [])) q = none := by rw [upd_ne pq.symm] at hq1; exact hq1
    have lq : l ≠ q := fun z => by rw [← z, upd_same] at hq2; cases hq2
    have hq0 : H q = none := by rw [upd_ne lq.symm] at hq2; exact hq2
    refine ⟨_, rfl, p, R, dx, _, rfl, upd_same, T.cl, T.n4, (by show 3 < 1000; decide), ?_⟩
    refine k _ l q (fun rest tr pr => ⟨⟨dx, ?_⟩, ⟨[], ?_, .nil⟩, ?_, lq, ⟨fun m => ?_, fun m => ?_, pr⟩, fun b hb => ?_⟩) (fun b o e n => ?_) hl hq0
    · rw [upd_same]; rfl
    · rw [upd_ne pl.symm, upd_ne pl.symm, upd_ne lq, upd_ne pl.symm, upd_ne pl.symm, upd_same]; rfl
    · rw [upd_ne pq.symm, upd_ne pq.symm, upd_same]; rfl
    · obtain ⟨o, y⟩ := tr q m; rw [y] at hq0; cases hq0
    · obtain ⟨o, y⟩ := tr l m; rw [y] at hl; cases hl
    · obtain ⟨o, y⟩ := tr b hb
      have b1 : b ≠ p := fun z => pr (z ▸ hb)
      exact ⟨o, by rw [upd_ne b1, upd_ne b1, upd_ne (ne_of_none y hq0), upd_ne b1, upd_ne b1, upd_ne (ne_of_none y hl)]; exact y⟩
    · have b1 : b ≠ p := by simpa using n
      rw [upd_ne b1, upd_ne b1, upd_ne (ne_of_none e hq0), upd_ne b1, upd_ne b1, upd_ne (ne_of_none e hl)]; exact e
/-! ### close -/
def tApp (R : Addr) (rest : List Addr) (p l q : Addr) (k : Nat) (b : Bytes) (t : Nat) (o : Edit) : TS := fun D σ H => ∃ c, σ = [some (.ref p)] ∧ MidAt R rest H p l q k b t c ∧ c.length < sizeLine ∧ ∀ H', MidAt R rest H' p l q k b t (c ++ o) → Frm [l] H H' → D.nx σ H'
def spRowClose (R : Addr) : Sp := fun vs H Q _ => ∃ (p l q : Addr) (r : RS) (rest : List Addr), vs = [.ref p] ∧ RowAt R rest H p l q r ∧ r.closed.length + 3 ≤ sizeLine ∧ ∀ (H' : Hp) (q' : Addr), RowAt R rest H' p l q' r.close → Frm [p, l] H H' → H q' = none → Q .non H'
theorem sc_rc : FnScope ["self"] ["self"] (defScope s_Row_close) := ⟨rfl, rfl, rfl, by decide +kernel, rfl, by decide +kernel, by decide +kernel⟩
theorem ok_rc {f R : Addr} {fd : FuncData} (F : Fun K "close" "Row.close" s_Row_close f fd) (T : RowTxt K R) (g1 : Glb mg "KEEP" (.int 1)) (g2 : Glb mg "PUT_IN" (.int 2)) (g3 : Glb mg "TAKE_OUT" (.int 3)) (gl : mg "len" = none) : FnOk P w K mg base CX0 1 f fd ["self"] (spRowClose R) := by
  refine F.ok sc_rc (fun vs H Q E h => ?_) (fun cdv A outer s H vs Q E hr h => ?_)
  · obtain ⟨p, l, q, r, rest, rfl, _⟩ := h
    rfl
  · obtain ⟨p, l, q, r, rest, rfl, h1, hz, k⟩ := h
    refine ⟨_, pss_cons (PS.imp (t' := tApp R rest p l q r.kept r.put r.taken (oK r.kept)) (ps_if (pt_cmpR op_gt (pe_fld (pv 0) rfl) pe_int (nomark _)) (pss_one (ps_expr (pe_bm PySem.F.plainAttrs_list PySem.F.slot_list_append PySem.F.type_list_append mt_append (pe_fld (pv 0) rfl) (pa_cons (pe_tup (pa_cons (pg_glob g1) (pa_cons (pe_fld (pv 0) rfl) (pa_cons (pe_lst pa_nil) pa_nil)))) pa_nil)))) pss_nil) ?_)
      (pss_cons (PS.imp (t' := tApp R rest p l q r.kept r.put r.taken (oI r.put)) (ps_if (pt_cmpR op_gt (pe_callB call_len_seq rfl gl PySem.boot_len (pa_cons (pe_fld (pv 0) rfl) pa_nil)) pe_int (nomark _)) (pss_one (ps_expr (pe_bm PySem.F.plainAttrs_list PySem.F.slot_list_append PySem.F.type_list_append mt_append (pe_fld (pv 0) rfl) (pa_cons (pe_tup (pa_cons (pg_glob g2) (pa_cons (pe_callB call_len_seq rfl gl PySem.boot_len (pa_cons (pe_fld (pv 0) rfl) pa_nil)) (pa_cons (pe_fld (pv 0) rfl) pa_nil)))) pa_nil)))) pss_nil) ?_)
      (pss_cons (PS.imp (t' := tApp R rest p l q r.kept r.put r.taken (oD r.taken)) (ps_if (pt_cmpR op_gt (pe_fld (pv 0) rfl) pe_int (nomark _)) (pss_one (ps_expr (pe_bm PySem.F.plainAttrs_list PySem.F.slot_list_append PySem.F.type_list_append mt_append (pe_fld (pv 0) rfl) (pa_cons (pe_tup (pa_cons (pg_glob g3) (pa_cons (pe_fld (pv 0) rfl) (pa_cons (pe_lst pa_nil) pa_nil)))) pa_nil)))) pss_nil) ?_)
      (pss_cons (ps_fld (pv 0) pe_int rfl) (pss_cons (ps_fld (pv 0) (pe_lst pa_nil) rfl) (pss_one (ps_fld (pv 0) pe_int rfl)))))), ?_⟩
    · rintro D σ H0 ⟨c, rfl, hm, hc, kk⟩
      obtain ⟨dx, ho⟩ := hm.obj
      obtain ⟨ts, hl, hp⟩ := hm.lst
      refine ⟨_, rfl, p, R, dx, _, _, rfl, ho, T.cl, T.n2, rowF_kept .., _, _, rfl, rfl, _, rfl, ite2 (fun c1 => ?_) (fun c1 => ?_)⟩
      · have c1 : 0 < r.kept := by simp at c1; omega
        refine ⟨_, rfl, p, R, dx, _, _, rfl, ho, T.cl, T.n1, rowF_closed .., .inl ⟨rfl, _, SqL.of hl⟩, ?_⟩
        refine ⟨_, rfl, p, R, dx, _, _, rfl, ho, T.cl, T.n2, rowF_kept .., Nat.zero_le _, fun d hd => ⟨(by show 3 ≤ sizeLine; decide), fun t ht => ?_⟩⟩
        have s1 : Same H0 (upd (upd H0 d (.lst [])) t (.tup [.int 1, .int r.kept, .ref d])) := (same_upd hd).trans (same_upd ht)
        have dt : d ≠ t := ne_of_none upd_same ht
        refine ⟨l, _, _, rfl, rfl, s1 _ _ hl, (by rw [List.length_map, Paired.length hp]; exact hc), ?_⟩
        have e : oK r.kept = [.keep r.kept] := by unfold oK; rw [if_pos c1]
        refine kk _ (e ▸ hm.push hl s1 ((same_upd hd).free ht) (.inl hd) upd_same (by rw [upd_ne dt, upd_same]; rfl)) ((Frm.of_same s1).trans (Frm.upd (by simp)))
      · have c1 : ¬ 0 < r.kept := by simp at c1; omega
        have e : oK r.kept = [] := by unfold oK; rw [if_neg c1]
        exact kk H0 (by rw [e, List.append_nil]; exact hm) (Frm.refl _ _)
    · rintro D σ H0 ⟨c, rfl, hm, hc, kk⟩
      obtain ⟨dx, ho⟩ := hm.obj
      obtain ⟨ts, hl, hp⟩ := hm.lst
      refine ⟨_, rfl, p, R, dx, _, _, rfl, ho, T.cl, T.n3, rowF_put .., q, _, rfl, .inl (SqL.of hm.put), _, _, rfl, rfl, _, rfl, ite2 (fun c1 => ?_) (fun c1 => ?_)⟩
      · have c1 : 0 < r.put.length := by rw [bv_len] at c1; simp at c1; exact c1
        refine ⟨_, rfl, p, R, dx, _, _, rfl, ho, T.cl, T.n1, rowF_closed .., .inl ⟨rfl, _, SqL.of hl⟩, ?_⟩
        refine ⟨_, rfl, p, R, dx, _, _, rfl, ho, T.cl, T.n3, rowF_put .., q, _, rfl, .inl (SqL.of hm.put), _, rfl, p, R, dx, _, _, rfl, ho, T.cl, T.n3, rowF_put .., (by show 3 ≤ sizeLine; decide), fun t ht => ?_⟩
        have s1 := same_upd (o := .tup [.int 2, .int (bv r.put).length, .ref q]) ht
        refine ⟨l, _, _, rfl, rfl, s1 _ _ hl, (by rw [List.length_map, Paired.length hp]; exact hc), ?_⟩
        have e : oI r.put = [.ins r.put] := by unfold oI; rw [if_pos c1]
        refine kk _ (e ▸ hm.push hl s1 ht (.inr rfl) (by rw [upd_same, bv_len]; rfl) (s1 _ _ hm.put)) ((Frm.of_same s1).trans (Frm.upd (by simp)))
      · have c1 : ¬ 0 < r.put.length := by rw [bv_len] at c1; simp at c1; rw [c1]; simp
        have e : oI r.put = [] := by unfold oI; rw [if_neg c1]
        exact kk H0 (by rw [e, List.append_nil]; exact hm) (Frm.refl _ _)
    · rintro D σ H0 ⟨c, rfl, hm, hc, kk⟩
      obtain ⟨dx, ho⟩ := hm.obj
      obtain ⟨ts, hl, hp⟩ := hm.lst
      refine ⟨_, rfl, p, R, dx, _, _, rfl, ho, T.cl, T.n4, rowF_taken .., _, _, rfl, rfl, _, rfl, ite2 (fun c1 => ?_) (fun c1 => ?_)⟩
      · have c1 : 0 < r.taken := by simp at c1; omega
        refine ⟨_, rfl, p, R, dx, _, _, rfl, ho, T.cl, T.n1, rowF_closed .., .inl ⟨rfl, _, SqL.of hl⟩, ?_⟩
        refine ⟨_, rfl, p, R, dx, _, _, rfl, ho, T.cl, T.n4, rowF_taken .., Nat.zero_le _, fun d hd => ⟨(by show 3 ≤ sizeLine; decide), fun t ht => ?_⟩⟩
        have s1 : Same H0 (upd (upd H0 d (.lst [])) t (.tup [.int 3, .int r.taken, .ref d])) := (same_upd hd).trans (same_upd ht)
        have dt : d ≠ t := ne_of_none upd_same ht
        refine ⟨l, _, _, rfl, rfl, s1 _ _ hl, (by rw [List.length_map, Paired.length hp]; exact hc), ?_⟩
        have e : oD r.taken = [.del r.taken] := by unfold oD; rw [if_pos c1]
        refine kk _ (e ▸ hm.push hl s1 ((same_upd hd).free ht) (.inl hd) upd_same (by rw [upd_ne dt, upd_same]; rfl)) ((Frm.of_same s1).trans (Frm.upd (by simp)))
      · have c1 : ¬ 0 < r.taken := by simp at c1; omega
        have e : oD r.taken = [] := by unfold oD; rw [if_neg c1]
        exact kk H0 (by rw [e, List.append_nil]; exact hm) (Frm.refl _ _)
    · have l1 : ∀ n, (oK n).length ≤ 1 := fun n => by unfold oK; split <;> simp
      have l2 : ∀ n, (oI n).length ≤ 1 := fun n => by unfold oI; split <;> simp
      have a1 := l1 r.kept
      have a2 := l2 r.put
      refine ⟨r.closed, rfl, h1.mid, by omega, fun H1 m1 f1 => ⟨_, rfl, m1, by rw [List.length_append]; omega, fun H2 m2 f2 => ⟨_, rfl, m2, by rw [List.length_append, List.length_append]; omega, fun H3 m3 f3 => ?_⟩⟩⟩
      obtain ⟨dx, ho⟩ := m3.obj
      obtain ⟨ts, hl, hp⟩ := m3.lst
      have pl : p ≠ l := ne_of ho hl (by intro z; cases z)
      refine ⟨_, rfl, p, R, dx, _, rfl, ho, T.cl, T.n2, (by show 4 < 1000; decide), ?_⟩
      refine ⟨Nat.zero_le _, fun q' hq' => ?_⟩
      have pq : p ≠ q' := fun z => by rw [← z, upd_same] at hq'; cases hq'
      refine ⟨_, rfl, p, R, dx, _, rfl, (upd_ne pq).trans upd_same, T.cl, T.n3, ?_, ?_⟩
      · rw [show putF "kept" (V.int 0) (rowF l r.kept q r.taken) = rowF l 0 q r.taken from rowF_skept l r.kept q r.taken 0]; show 4 < 1000; decide
      have hq3 : H3 q' = none := by rw [upd_ne pq.symm] at hq'; exact hq'
      have e1 : putF "put" (V.ref q') (putF "kept" (V.int 0) (rowF l r.kept q r.taken)) = rowF l 0 q' r.taken := by
        rw [show putF "kept" (V.int 0) (rowF l r.kept q r.taken) = rowF l 0 q r.taken from rowF_skept l r.kept q r.taken 0, rowF_sput]
      refine ⟨_, rfl, p, R, dx, _, rfl, upd_same, T.cl, T.n4, (by rw [e1]; show 4 < 1000; decide), ?_⟩
      have e2 : putF "taken" (V.int 0) (putF "put" (V.ref q') (putF "kept" (V.int 0) (rowF l r.kept q r.taken))) = rowF l 0 q' 0 := by
        rw [e1]; exact rowF_staken l 0 q' r.taken 0
      rw [e2]
      have f123 : Frm [p, l] H H3 := ((f1.trans f2).trans f3).mono (by simp)
      have lq : l ≠ q' := ne_of_none hl hq3
      have fin : ∀ b o, H3 b = some o → b ≠ p → (upd (upd (upd (upd H3 p (.ins R dx (putF "kept" (V.int 0) (rowF l r.kept q r.taken)))) q' (.lst [])) p (.ins R dx (putF "put" (V.ref q') (putF "kept" (V.int 0) (rowF l r.kept q r.taken))))) p (.ins R dx (rowF l 0 q' 0))) b = some o := fun b o e n => by
        rw [upd_ne n, upd_ne n, upd_ne (ne_of_none e hq3), upd_ne n]; exact e
      have ff : Frm (p :: l :: rest) H3 (upd (upd (upd (upd H3 p (.ins R dx (putF "kept" (V.int 0) (rowF l r.kept q r.taken)))) q' (.lst [])) p (.ins R dx (putF "put" (V.ref q') (putF "kept" (V.int 0) (rowF l r.kept q r.taken))))) p (.ins R dx (rowF l 0 q' 0))) := fun b o e n => fin b o e fun z => n (by simp [z])
      have hH : H q' = none := by
        cases z : H q' with
        | none => rfl
        | some o =>
          by_cases hb : q' ∈ [p, l]
          · simp at hb
            rcases hb with e | e
            · exact absurd e.symm pq
            · exact absurd e.symm lq
          · rw [f123 _ _ z hb] at hq3; cases hq3
      refine k _ q' ⟨⟨dx, upd_same⟩, ⟨ts, fin _ _ hl pl.symm, ?_⟩, ?_, lq, ⟨fun m => ?_, m3.nr.2⟩, fun b hb => ?_⟩ (fun b o e n => ?_) hH
      · refine Paired.mapP ?_ fun _ _ y => StepAt.same (wo_mono ff (m' := p :: l :: q' :: rest) fun b hb => ?_) y
        · exact hp
        · simp at hb ⊢
          rcases hb with e | e | e | e
          · simp [e]
          · simp [e]
          · right; rw [e]; exact hq3
          · simp [e]
      · rw [upd_ne pq.symm, upd_ne pq.symm, upd_same]; rfl
      · obtain ⟨o, y⟩ := m3.trk q' m; rw [y] at hq3; cases hq3
      · obtain ⟨o, y⟩ := m3.trk b hb
        exact ⟨o, fin _ _ y fun z => m3.nr.2.2 (z ▸ hb)⟩
      · simp at n
        exact fin _ _ (f123 _ _ e (by simp [n])) n.1
end
end My
end
section
set_option Elab.async false
set_option linter.all false
set_option maxRecDepth 100000
set_option maxHeartbeats 2000000
namespace My
open PySem PySem.Spec PyProof.Rows L2
section
variable {P : Program} {w : World} {K : PySem.W.Frag} {mg : Str → Option Value} {base : Heap}
theorem RowAt.pl {R : Addr} {rest : List Addr} {H : Hp} {p l q : Addr} {r : RS} (h : RowAt R rest H p l q r) : p ≠ l ∧ p ≠ q := by
  obtain ⟨dx, ho⟩ := h.obj
  obtain ⟨ts, hl, _⟩ := h.lst
  exact ⟨ne_of ho hl (by intro z; cases z), ne_of ho h.put (by intro z; cases z)⟩
/-- the row's numbers are stored -/
theorem RowAt.nums {R : Addr} {rest : List Addr} {H : Hp} {p l q dx : Addr} {r : RS} (h : RowAt R rest H p l q r) (k t : Nat) : RowAt R rest (upd H p (.ins R dx (rowF l k q t))) p l q { r with kept := k, taken := t } := by
  obtain ⟨ts, hl, hp⟩ := h.lst
  have f : Frm (p :: l :: q :: rest) H (upd H p (.ins R dx (rowF l k q t))) := Frm.upd (by simp)
  refine ⟨⟨dx, upd_same⟩, ⟨ts, by rw [upd_ne h.pl.1.symm]; exact hl, Paired.mapP hp fun _ _ y => y.same (wo_same f)⟩, by rw [upd_ne h.pl.2.symm]; exact h.put, h.ne, h.nr, fun b hb => ?_⟩
  obtain ⟨o, y⟩ := h.trk b hb
  exact ⟨o, by rw [upd_ne (fun z => h.nr.2.2 (by rw [← z]; exact hb))]; exact y⟩
/-- another thing than the row's own is written -/
theorem RowAt.frame {R : Addr} {rest rest' n : List Addr} {H H' : Hp} {p l q : Addr} {r : RS} (h : RowAt R rest H p l q r) (f : Frm n H H') (hn : ∀ b ∈ n, b ∈ rest) (hr : ∀ b ∈ rest', b ∈ rest ∨ H b = none) (ht : ∀ b ∈ rest', ∃ o, H' b = some o) : RowAt R rest' H' p l q r := by
  obtain ⟨dx, ho⟩ := h.obj
  obtain ⟨ts, hl, hp⟩ := h.lst
  have nn : ∀ b, b ∉ rest → b ∉ n := fun b hb m => hb (hn b m)
  have h1 := f _ _ ho (nn _ h.nr.2.2)
  have h2 := f _ _ hl (nn _ h.nr.2.1)
  have h3 := f _ _ h.put (nn _ h.nr.1)
  have nr : ∀ b o, H b = some o → b ∉ rest → b ∉ rest' := fun b o e hb m => by
    rcases hr b m with z | z
    · exact hb z
    · rw [z] at e; cases e
  refine ⟨⟨dx, h1⟩, ⟨ts, h2, Paired.mapP hp fun _ _ y => y.same (wo_mono (f.mono fun b hb => by simp [hn b hb]) fun b hb => ?_)⟩, h3, h.ne, ⟨nr _ _ h.put h.nr.1, nr _ _ hl h.nr.2.1, nr _ _ ho h.nr.2.2⟩, ht⟩
  simp at hb ⊢
  rcases hb with e | e | e | e
  · simp [e]
  · simp [e]
  · simp [e]
  · rcases hr b e with z | z
    · simp [z]
    · right; exact z
/-! ### keep, put_in, take_out, finished -/
def spRowKeep (R : Addr) : Sp := fun vs H Q _ => ∃ (p l q : Addr) (r : RS) (rest : List Addr) (n : Nat), vs = [.ref p, .int n] ∧ RowAt R rest H p l q r ∧ r.closed.length + 3 ≤ sizeLine ∧ ∀ (H' : Hp) (q' : Addr), RowAt R rest H' p l q' (r.keep n) → Frm [p, l] H H' → (q' = q ∨ H q' = none) → Q .non H'
theorem sc_rk : FnScope ["self", "count"] ["self", "count"] (defScope s_Row_keep) := ⟨rfl, rfl, rfl, by decide +kernel, rfl, by decide +kernel, by decide +kernel⟩
theorem ok_rk {f R : Addr} {fd : FuncData} (F : Fun K "keep" "Row.keep" s_Row_keep f fd) (T : RowTxt K R) (gl : mg "len" = none) (cC : CalM P w K mg base R "close" 1 ["self"] (spRowClose R)) : FnOk P w K mg base CX0 2 f fd ["self", "count"] (spRowKeep R) := by
  refine F.ok sc_rk (fun vs H Q E h => ?_) (fun cdv A outer s H vs Q E hr h => ?_)
  · obtain ⟨p, l, q, r, rest, n, rfl, _⟩ := h
    rfl
  · obtain ⟨p, l, q, r, rest, n, rfl, h1, hz, k⟩ := h
    refine ⟨_, pss_cons (ps_if (PW.pt (pw_or (pt_cmpR op_gt (pe_fld (pv 0) rfl) pe_int (nomark _)) (pw_or1 (pt_cmpR op_gt (pe_callB call_len_seq rfl gl PySem.boot_len (pa_cons (pe_fld (pv 0) rfl) pa_nil)) pe_int (nomark _))))) (pss_one (ps_expr (pm_call0 cC T.cl hr (pv 0)))) pss_nil)
      (pss_one (ps_fldaug (pv 0) (pv 1) in_add)), ?_⟩
    obtain ⟨dx, ho⟩ := h1.obj
    have doClose : (0 < r.taken ∨ 0 < r.put.length) → spRowClose R [.ref p] H (fun _ H1 => sFldAug K (tVar 0) (tVar 1) rAdd "kept" { nx := fun _ H' => Q .non H', rt := Q } (start ["self", "count"] [.ref p, .int n]) H1) E0 := fun hc => by
      refine ⟨p, l, q, r, rest, rfl, h1, hz, fun H1 q' r1 f1 hq => ?_⟩
      obtain ⟨dx1, ho1⟩ := r1.obj
      refine ⟨_, rfl, p, R, dx1, _, _, rfl, ho1, T.cl, T.n2, rowF_kept .., _, rfl, _, _, rfl, rfl, dx1, _, ho1, (by show 4 < 1000; decide), ?_⟩
      have e : putF "kept" (V.int ((0 : Nat) + (n : Int))) (rowF l 0 q' 0) = rowF l n q' 0 := by
        have := rowF_skept l 0 q' 0 n
        simpa using this
      have e2 : r.keep n = { r.close with kept := n, taken := 0 } := by unfold RS.keep; rw [if_pos hc]; rfl
      refine k _ q' ?_ (f1.trans (Frm.upd (by simp))) (.inr hq)
      rw [show RS.kept r.close = 0 from rfl, show RS.taken r.close = 0 from rfl, e, e2]
      exact r1.nums n 0
    refine ⟨_, rfl, p, R, dx, _, _, rfl, ho, T.cl, T.n4, rowF_taken .., _, _, rfl, rfl, _, rfl, ite2 (fun c1 => ?_) (fun c1 => ?_)⟩
    · have c1 : 0 < r.taken := by simp at c1; omega
      exact iteT ⟨_, rfl, p, dx, _, rfl, ho, rowF_no _ _ _ _ (by decide +kernel) (by decide +kernel) (by decide +kernel) (by decide +kernel), doClose (.inl c1)⟩
    · have c1 : ¬ 0 < r.taken := by simp at c1; omega
      refine ⟨_, rfl, p, R, dx, _, _, rfl, ho, T.cl, T.n3, rowF_put .., q, _, rfl, .inl (SqL.of h1.put), _, _, rfl, rfl, _, rfl, ite2 (fun c2 => ?_) (fun c2 => ?_)⟩
      · have c2 : 0 < r.put.length := by rw [bv_len] at c2; simp at c2; exact c2
        exact ⟨_, rfl, p, dx, _, rfl, ho, rowF_no _ _ _ _ (by decide +kernel) (by decide +kernel) (by decide +kernel) (by decide +kernel), doClose (.inr c2)⟩
      · have c2 : ¬ 0 < r.put.length := by rw [bv_len] at c2; simp at c2; rw [c2]; simp
        refine ⟨_, rfl, p, R, dx, _, _, rfl, ho, T.cl, T.n2, rowF_kept .., _, rfl, _, _, rfl, rfl, dx, _, ho, (by show 4 < 1000; decide), ?_⟩
        have e : putF "kept" (V.int ((r.kept : Int) + (n : Int))) (rowF l r.kept q r.taken) = rowF l (r.kept + n) q r.taken := by
          have := rowF_skept l r.kept q r.taken (r.kept + n)
          simpa using this
        have e2 : r.keep n = { r with kept := r.kept + n, taken := r.taken } := by unfold RS.keep; rw [if_neg (by omega)]
        refine k _ q ?_ (Frm.upd (by simp)) (.inl rfl)
        rw [e, e2]
        exact h1.nums _ _
def spRowPut (R : Addr) : Sp := fun vs H Q _ => ∃ (p l q : Addr) (r : RS) (rest : List Addr) (d : Addr) (b : Bytes), vs = [.ref p, .ref d] ∧ RowAt R rest H p l q r ∧ H d = some (.lst (bv b)) ∧ r.put.length + b.length ≤ sizeLine ∧ ∀ (H' : Hp), RowAt R rest H' p l q (r.ins b) → Frm [q] H H' → Q .non H'
theorem sc_rp : FnScope ["self", "data"] ["self", "data"] (defScope s_Row_put_in) := ⟨rfl, rfl, rfl, by decide +kernel, rfl, by decide +kernel, by decide +kernel⟩
theorem ok_rp {f R : Addr} {fd : FuncData} (F : Fun K "put_in" "Row.put_in" s_Row_put_in f fd) (T : RowTxt K R) : FnOk P w K mg base CX0 1 f fd ["self", "data"] (spRowPut R) := by
  refine F.ok sc_rp (fun vs H Q E h => ?_) (fun cdv A outer s H vs Q E hr h => ?_)
  · obtain ⟨p, l, q, r, rest, d, b, rfl, _⟩ := h
    rfl
  · obtain ⟨p, l, q, r, rest, d, b, rfl, h1, hd, hz, k⟩ := h
    refine ⟨_, pss_one (ps_expr (pe_bm PySem.F.plainAttrs_list PySem.F.slot_list_extend PySem.F.type_list_extend mt_extend (pe_fld (pv 0) rfl) (pa_cons (pv 1) pa_nil))), ?_⟩
    obtain ⟨dx, ho⟩ := h1.obj
    obtain ⟨ts, hl, hp⟩ := h1.lst
    refine ⟨_, rfl, p, R, dx, _, _, rfl, ho, T.cl, T.n3, rowF_put .., .inl ⟨rfl, _, SqL.of h1.put⟩, _, rfl, q, d, _, _, rfl, rfl, h1.put, hd, by rw [bv_len, bv_len]; exact hz, ?_⟩
    have f1 : Frm (p :: l :: q :: rest) H (upd H q (.lst (bv r.put ++ bv b))) := Frm.upd (by simp)
    refine k _ ⟨⟨dx, by rw [upd_ne h1.pl.2]; exact ho⟩, ⟨ts, by rw [upd_ne h1.ne]; exact hl, Paired.mapP hp fun _ _ y => y.same (wo_same f1)⟩, by rw [upd_same, ← bv_append]; rfl, h1.ne, h1.nr, fun c hc => ?_⟩ (Frm.upd (by simp))
    obtain ⟨o, y⟩ := h1.trk c hc
    exact ⟨o, by rw [upd_ne (fun z => h1.nr.1 (by rw [← z]; exact hc))]; exact y⟩
def spRowDel (R : Addr) : Sp := fun vs H Q _ => ∃ (p l q : Addr) (r : RS) (rest : List Addr) (n : Nat), vs = [.ref p, .int n] ∧ RowAt R rest H p l q r ∧ ∀ (H' : Hp), RowAt R rest H' p l q (r.del n) → Frm [p] H H' → Q .non H'
theorem sc_rd : FnScope ["self", "count"] ["self", "count"] (defScope s_Row_take_out) := ⟨rfl, rfl, rfl, by decide +kernel, rfl, by decide +kernel, by decide +kernel⟩
theorem ok_rd {f R : Addr} {fd : FuncData} (F : Fun K "take_out" "Row.take_out" s_Row_take_out f fd) (T : RowTxt K R) : FnOk P w K mg base CX0 1 f fd ["self", "count"] (spRowDel R) := by
  refine F.ok sc_rd (fun vs H Q E h => ?_) (fun cdv A outer s H vs Q E hr h => ?_)
  · obtain ⟨p, l, q, r, rest, n, rfl, _⟩ := h
    rfl
  · obtain ⟨p, l, q, r, rest, n, rfl, h1, k⟩ := h
    refine ⟨_, pss_one (ps_fldaug (pv 0) (pv 1) in_add), ?_⟩
    obtain ⟨dx, ho⟩ := h1.obj
    refine ⟨_, rfl, p, R, dx, _, _, rfl, ho, T.cl, T.n4, rowF_taken .., _, rfl, _, _, rfl, rfl, dx, _, ho, (by show 4 < 1000; decide), ?_⟩
    have e : putF "taken" (V.int ((r.taken : Int) + (n : Int))) (rowF l r.kept q r.taken) = rowF l r.kept q (r.taken + n) := by
      have := rowF_staken l r.kept q r.taken (r.taken + n)
      simpa using this
    refine k _ ?_ (Frm.upd (by simp))
    rw [e]
    exact h1.nums _ _
def spRowFin (R : Addr) : Sp := fun vs H Q _ => ∃ (p l q : Addr) (r : RS) (rest : List Addr), vs = [.ref p] ∧ RowAt R rest H p l q r ∧ r.closed.length + 3 ≤ sizeLine ∧ ∀ (H' : Hp) (q' : Addr), RowAt R rest H' p l q' r.close → Frm [p, l] H H' → H q' = none → EditAt H' l r.flat → Q (.ref l) H'
theorem sc_rf : FnScope ["self"] ["self"] (defScope s_Row_finished) := ⟨rfl, rfl, rfl, by decide +kernel, rfl, by decide +kernel, by decide +kernel⟩
theorem ok_rf {f R : Addr} {fd : FuncData} (F : Fun K "finished" "Row.finished" s_Row_finished f fd) (T : RowTxt K R) (cC : CalM P w K mg base R "close" 1 ["self"] (spRowClose R)) : FnOk P w K mg base CX0 2 f fd ["self"] (spRowFin R) := by
  refine F.ok sc_rf (fun vs H Q E h => ?_) (fun cdv A outer s H vs Q E hr h => ?_)
  · obtain ⟨p, l, q, r, rest, rfl, _⟩ := h
    rfl
  · obtain ⟨p, l, q, r, rest, rfl, h1, hz, k⟩ := h
    refine ⟨_, pss_cons (ps_expr (pm_call0 cC T.cl hr (pv 0))) (pss_one (ps_ret (pe_fld (pv 0) rfl))), ?_⟩
    obtain ⟨dx, ho⟩ := h1.obj
    refine ⟨_, rfl, p, dx, _, rfl, ho, rowF_no _ _ _ _ (by decide +kernel) (by decide +kernel) (by decide +kernel) (by decide +kernel), p, l, q, r, rest, rfl, h1, hz, fun H1 q' r1 f1 hq => ?_⟩
    obtain ⟨dx1, ho1⟩ := r1.obj
    obtain ⟨ts, hl, hp⟩ := r1.lst
    refine ⟨_, rfl, p, R, dx1, _, _, rfl, ho1, T.cl, T.n1, rowF_closed .., ?_⟩
    exact k H1 q' r1 f1 hq ⟨ts, hl, Paired.mapP hp fun _ _ y => y.same (wo_sub _ _)⟩
/-! ### the cursor -/
def curF (a : Addr) (i k n : Nat) : List (Str × V) := [("edit", .ref a), ("place", .int i), ("kind", .int k), ("left", .int n)]
section
variable (a : Addr) (i k n : Nat)
theorem curF_edit : (curF a i k n).lookup ("edit" : Str) = some (.ref a) := lk_eq
theorem curF_place : (curF a i k n).lookup ("place" : Str) = some (.int i) := (lk_ne (by decide +kernel)).trans lk_eq
theorem curF_kind : (curF a i k n).lookup ("kind" : Str) = some (.int k) := (lk_ne (by decide +kernel)).trans ((lk_ne (by decide +kernel)).trans lk_eq)
theorem curF_left : (curF a i k n).lookup ("left" : Str) = some (.int n) := (lk_ne (by decide +kernel)).trans ((lk_ne (by decide +kernel)).trans ((lk_ne (by decide +kernel)).trans lk_eq))
theorem curF_no {m : Str} (h1 : (m == "edit") = false) (h2 : (m == "place") = false) (h3 : (m == "kind") = false) (h4 : (m == "left") = false) : (curF a i k n).lookup m = none := (lk_ne h1).trans ((lk_ne h2).trans ((lk_ne h3).trans ((lk_ne h4).trans rfl)))
theorem curF_splace (y : Nat) : putF "place" (.int y) (curF a i k n) = curF a y k n := by unfold curF; rw [pf_ne (by decide +kernel), pf_eq]
theorem curF_skind (y : Nat) : putF "kind" (.int y) (curF a i k n) = curF a i y n := by unfold curF; rw [pf_ne (by decide +kernel), pf_ne (by decide +kernel), pf_eq]
theorem curF_sleft (y : Nat) : putF "left" (.int y) (curF a i k n) = curF a i k y := by unfold curF; rw [pf_ne (by decide +kernel), pf_ne (by decide +kernel), pf_ne (by decide +kernel), pf_eq]
end
structure CurTxt (K : PySem.W.Frag) (C : Addr) : Prop where
  cl : Cls K C
  n1 : NoAttr K C "edit"
  n2 : NoAttr K C "place"
  n3 : NoAttr K C "kind"
  n4 : NoAttr K C "left"
def CurOk (e : Edit) (i k n : Nat) (rest : Edit) : Prop := (∃ s, e[i]? = some s ∧ k = kd s ∧ 0 < n ∧ n ≤ s.size ∧ rest = s.rest (s.size - n) ++ e.drop (i + 1)) ∨ (e.length ≤ i ∧ k = 0 ∧ rest = [])
structure CurAt (C : Addr) (H : Hp) (p a : Addr) (e rest : Edit) : Prop where
  ex : ∃ dx i k n, H p = some (.ins C dx (curF a i k n)) ∧ CurOk e i k n rest
theorem CurAt.frame {C : Addr} {H H' : Hp} {p a : Addr} {e rest : Edit} {n : List Addr} (h : CurAt C H p a e rest) (f : Frm n H H') (hn : p ∉ n) : CurAt C H' p a e rest := by
  obtain ⟨dx, i, k, m, h1, h2⟩ := h.ex
  exact ⟨dx, i, k, m, f _ _ h1 hn, h2⟩
theorem rest_keep (m k : Nat) : (Sv17.Step.keep m).rest k = if m ≤ k then [] else [.keep (m - k)] := rfl
theorem rest_del (m k : Nat) : (Sv17.Step.del m).rest k = if m ≤ k then [] else [.del (m - k)] := rfl
theorem rest_ins (b : Bytes) (k : Nat) : (Sv17.Step.ins b).rest k = if b.length ≤ k then [] else [.ins (b.drop k)] := rfl
theorem rest_one {s : Step} {n : Nat} (h0 : 0 < n) (h1 : n ≤ s.size) : ∃ x, s.rest (s.size - n) = [x] ∧ kd x = kd s ∧ x.size = n ∧ dat x = (dat s).drop (s.size - n) ∧ ∀ c, x.rest c = s.rest (s.size - n + c) := by
  cases s with
  | keep m =>
    have h1 : n ≤ m := h1
    refine ⟨.keep (m - (m - n)), ?_, rfl, by show m - (m - n) = n; omega, by simp [dat], fun c => ?_⟩
    · show (Sv17.Step.keep m).rest (m - n) = _
      rw [rest_keep, if_neg (by omega)]
    · show _ = (Sv17.Step.keep m).rest (m - n + c)
      rw [rest_keep, rest_keep]
      by_cases h : m ≤ m - n + c
      · rw [if_pos h, if_pos (by omega)]
      · rw [if_neg h, if_neg (by omega), show m - (m - n) - c = m - (m - n + c) by omega]
  | ins b =>
    have h1 : n ≤ b.length := h1
    refine ⟨.ins (b.drop (b.length - n)), ?_, rfl, by show (b.drop (b.length - n)).length = n; rw [List.length_drop]; omega, rfl, fun c => ?_⟩
    · show (Sv17.Step.ins b).rest (b.length - n) = _
      rw [rest_ins, if_neg (by omega)]
    · show _ = (Sv17.Step.ins b).rest (b.length - n + c)
      rw [rest_ins, rest_ins, List.length_drop]
      by_cases h : b.length ≤ b.length - n + c
      · rw [if_pos h, if_pos (by omega)]
      · rw [if_neg h, if_neg (by omega), List.drop_drop]
  | del m =>
    have h1 : n ≤ m := h1
    refine ⟨.del (m - (m - n)), ?_, rfl, by show m - (m - n) = n; omega, by simp [dat], fun c => ?_⟩
    · show (Sv17.Step.del m).rest (m - n) = _
      rw [rest_del, if_neg (by omega)]
    · show _ = (Sv17.Step.del m).rest (m - n + c)
      rw [rest_del, rest_del]
      by_cases h : m ≤ m - n + c
      · rw [if_pos h, if_pos (by omega)]
      · rw [if_neg h, if_neg (by omega), show m - (m - n) - c = m - (m - n + c) by omega]
theorem CurAt.head {C : Addr} {H : Hp} {p a : Addr} {e r : Edit} {x : Step} (h : CurAt C H p a e (x :: r)) : ∃ dx i s, H p = some (.ins C dx (curF a i (kd x) x.size)) ∧ e[i]? = some s ∧ kd x = kd s ∧ 0 < x.size ∧ x.size ≤ s.size ∧ r = e.drop (i + 1) ∧ dat x = (dat s).drop (s.size - x.size) ∧ ∀ c, x.rest c = s.rest (s.size - x.size + c) := by
  obtain ⟨dx, i, k, n, h1, ⟨s, hs, hk, h0, hn, hr⟩ | ⟨_, _, hr⟩⟩ := h.ex
  · obtain ⟨y, e1, e2, e3, e4, e5⟩ := rest_one h0 hn
    rw [e1] at hr
    injection hr with hx hr
    subst hx hr
    subst e3
    rw [hk, ← e2] at h1
    exact ⟨dx, i, s, h1, hs, e2, h0, hn, rfl, e4, e5⟩
  · cases hr
theorem CurAt.nil {C : Addr} {H : Hp} {p a : Addr} {e : Edit} (h : CurAt C H p a e []) : ∃ dx i n, H p = some (.ins C dx (curF a i 0 n)) := by
  obtain ⟨dx, i, k, n, h1, ⟨s, hs, hk, h0, hn, hr⟩ | ⟨_, hk, _⟩⟩ := h.ex
  · obtain ⟨y, e1, _⟩ := rest_one h0 hn
    rw [e1] at hr
    cases hr
  · subst hk
    exact ⟨dx, i, n, h1⟩
def spEnter (C : Addr) : Sp := fun vs H Q _ => ∃ (p a dx : Addr) (e : Edit) (i k n : Nat), vs = [.ref p] ∧ H p = some (.ins C dx (curF a i k n)) ∧ EditAt H a e ∧ PosE e ∧ i ≤ e.length ∧ ∀ H' : Hp, CurAt C H' p a e (e.drop i) → Frm [p] H H' → Q .non H'
theorem sc_ce : FnScope ["self"] ["self"] (defScope s_Cursor_enter_step) := ⟨rfl, rfl, rfl, by decide +kernel, rfl, by decide +kernel, by decide +kernel⟩
theorem rest_zero {s : Step} (h : 0 < s.size) : s.rest 0 = [s] := by
  unfold Sv17.Step.rest
  rw [if_neg (by omega)]
  cases s <;> simp
theorem ok_ce {f C : Addr} {fd : FuncData} (F : Fun K "enter_step" "Cursor.enter_step" s_Cursor_enter_step f fd) (T : CurTxt K C) (g0 : Glb mg "NO_STEP" (.int 0)) (gl : mg "len" = none) : FnOk P w K mg base CX0 1 f fd ["self"] (spEnter C) := by
  refine F.ok sc_ce (fun vs H Q E h => ?_) (fun cdv A outer s H vs Q E hr h => ?_)
  · obtain ⟨p, a, dx, e, i, k, n, rfl, _⟩ := h
    rfl
  · obtain ⟨p, a, dx, e, i, k, n, rfl, ho, he, hpos, hi, q⟩ := h
    obtain ⟨ts, h1, h2⟩ := he.ex
    have hl : ts.length = e.length := Paired.length h2
    have pa : a ≠ p := ne_of h1 ho (by intro z; cases z)
    refine ⟨_, pss_one (ps_if (pt_cmpR op_lt (pe_fld (pv 0) rfl) (pe_callB call_len_seq rfl gl PySem.boot_len (pa_cons (pe_fld (pv 0) rfl) pa_nil)) (nomark _))
      (pss_cons (ps_fld (pv 0) (pe_ix ix_tup (pe_ix ix_list (pe_fld (pv 0) rfl) (pe_fld (pv 0) rfl) (fun _ _ => rfl)) pe_int (fun _ _ => rfl)) rfl)
      (pss_one (ps_fld (pv 0) (pe_ix ix_tup (pe_ix ix_list (pe_fld (pv 0) rfl) (pe_fld (pv 0) rfl) (fun _ _ => rfl)) pe_int (fun _ _ => rfl)) rfl)))
      (pss_one (ps_fld (pv 0) (pg_glob g0) rfl))), ?_⟩
    refine ⟨_, rfl, p, C, dx, _, _, rfl, ho, T.cl, T.n2, curF_place .., _, rfl, p, C, dx, _, _, rfl, ho, T.cl, T.n1, curF_edit .., a, _, rfl, .inl (SqL.of h1), _, _, rfl, rfl, _, rfl, ite2 (fun c => ?_) (fun c => ?_)⟩
    · have c : i < e.length := by rw [List.length_map, hl] at c; simp at c; omega
      obtain ⟨y, hy⟩ : ∃ y, e[i]? = some y := ⟨_, List.getElem?_eq_getElem c⟩
      obtain ⟨t, ht, d, ht1, ht2⟩ := Paired.get h2 hy
      have hti : (ts.map V.ref)[i]? = some (V.ref t) := by rw [List.getElem?_map, ht]; rfl
      have tp : t ≠ p := ne_of ht1 ho (by intro z; cases z)
      refine ⟨_, rfl, p, C, dx, _, _, rfl, ho, T.cl, T.n1, curF_edit .., _, rfl, p, C, dx, _, _, rfl, ho, T.cl, T.n2, curF_place .., a, _, _, _, rfl, rfl, SqL.of h1, atI_nat hti, t, _, _, _, rfl, rfl, SqT.of ht1, atI_nat (j := 0) rfl, ?_⟩
      refine ⟨_, rfl, p, C, dx, _, rfl, ho, T.cl, T.n3, (by show 4 < 1000; decide), ?_⟩
      rw [curF_skind]
      refine ⟨_, rfl, p, C, dx, _, _, rfl, upd_same, T.cl, T.n1, curF_edit .., _, rfl, p, C, dx, _, _, rfl, upd_same, T.cl, T.n2, curF_place .., a, _, _, _, rfl, rfl, SqL.of ((upd_ne pa).trans h1), atI_nat hti, t, _, _, _, rfl, rfl, SqT.of ((upd_ne tp).trans ht1), atI_nat (j := 1) rfl, ?_⟩
      refine ⟨_, rfl, p, C, dx, _, rfl, upd_same, T.cl, T.n4, (by show 4 < 1000; decide), ?_⟩
      rw [curF_sleft]
      have hp : 0 < y.size := hpos y (List.mem_of_getElem? hy)
      refine q _ ⟨dx, i, kd y, y.size, upd_same, .inl ⟨y, hy, rfl, hp, Nat.le_refl _, ?_⟩⟩ ((Frm.upd (by simp)).trans (Frm.upd (by simp)))
      rw [Nat.sub_self, rest_zero hp, List.drop_eq_getElem_cons c]
      have : e[i] = y := Option.some.inj ((List.getElem?_eq_getElem c).symm.trans hy)
      rw [this]
      rfl
    · have c : ¬ i < e.length := by rw [List.length_map, hl] at c; simp at c; omega
      refine ⟨_, rfl, p, C, dx, _, rfl, ho, T.cl, T.n3, (by show 4 < 1000; decide), ?_⟩
      have e1 : putF "kind" (V.int 0) (curF a i k n) = curF a i 0 n := curF_skind a i k n 0
      rw [e1]
      exact q _ ⟨dx, i, 0, n, upd_same, .inr ⟨by omega, rfl, List.drop_eq_nil_of_le (by omega)⟩⟩ (Frm.upd (by simp))
def spCurInit (C : Addr) : Sp := fun vs H Q _ => ∃ (p a dx : Addr) (e : Edit), vs = [.ref p, .ref a] ∧ H p = some (.ins C dx []) ∧ EditAt H a e ∧ PosE e ∧ ∀ H' : Hp, CurAt C H' p a e e → Frm [p] H H' → Q .non H'
theorem sc_ci : FnScope ["self", "edit"] ["self", "edit"] (defScope s_Cursor_init) := ⟨rfl, rfl, rfl, by decide +kernel, rfl, by decide +kernel, by decide +kernel⟩
theorem EditAt.frame {H H' : Hp} {a : Addr} {e : Edit} {p : Addr} {C dx : Addr} {fs : List (Str × V)} (h : EditAt H a e) (f : Frm [p] H H') (hp : H p = some (.ins C dx fs)) : EditAt H' a e := by
  obtain ⟨ts, h1, h2⟩ := h.ex
  have ne : ∀ b xs, H b = some (.lst xs) → b ∉ [p] := fun b xs e m => by
    simp at m; subst m; rw [e] at hp; cases hp
  have ne2 : ∀ b xs, H b = some (.tup xs) → b ∉ [p] := fun b xs e m => by
    simp at m; subst m; rw [e] at hp; cases hp
  exact ⟨ts, f _ _ h1 (ne _ _ h1), Paired.mapP h2 fun t s ⟨d, q1, q2⟩ => ⟨d, f _ _ q1 (ne2 _ _ q1), f _ _ q2 (ne _ _ q2)⟩⟩
theorem ok_ci {f C : Addr} {fd : FuncData} (F : Fun K "__init__" "Cursor.__init__" s_Cursor_init f fd) (T : CurTxt K C) (g0 : Glb mg "NO_STEP" (.int 0)) (cE : CalM P w K mg base C "enter_step" 1 ["self"] (spEnter C)) : FnOk P w K mg base CX0 2 f fd ["self", "edit"] (spCurInit C) := by
  refine F.ok sc_ci (fun vs H Q E h => ?_) (fun cdv A outer s H vs Q E hr h => ?_)
  · obtain ⟨p, a, dx, e, rfl, _⟩ := h
    rfl
  · obtain ⟨p, a, dx, e, rfl, ho, he, hpos, q⟩ := h
    refine ⟨_, pss_cons (ps_fld (pv 0) (pv 1) rfl) (pss_cons (ps_fld (pv 0) pe_int rfl) (pss_cons (ps_fld (pv 0) (pg_glob g0) rfl) (pss_cons (ps_fld (pv 0) pe_int rfl) (pss_one (ps_expr (pm_call0 cE T.cl hr (pv 0))))))), ?_⟩
    refine ⟨_, rfl, _, rfl, p, C, dx, _, rfl, ho, T.cl, T.n1, (by show 0 < 1000; decide), ?_⟩
    refine ⟨_, rfl, p, C, dx, _, rfl, upd_same, T.cl, T.n2, (by show 1 < 1000; decide), ?_⟩
    refine ⟨_, rfl, p, C, dx, _, rfl, upd_same, T.cl, T.n3, (by show 2 < 1000; decide), ?_⟩
    refine ⟨_, rfl, p, C, dx, _, rfl, upd_same, T.cl, T.n4, (by show 3 < 1000; decide), ?_⟩
    have e1 : putF "left" (V.int 0) (putF "kind" (V.int 0) (putF "place" (V.int 0) (putF "edit" (V.ref a) []))) = curF a 0 0 0 := by
      rfl
    rw [e1]
    have f0 : Frm [p] H (upd (upd (upd (upd H p (.ins C dx (putF "edit" (V.ref a) []))) p (.ins C dx (putF "place" (V.int 0) (putF "edit" (V.ref a) [])))) p (.ins C dx (putF "kind" (V.int 0) (putF "place" (V.int 0) (putF "edit" (V.ref a) []))))) p (.ins C dx (curF a 0 0 0))) :=
      (((Frm.upd (by simp)).trans (Frm.upd (by simp))).trans (Frm.upd (by simp))).trans (Frm.upd (by simp))
    refine ⟨_, rfl, p, dx, _, rfl, upd_same, curF_no _ _ _ _ (by decide +kernel) (by decide +kernel) (by decide +kernel) (by decide +kernel), p, a, dx, e, 0, 0, 0, rfl, upd_same, he.frame f0 ho, hpos, Nat.zero_le _, fun H' c1 f1 => ?_⟩
    exact q H' c1 (f0.trans f1)
def spGo (C : Addr) : Sp := fun vs H Q _ => ∃ (p a : Addr) (e r : Edit) (x : Step) (c : Nat), vs = [.ref p, .int c] ∧ CurAt C H p a e (x :: r) ∧ EditAt H a e ∧ PosE e ∧ 0 < c ∧ c ≤ x.size ∧ ∀ (H' : Hp) (d : Addr), CurAt C H' p a e (x.rest c ++ r) → H' d = some (.lst (bv ((dat x).take c))) → Frm [p] H H' → H d = none → Q (.ref d) H'
theorem sc_cg : FnScope ["self", "count", "step", "start"] ["self", "count"] (defScope s_Cursor_go_on) := ⟨rfl, rfl, rfl, by decide +kernel, rfl, by decide +kernel, by decide +kernel⟩
theorem ok_cg {f C : Addr} {fd : FuncData} (F : Fun K "go_on" "Cursor.go_on" s_Cursor_go_on f fd) (T : CurTxt K C) (cE : CalM P w K mg base C "enter_step" 1 ["self"] (spEnter C)) : FnOk P w K mg base CX0 2 f fd ["self", "count"] (spGo C) := by
  refine F.ok sc_cg (fun vs H Q E h => ?_) (fun cdv A outer s H vs Q E hr h => ?_)
  · obtain ⟨p, a, e, r, x, c, rfl, _⟩ := h
    rfl
  · obtain ⟨p, a, e, r, x, c, rfl, hc, he, hpos, c0, cx, q⟩ := h
    obtain ⟨dx, i, y, ho, hy, hk, hx0, hxy, hr', hdat, hrest⟩ := hc.head
    obtain ⟨ts, h1, h2⟩ := he.ex
    have hl : ts.length = e.length := Paired.length h2
    obtain ⟨t, ht, d0, ht1, ht2⟩ := Paired.get h2 hy
    have hti : (ts.map V.ref)[i]? = some (V.ref t) := by rw [List.getElem?_map, ht]; rfl
    have tp : t ≠ p := ne_of ht1 ho (by intro z; cases z)
    have dp : d0 ≠ p := ne_of ht2 ho (by intro z; cases z)
    have hi : i < e.length := (List.getElem?_eq_some_iff.mp hy).1
    refine ⟨_, pss_cons (ps_set (i := 2) sc_cg.nd rfl (Or.inl rfl) (pe_ix ix_list (pe_fld (pv 0) rfl) (pe_fld (pv 0) rfl) (fun _ _ => rfl)))
      (pss_cons (ps_set (i := 3) sc_cg.nd rfl (Or.inl rfl) (pe_op op_sub (pe_ix ix_tup (pv 2) pe_int (fun _ _ => rfl)) (pe_fld (pv 0) rfl)))
      (pss_cons (ps_fldaug (pv 0) (pv 1) in_sub)
      (pss_cons (ps_if (pt_cmpR op_eq (pe_fld (pv 0) rfl) pe_int (nomark _)) (pss_cons (ps_fldaug (pv 0) pe_int in_add) (pss_one (ps_expr (pm_call0 cE T.cl hr (pv 0))))) pss_nil)
      (pss_one (ps_ret (pe_slice sl_list (pe_ix ix_tup (pv 2) pe_int (fun _ _ => rfl)) (po_some (pv 3)) (po_some (pe_op op_add (pv 3) (pv 1))))))))), ?_⟩
    refine ⟨_, rfl, p, C, dx, _, _, rfl, ho, T.cl, T.n1, curF_edit .., _, rfl, p, C, dx, _, _, rfl, ho, T.cl, T.n2, curF_place .., a, _, _, _, rfl, rfl, SqL.of h1, atI_nat hti, ?_⟩
    refine ⟨_, rfl, t, _, _, _, rfl, rfl, SqT.of ht1, atI_nat (j := 1) rfl, _, rfl, p, C, dx, _, _, rfl, ho, T.cl, T.n4, curF_left .., _, _, rfl, rfl, ?_⟩
    refine ⟨_, rfl, p, C, dx, _, _, rfl, ho, T.cl, T.n4, curF_left .., _, rfl, _, _, rfl, rfl, dx, _, ho, (by show 4 < 1000; decide), ?_⟩
    have e1 : putF "left" (V.int ((x.size : Int) - (c : Int))) (curF a i (kd x) x.size) = curF a i (kd x) (x.size - c) := by
      have := curF_sleft a i (kd x) x.size (x.size - c)
      rw [Int.ofNat_sub cx] at this
      exact this
    rw [e1]
    have est : ((y.size : Int) - (x.size : Int)) = ((y.size - x.size : Nat) : Int) := (Int.ofNat_sub hxy).symm
    -- the slice at the end
    have slice : ∀ H2 : Hp, CurAt C H2 p a e (x.rest c ++ r) → Frm [p] H H2 → tRet (tSl (rSlL K) (tOp (rIxT K) (tVar 2) (tC (V.int 2))) (tPart (tVar 3)) (tPart (tOp (rI0 fun i j => .int (i + j)) (tVar 3) (tVar 1)))) { nx := fun _ H' => Q .non H', rt := Q } [some (V.ref p), some (V.int c), some (V.ref t), some (V.int ((y.size : Int) - (x.size : Int)))] H2 := fun H2 c2 f2 => by
      have hT := f2 _ _ ht1 (by simpa using tp)
      have hD := f2 _ _ ht2 (by simpa using dp)
      refine ⟨_, rfl, t, _, _, _, rfl, rfl, SqT.of hT, atI_nat (j := 2) rfl, _, rfl, _, rfl, _, rfl, _, rfl, _, _, rfl, rfl, _, rfl, d0, _, rfl, SqL.of hD, fun d hd => ?_⟩
      have ec : cutV (bv (dat y)) (some ((y.size : Int) - (x.size : Int))) (some ((y.size : Int) - (x.size : Int) + (c : Int))) = bv ((dat x).take c) := by
        rw [est]
        have := cut_bv (dat y) (y.size - x.size) (y.size - x.size + c)
        rw [show y.size - x.size + c - (y.size - x.size) = c by omega, ← hdat] at this
        rw [← this]
        simp
      rw [ec]
      have hd0 : H d = none := by
        cases z : H d with
        | none => rfl
        | some o =>
          by_cases hb : d = p
          · obtain ⟨_, _, _, _, z2, _⟩ := c2.ex; rw [hb, z2] at hd; cases hd
          · rw [f2 _ _ z (by simpa using hb)] at hd; cases hd
      have pd : p ∉ [d] := fun m => by
        simp at m
        rw [← m, ho] at hd0; cases hd0
      exact q _ d (c2.frame (n := [d]) (Frm.upd (by simp)) pd) upd_same (f2.trans (Frm.of_same (same_upd hd))) hd0
    refine ⟨_, rfl, p, C, dx, _, _, rfl, upd_same, T.cl, T.n4, curF_left .., rfl, _, rfl, ite2 (fun c1 => ?_) (fun c1 => ?_)⟩
    · have c1 : x.size = c := by simp at c1; omega
      refine ⟨_, rfl, p, C, dx, _, _, rfl, upd_same, T.cl, T.n2, curF_place .., _, _, rfl, rfl, dx, _, upd_same, (by show 4 < 1000; decide), ?_⟩
      have e2 : putF "place" (V.int ((i : Int) + 1)) (curF a i (kd x) (x.size - c)) = curF a (i + 1) (kd x) (x.size - c) := by
        have := curF_splace a i (kd x) (x.size - c) (i + 1)
        simpa using this
      rw [e2]
      have f0 : Frm [p] H (upd (upd H p (.ins C dx (curF a i (kd x) (x.size - c)))) p (.ins C dx (curF a (i + 1) (kd x) (x.size - c)))) := (Frm.upd (by simp)).trans (Frm.upd (by simp))
      refine ⟨_, rfl, p, dx, _, rfl, upd_same, curF_no _ _ _ _ (by decide +kernel) (by decide +kernel) (by decide +kernel) (by decide +kernel), p, a, dx, e, i + 1, kd x, x.size - c, rfl, upd_same, he.frame f0 ho, hpos, by omega, fun H' c2 f1 => ?_⟩
      refine slice H' ?_ (f0.trans f1)
      rw [rest_all (by omega), hr']
      exact c2
    · have c1 : ¬ x.size = c := by intro z; apply c1; simp; omega
      refine slice _ ⟨dx, i, kd x, x.size - c, upd_same, .inl ⟨y, hy, hk, by omega, by omega, ?_⟩⟩ (Frm.upd (by simp))
      rw [hrest, hr', show y.size - x.size + c = y.size - (x.size - c) by omega]
end
end My
end
section
set_option Elab.async false
set_option linter.all false
set_option maxRecDepth 100000
set_option maxHeartbeats 2000000
namespace My
open PySem PySem.Spec PyProof.Rows L2
theorem apply_append : ∀ (a b : Edit) (t : Bytes), Sv17.apply (a ++ b) t = Sv17.apply a t ++ Sv17.apply b (t.drop (Sv17.before a))
  | [], b, t => by simp [Sv17.apply, before_nil]
  | .keep n :: a, b, t => by
    rw [List.cons_append, before_keep]
    simp only [Sv17.apply]
    rw [apply_append a b, List.drop_drop, List.append_assoc]
  | .ins n :: a, b, t => by
    rw [List.cons_append, before_ins]
    simp only [Sv17.apply]
    rw [apply_append a b, List.append_assoc]
  | .del n :: a, b, t => by
    rw [List.cons_append, before_del]
    simp only [Sv17.apply]
    rw [apply_append a b, List.drop_drop]
theorem undone_append : ∀ (a b : Edit) (t : Bytes), Sv17.undone (a ++ b) t = Sv17.undone a t ++ Sv17.undone b (t.drop (Sv17.before a))
  | [], b, t => by simp [Sv17.undone, before_nil]
  | .keep n :: a, b, t => by
    rw [List.cons_append, before_keep]
    simp only [Sv17.undone]
    rw [undone_append a b, List.drop_drop]
    rfl
  | .ins n :: a, b, t => by
    rw [List.cons_append, before_ins]
    simp only [Sv17.undone]
    rw [undone_append a b]
    rfl
  | .del n :: a, b, t => by
    rw [List.cons_append, before_del]
    simp only [Sv17.undone]
    rw [undone_append a b, List.drop_drop]
    rfl
theorem run_tot : ∀ (l : Edit) (r : RS), (r.run l).tot = r.tot + esz l
  | [], r => by simp [run_nil, esz_nil]
  | s :: l, r => by rw [run_cons, run_tot l, RS.tot_op, esz_cons]; omega
theorem RS.Ok.len {r : RS} (h : r.Ok) : r.closed.length ≤ r.tot := by
  have := h.pos.len
  unfold RS.tot
  omega
theorem _root_.L2.Same.frm {H H1 H2 : Hp} {n : List Addr} (a : Same H H1) (b : Frm n H1 H2) (h : ∀ c ∈ n, H c = none) : Same H H2 := fun c o e => b c o (a c o e) fun m => by rw [h c m] at e; cases e
/-- the steps of an edit, one by one -/
theorem ref_at {ts : List Addr} {i : Nat} {x : V} (hi : (ts.map V.ref)[i]? = some x) : ∃ t, ts[i]? = some t ∧ V.ref t = x := by
  rw [List.getElem?_map] at hi
  cases q : ts[i]? with
  | none => rw [q] at hi; cases hi
  | some t => rw [q] at hi; exact ⟨t, rfl, Option.some.inj hi⟩
section
variable {P : Program} {w : World} {K : PySem.W.Frag} {mg : Str → Option Value} {base : Heap}
def spApp : Sp := fun vs H Q _ => ∃ (a t : Addr) (e : Edit) (tx : Bytes), vs = [.ref a, .ref t] ∧ EditAt H a e ∧ H t = some (.lst (bv tx)) ∧ (Sv17.apply e tx).length ≤ sizeLine ∧ ∀ (p : Addr) (H' : Hp), Same H H' → H p = none → H' p = some (.lst (bv (Sv17.apply e tx))) → Q (.ref p) H'
theorem sc_app : FnScope ["edit", "text", "result", "place", "kind", "count", "data"] ["edit", "text"] (defScope s_applied) := ⟨rfl, rfl, rfl, by decide +kernel, rfl, by decide +kernel, by decide +kernel⟩
theorem ok_app {f : Addr} {fd : FuncData} (F : Fun K "applied" "applied" s_applied f fd) (g1 : Glb mg "KEEP" (.int 1)) (g2 : Glb mg "PUT_IN" (.int 2)) : FnOk P w K mg base CX0 1 f fd ["edit", "text"] spApp := by
  refine F.ok sc_app (fun vs H Q E h => ?_) (fun cdv A outer s H vs Q E hr h => ?_)
  · obtain ⟨a, t, e, tx, rfl, _⟩ := h
    rfl
  · obtain ⟨a, tp, e, tx, rfl, he, htx, hz, k⟩ := h
    obtain ⟨ts, h1, h2⟩ := he.ex
    have hl : ts.length = e.length := Paired.length h2
    refine ⟨_, pss_cons (ps_set (i := 2) sc_app.nd rfl (Or.inl rfl) (pe_lst pa_nil))
      (pss_cons (ps_set (i := 3) sc_app.nd rfl (Or.inl rfl) pe_int)
      (pss_cons (ps_for PassesOwn.never rfl (pi_list (pv 0)) (pg_tup rfl (pgs_cons (pg_name (i := 4) sc_app.nd rfl (Or.inl rfl)) (pgs_cons (pg_name (i := 5) sc_app.nd rfl (Or.inl rfl)) (pgs_cons (pg_name (i := 6) sc_app.nd rfl (Or.inl rfl)) pgs_nil))))
        (pss_one (ps_if (pt_cmpR op_eq (pv 4) (pg_glob g2) (nomark _))
          (pss_one (ps_expr (pe_bm PySem.F.plainAttrs_list PySem.F.slot_list_extend PySem.F.type_list_extend mt_extend (pv 2) (pa_cons (pv 6) pa_nil))))
          (pss_cons (ps_if (pt_cmpR op_eq (pv 4) (pg_glob g1) (nomark _)) (pss_one (ps_expr (pe_bm PySem.F.plainAttrs_list PySem.F.slot_list_extend PySem.F.type_list_extend mt_extend (pv 2) (pa_cons (pe_slice sl_list (pv 1) (po_some (pv 3)) (po_some (pe_op op_add (pv 3) (pv 5)))) pa_nil)))) pss_nil)
          (pss_one (ps_aug (i := 3) sc_app.nd rfl (Or.inl rfl) (pv 5) ip_add))))))
      (pss_one (ps_ret (pv 2))))), ?_⟩
    refine ⟨Nat.zero_le _, fun nl hnl => ?_⟩
    have n0 : ∀ b o, H b = some o → b ≠ nl := fun b o q => ne_of_none q hnl
    refine ⟨_, rfl, a, rfl, ⟨_, SqL.of (same_upd hnl _ _ h1)⟩, for_list (K := K) (a := a) (xs := ts.map V.ref) (fun i σ H' => ∃ x4 x5 x6 : Option V, σ = [some (.ref a), some (.ref tp), some (.ref nl), some (.int ((Sv17.before (e.take i) : Nat) : Int)), x4, x5, x6] ∧ Same H H' ∧ H' nl = some (.lst (bv (Sv17.apply (e.take i) tx))))
      ⟨none, none, none, rfl, same_upd hnl, upd_same⟩ (fun i σ H' _ ⟨_, _, _, _, s1, _⟩ => SqL.of (s1 _ _ h1)) ?_ ?_⟩
    · rintro i x σ H' hi ⟨x4, x5, x6, rfl, s1, hn⟩
      obtain ⟨t, ht, rfl⟩ := ref_at hi
      obtain ⟨y, hy, d, ht1, ht2⟩ := Paired.getL h2 ht
      have htk := take_snoc hy
      have hap : Sv17.apply (e.take (i + 1)) tx = Sv17.apply (e.take i) tx ++ Sv17.apply [y] (tx.drop (Sv17.before (e.take i))) := by rw [htk, apply_append]
      have hbf : Sv17.before (e.take (i + 1)) = Sv17.before (e.take i) + Sv17.before [y] := by rw [htk, before_append]
      have hlen : (Sv17.apply (e.take i) tx).length + (Sv17.apply [y] (tx.drop (Sv17.before (e.take i)))).length ≤ sizeLine := by
        have e1 : e = e.take (i + 1) ++ e.drop (i + 1) := (List.take_append_drop ..).symm
        have e2 := apply_append (e.take (i + 1)) (e.drop (i + 1)) tx
        rw [← e1, hap] at e2
        rw [e2, List.length_append, List.length_append] at hz
        omega
      generalize Sv17.apply (e.take i) tx = done at hn hap hlen ⊢
      generalize Sv17.before (e.take i) = pl at hap hbf hlen ⊢
      refine ⟨t, _, rfl, SqT.of (s1 _ _ ht1), rfl, _, _, rfl, _, _, rfl, _, _, rfl, rfl, ?_⟩
      refine ⟨_, rfl, rfl, _, rfl, ite2 (fun c => ?_) (fun c => ?_)⟩
      · refine ⟨_, rfl, .inl ⟨rfl, _, SqL.of hn⟩, _, rfl, nl, d, _, _, rfl, rfl, hn, s1 _ _ ht2, ?_, ?_⟩
        · cases y with
          | keep n => simp [kd] at c
          | del n => simp [kd] at c
          | ins b =>
            simp only [Sv17.apply, List.append_nil] at hlen
            rw [bv_len, bv_len]; exact hlen
        · cases y with
          | keep n => simp [kd] at c
          | del n => simp [kd] at c
          | ins b =>
            refine ⟨some (V.int ((kd (Sv17.Step.ins b) : Nat) : Int)), some (V.int (((Sv17.Step.ins b : Step).size : Nat) : Int)), some (V.ref d), ?_, fun b' o q => by rw [upd_ne (n0 _ _ q)]; exact s1 _ _ q, ?_⟩
            rotate_left
            · rw [upd_same, hap]
              simp [Sv17.apply, bv_append, dat]
            · rw [hbf, before_ins, before_nil]
              rfl
      · refine ⟨_, rfl, rfl, _, rfl, ite2 (fun c1 => ?_) (fun c1 => ?_)⟩
        · cases y with
          | ins b => simp [kd] at c
          | del n => simp [kd] at c1
          | keep n =>
            simp only [Sv17.apply, List.append_nil] at hlen hap
            refine ⟨_, rfl, .inl ⟨rfl, _, SqL.of hn⟩, _, rfl, _, rfl, _, rfl, _, rfl, _, rfl, _, _, rfl, rfl, _, rfl, tp, _, rfl, SqL.of (s1 _ _ htx), fun c hc => ?_⟩
            have ec : cutV (bv tx) (some (pl : Int)) (some ((pl : Int) + ((Sv17.Step.keep n).size : Int))) = bv ((tx.drop pl).take n) := by
              have := cut_bv tx pl (pl + n)
              rw [show pl + n - pl = n by omega] at this
              rw [← this]
              simp [Sv17.Step.size]
            rw [ec]
            have s2 := same_upd (o := .lst (bv ((tx.drop pl).take n))) hc
            refine ⟨nl, c, _, _, rfl, rfl, s2 _ _ hn, upd_same, by rw [bv_len, bv_len]; exact hlen, ?_⟩
            refine ⟨_, rfl, _, rfl, _, _, rfl, rfl, ?_⟩
            refine ⟨some (V.int ((kd (Sv17.Step.keep n) : Nat) : Int)), some (V.int (((Sv17.Step.keep n : Step).size : Nat) : Int)), some (V.ref d), ?_, fun b' o q => by rw [upd_ne (n0 _ _ q)]; exact s2 _ _ (s1 _ _ q), ?_⟩
            rotate_left
            · rw [upd_same, hap, bv_append]
            · rw [hbf, before_keep, before_nil]
              simp [Sv17.Step.size] <;> rfl
        · cases y with
          | ins b => simp [kd] at c
          | keep n => simp [kd] at c1
          | del n =>
            simp only [Sv17.apply, List.append_nil] at hap
            refine ⟨_, rfl, _, rfl, _, _, rfl, rfl, ?_⟩
            refine ⟨some (V.int ((kd (Sv17.Step.del n) : Nat) : Int)), some (V.int (((Sv17.Step.del n : Step).size : Nat) : Int)), some (V.ref d), ?_, s1, ?_⟩
            rotate_left
            · rw [hap]; exact hn
            · rw [hbf, before_del, before_nil]
              simp [Sv17.Step.size] <;> rfl
    · rintro σ H' ⟨x4, x5, x6, rfl, s1, hn⟩
      rw [List.length_map, hl, List.take_length] at hn
      exact ⟨_, rfl, k _ _ s1 hnl hn⟩
/-! ### undone -/
structure RowCal (P : Program) (w : World) (K : PySem.W.Frag) (mg : Str → Option Value) (base : Heap) (R : Addr) : Prop where
  txt : RowTxt K R
  init : CalI P w K mg base R "Row" 1 ["self"] (spRowInit R)
  keep : CalM P w K mg base R "keep" 2 ["self", "count"] (spRowKeep R)
  put : CalM P w K mg base R "put_in" 1 ["self", "data"] (spRowPut R)
  del : CalM P w K mg base R "take_out" 1 ["self", "count"] (spRowDel R)
  fin : CalM P w K mg base R "finished" 2 ["self"] (spRowFin R)
theorem rf_no {l : Addr} {k : Nat} {q : Addr} {t : Nat} {m : Str} (h : (m == "closed" || m == "kept" || m == "put" || m == "taken") = false) : (rowF l k q t).lookup m = none := by
  simp only [Bool.or_eq_false_iff] at h
  exact rowF_no _ _ _ _ h.1.1.1 h.1.1.2 h.1.2 h.2
/-- a new row -/
theorem row_new {R : Addr} {H : Hp} {x dx : Addr} (nx : H x = none) (ndx : H dx = none) (nex : dx ≠ x) {Q : Hp → Prop} (h : ∀ (l q : Addr) (H' : Hp), (∀ rest, (∀ b ∈ rest, ∃ o, H b = some o) → RowAt R rest H' x l q RS.init) → Same H H' → H l = none → H q = none → Q H') :
    spRowInit R [.ref x] (upd (upd H dx (.own x)) x (.ins R dx [])) (fun v H2 => v = .non ∧ Q H2) E0 := by
  have s0 : Same H (upd (upd H dx (.own x)) x (.ins R dx [])) := (same_upd ndx).trans (same_upd (by rw [upd_ne nex.symm]; exact nx))
  refine ⟨x, dx, rfl, upd_same, fun H' l q r f hl hq => ⟨rfl, ?_⟩⟩
  refine h l q H' (fun rest tr => r rest (fun b hb => ?_) fun m => ?_) (s0.frm f (by simpa using nx)) (s0.free hl) (s0.free hq)
  · obtain ⟨o, y⟩ := tr b hb
    exact ⟨o, s0 _ _ y⟩
  · obtain ⟨o, y⟩ := tr x m
    rw [y] at nx; cases nx
def spUnd : Sp := fun vs H Q _ => ∃ (a t : Addr) (e : Edit) (tx : Bytes), vs = [.ref a, .ref t] ∧ EditAt H a e ∧ H t = some (.lst (bv tx)) ∧ PosE e ∧ Sv17.before e = tx.length ∧ esz e + 3 ≤ sizeLine ∧ ∀ (p : Addr) (H' : Hp), Same H H' → EditAt H' p (Sv17.undo e tx) → Q (.ref p) H'
theorem sc_und : FnScope ["edit", "text", "row", "place", "kind", "count", "data"] ["edit", "text"] (defScope s_undone) := ⟨rfl, rfl, rfl, by decide +kernel, rfl, by decide +kernel, by decide +kernel⟩
theorem ok_und {f R : Addr} {fd : FuncData} (F : Fun K "undone" "undone" s_undone f fd) (g1 : Glb mg "KEEP" (.int 1)) (g2 : Glb mg "PUT_IN" (.int 2)) (cR : RowCal P w K mg base R) : FnOk P w K mg base CX0 3 f fd ["edit", "text"] spUnd := by
  refine F.ok sc_und (fun vs H Q E h => ?_) (fun cdv A outer s H vs Q E hr h => ?_)
  · obtain ⟨a, t, e, tx, rfl, _⟩ := h
    rfl
  · obtain ⟨a, tp, e, tx, rfl, he, htx, hpos, hfit, hz, k⟩ := h
    obtain ⟨ts, h1, h2⟩ := he.ex
    have hl : ts.length = e.length := Paired.length h2
    have T := cR.txt
    refine ⟨_, pss_cons (ps_set (i := 2) sc_und.nd rfl (Or.inl rfl) (pi_call0 cR.init hr))
      (pss_cons (ps_set (i := 3) sc_und.nd rfl (Or.inl rfl) pe_int)
      (pss_cons (ps_for PassesOwn.never rfl (pi_list (pv 0)) (pg_tup rfl (pgs_cons (pg_name (i := 4) sc_und.nd rfl (Or.inl rfl)) (pgs_cons (pg_name (i := 5) sc_und.nd rfl (Or.inl rfl)) (pgs_cons (pg_name (i := 6) sc_und.nd rfl (Or.inl rfl)) pgs_nil))))
        (pss_one (ps_if (pt_cmpR op_eq (pv 4) (pg_glob g2) (nomark _))
          (pss_one (ps_expr (pm_call cR.del T.cl hr (pv 2) (pa_cons (pv 5) pa_nil))))
          (pss_cons (ps_if (pt_cmpR op_eq (pv 4) (pg_glob g1) (nomark _)) (pss_one (ps_expr (pm_call cR.keep T.cl hr (pv 2) (pa_cons (pv 5) pa_nil)))) (pss_one (ps_expr (pm_call cR.put T.cl hr (pv 2) (pa_cons (pe_slice sl_list (pv 1) (po_some (pv 3)) (po_some (pe_op op_add (pv 3) (pv 5)))) pa_nil)))))
          (pss_one (ps_aug (i := 3) sc_und.nd rfl (Or.inl rfl) (pv 5) ip_add))))))
      (pss_one (ps_ret (pm_call0 cR.fin T.cl hr (pv 2)))))), ?_⟩
    intro p dx0 np ndx nex
    refine row_new np ndx nex fun l q0 H0 r0 s0 nl nq0 => ?_
    have hP : PosE (Sv17.undone e tx) := undone_pos hpos (Nat.le_of_eq hfit)
    have hZ : esz (Sv17.undone e tx) ≤ esz e := undone_esz
    refine ⟨_, rfl, a, rfl, ⟨_, SqL.of (s0 _ _ h1)⟩, for_list (K := K) (a := a) (xs := ts.map V.ref) (fun i σ H' => ∃ (x4 x5 x6 : Option V) (q : Addr), σ = [some (.ref a), some (.ref tp), some (.ref p), some (.int ((Sv17.before (e.take i) : Nat) : Int)), x4, x5, x6] ∧ Same H H' ∧ H q = none ∧ RowAt R [] H' p l q (RS.init.run (Sv17.undone (e.take i) tx)))
      ⟨none, none, none, q0, rfl, s0, nq0, r0 [] (by simp)⟩ (fun i σ H' _ ⟨_, _, _, _, _, s1, _⟩ => SqL.of (s1 _ _ h1)) ?_ ?_⟩
    · rintro i x σ H' hi ⟨x4, x5, x6, q, rfl, s1, nq, hr1⟩
      obtain ⟨t, ht, rfl⟩ := ref_at hi
      obtain ⟨y, hy, d, ht1, ht2⟩ := Paired.getL h2 ht
      have htk := take_snoc hy
      have hy0 : 0 < y.size := hpos y (List.mem_of_getElem? hy)
      have hap : Sv17.undone (e.take (i + 1)) tx = Sv17.undone (e.take i) tx ++ Sv17.undone [y] (tx.drop (Sv17.before (e.take i))) := by rw [htk, undone_append]
      have hbf : Sv17.before (e.take (i + 1)) = Sv17.before (e.take i) + Sv17.before [y] := by rw [htk, before_append]
      have hall : Sv17.undone e tx = Sv17.undone (e.take i) tx ++ Sv17.undone (e.drop i) (tx.drop (Sv17.before (e.take i))) := by rw [← undone_append, List.take_append_drop]
      have hall1 : Sv17.undone e tx = Sv17.undone (e.take (i + 1)) tx ++ Sv17.undone (e.drop (i + 1)) (tx.drop (Sv17.before (e.take (i + 1)))) := by rw [← undone_append, List.take_append_drop]
      have hP1 : PosE (Sv17.undone (e.take i) tx) := fun s hs => hP s (by rw [hall]; exact List.mem_append_left _ hs)
      have hZ1 : esz (Sv17.undone (e.take (i + 1)) tx) ≤ esz e := by rw [hall1, esz_append] at hZ; omega
      rw [hap, esz_append] at hZ1
      have hok := run_ok RS.Ok.init hP1
      have htot : (RS.init.run (Sv17.undone (e.take i) tx)).tot = esz (Sv17.undone (e.take i) tx) := by
        rw [run_tot]
        show 0 + _ = _
        omega
      generalize hrs : RS.init.run (Sv17.undone (e.take i) tx) = rs at hr1 hok htot ⊢
      have hrun : RS.init.run (Sv17.undone (e.take (i + 1)) tx) = rs.run (Sv17.undone [y] (tx.drop (Sv17.before (e.take i)))) := by rw [hap, run_append, hrs]
      generalize hpl : Sv17.before (e.take i) = pl at hbf hrun hZ1 ⊢
      have hlen := hok.len
      obtain ⟨dx, ho⟩ := hr1.obj
      refine ⟨t, _, rfl, SqT.of (s1 _ _ ht1), rfl, _, _, rfl, _, _, rfl, _, _, rfl, rfl, ?_⟩
      refine ⟨_, rfl, rfl, _, rfl, ite2 (fun c => ?_) (fun c => ?_)⟩
      · cases y with
        | keep n => simp [kd] at c
        | del n => simp [kd] at c
        | ins b =>
          refine ⟨_, rfl, p, dx, _, rfl, ho, rf_no (by decide +kernel), _, rfl, p, l, q, rs, [], b.length, rfl, hr1, fun H2 r2 f2 => ?_⟩
          refine ⟨some (V.int ((kd (Sv17.Step.ins b) : Nat) : Int)), some (V.int (((Sv17.Step.ins b : Step).size : Nat) : Int)), some (V.ref d), q, ?_, s1.frm f2 (by simpa using np), nq, ?_⟩
          rotate_left
          · rw [hrun]; exact r2
          · rw [hbf, before_ins, before_nil]
            rfl
      · refine ⟨_, rfl, rfl, _, rfl, ite2 (fun c1 => ?_) (fun c1 => ?_)⟩
        · cases y with
          | ins b => simp [kd] at c
          | del n => simp [kd] at c1
          | keep n =>
            refine ⟨_, rfl, p, dx, _, rfl, ho, rf_no (by decide +kernel), _, rfl, p, l, q, rs, [], n, rfl, hr1, by omega, fun H2 q2 r2 f2 hq2 => ?_⟩
            refine ⟨_, rfl, _, rfl, _, _, rfl, rfl, ?_⟩
            refine ⟨some (V.int ((kd (Sv17.Step.keep n) : Nat) : Int)), some (V.int (((Sv17.Step.keep n : Step).size : Nat) : Int)), some (V.ref d), q2, ?_, s1.frm f2 (by simp [np, nl]), ?_, ?_⟩
            rotate_left
            · rcases hq2 with z | z
              · rw [z]; exact nq
              · exact s1.free z
            · rw [hrun]; exact r2
            · rw [hbf, before_keep, before_nil]
              simp [Sv17.Step.size] <;> rfl
        · cases y with
          | ins b => simp [kd] at c
          | keep n => simp [kd] at c1
          | del n =>
            refine ⟨_, rfl, p, dx, _, rfl, ho, rf_no (by decide +kernel), _, rfl, _, rfl, _, rfl, _, rfl, _, rfl, _, _, rfl, rfl, _, rfl, tp, _, rfl, SqL.of (s1 _ _ htx), fun c hc => ?_⟩
            have ec : cutV (bv tx) (some (pl : Int)) (some ((pl : Int) + ((Sv17.Step.del n).size : Int))) = bv ((tx.drop pl).take n) := by
              have := cut_bv tx pl (pl + n)
              rw [show pl + n - pl = n by omega] at this
              rw [← this]
              simp [Sv17.Step.size]
            rw [ec]
            have s2 := same_upd (o := .lst (bv ((tx.drop pl).take n))) hc
            have hr2 : RowAt R [] (upd H' c (.lst (bv ((tx.drop pl).take n)))) p l q rs := hr1.frame (n := []) (fun b o e _ => s2 b o e) (by simp) (by simp) (by simp)
            simp only [Sv17.undone, esz_cons, esz_nil, Sv17.Step.size] at hZ1
            refine ⟨p, l, q, rs, [], c, _, rfl, hr2, upd_same, ?_, fun H2 r2 f2 => ?_⟩
            · have : rs.put.length ≤ rs.tot := by unfold RS.tot; omega
              omega
            · refine ⟨_, rfl, _, rfl, _, _, rfl, rfl, ?_⟩
              refine ⟨some (V.int ((kd (Sv17.Step.del n) : Nat) : Int)), some (V.int (((Sv17.Step.del n : Step).size : Nat) : Int)), some (V.ref d), q, ?_, (s1.trans s2).frm f2 (by simpa using nq), nq, ?_⟩
              rotate_left
              · rw [hrun]; exact r2
              · rw [hbf, before_del, before_nil]
                simp [Sv17.Step.size] <;> rfl
    · rintro σ H' ⟨x4, x5, x6, q, rfl, s1, nq, hr1⟩
      rw [List.length_map, hl, List.take_length] at hr1
      have hok := run_ok RS.Ok.init hP
      have htot : (RS.init.run (Sv17.undone e tx)).tot = esz (Sv17.undone e tx) := by
        rw [run_tot]
        show 0 + _ = _
        omega
      have hlen := hok.len
      obtain ⟨dx, ho⟩ := hr1.obj
      refine ⟨_, rfl, p, dx, _, rfl, ho, rf_no (by decide +kernel), p, l, q, _, [], rfl, hr1, by omega, fun H2 q2 r2 f2 hq2 ed => ?_⟩
      rw [run_formed hP] at ed
      exact k l H2 (s1.frm f2 (by simp [np, nl])) ed
end
end My
end
section
set_option Elab.async false
set_option linter.all false
set_option maxRecDepth 100000
set_option maxHeartbeats 2000000
namespace My
open PySem PySem.Spec PyProof.Rows L2
def kh : Edit → Nat
  | [] => 0
  | x :: _ => kd x
theorem CurAt.any {C : Addr} {H : Hp} {p a : Addr} {e rest : Edit} (h : CurAt C H p a e rest) : ∃ dx i n, H p = some (.ins C dx (curF a i (kh rest) n)) := by
  cases rest with
  | nil => exact h.nil
  | cons x r =>
    obtain ⟨dx, i, _, h1, _⟩ := h.head
    exact ⟨dx, i, _, h1⟩
theorem cf_no {a : Addr} {i k n : Nat} {m : Str} (h : (m == "edit" || m == "place" || m == "kind" || m == "left") = false) : (curF a i k n).lookup m = none := by
  simp only [Bool.or_eq_false_iff] at h
  exact curF_no _ _ _ _ h.1.1.1 h.1.1.2 h.1.2 h.2
theorem kd_pos (s : Step) : 0 < kd s := by cases s <;> simp [kd]
theorem kh_zero {r : Edit} (h : kh r = 0) : r = [] := by
  cases r with
  | nil => rfl
  | cons x r => have := kd_pos x; have h : kd x = 0 := h; omega
section
variable {P : Program} {w : World} {K : PySem.W.Frag} {mg : Str → Option Value} {base : Heap}
structure CurCal (P : Program) (w : World) (K : PySem.W.Frag) (mg : Str → Option Value) (base : Heap) (C : Addr) : Prop where
  txt : CurTxt K C
  init : CalI P w K mg base C "Cursor" 2 ["self", "edit"] (spCurInit C)
  go : CalM P w K mg base C "go_on" 2 ["self", "count"] (spGo C)
theorem cur_new {C : Addr} {H : Hp} {x dx a : Addr} {e : Edit} (nx : H x = none) (ndx : H dx = none) (nex : dx ≠ x) (he : EditAt H a e) (hp : PosE e) {Q : Hp → Prop} (h : ∀ (H' : Hp), CurAt C H' x a e e → Same H H' → Q H') :
    spCurInit C [.ref x, .ref a] (upd (upd H dx (.own x)) x (.ins C dx [])) (fun v H2 => v = .non ∧ Q H2) E0 := by
  have s0 : Same H (upd (upd H dx (.own x)) x (.ins C dx [])) := (same_upd ndx).trans (same_upd (by rw [upd_ne nex.symm]; exact nx))
  exact ⟨x, a, dx, e, rfl, upd_same, he.same s0, hp, fun H' c f => ⟨rfl, h H' c (s0.frm f (by simpa using nx))⟩⟩
/-! ### two cursors and a row -/
structure CS (C R : Addr) (m : List Addr) (H0 H : Hp) (f s a b : Addr) (ea eb ra rb : Edit) (p l q : Addr) (r : RS) : Prop where
  sm : Same H0 H
  e1 : EditAt H0 a ea
  e2 : EditAt H0 b eb
  p1 : PosE ea
  p2 : PosE eb
  nf : H0 f = none
  ns : H0 s = none
  np : H0 p = none
  nl : H0 l = none
  nq : H0 q = none
  ne : f ≠ s
  cf : CurAt C H f a ea ra
  cs : CurAt C H s b eb rb
  row : RowAt R (f :: s :: m) H p l q r
  tm : ∀ b ∈ m, ∃ o, H0 b = some o
theorem CurAt.trk {C : Addr} {H : Hp} {p a : Addr} {e rest : Edit} (h : CurAt C H p a e rest) : ∃ o, H p = some o := let ⟨_, _, _, _, h1, _⟩ := h.ex; ⟨_, h1⟩
theorem tm_same {m : List Addr} {H0 H : Hp} (t : ∀ b ∈ m, ∃ o, H0 b = some o) (z : Same H0 H) : ∀ b ∈ m, ∃ o, H b = some o := fun b hb => let ⟨o, y⟩ := t b hb; ⟨o, z _ _ y⟩
theorem CS.go1 {C R : Addr} {m : List Addr} {H0 H H' : Hp} {f s a b : Addr} {ea eb ra rb ra' : Edit} {p l q : Addr} {r : RS} (h : CS C R m H0 H f s a b ea eb ra rb p l q r) (c : CurAt C H' f a ea ra') (fr : Frm [f] H H') : CS C R m H0 H' f s a b ea eb ra' rb p l q r := by
  have cs := h.cs.frame fr (by simpa using h.ne.symm)
  have sm := h.sm.frm fr (by simpa using h.nf)
  refine { h with sm := sm, cf := c, cs := cs, row := h.row.frame fr (by simp) (fun b hb => .inl hb) fun b hb => ?_ }
  rcases List.mem_cons.mp hb with z | z
  · rw [z]; exact c.trk
  · rcases List.mem_cons.mp z with z | z
    · rw [z]; exact cs.trk
    · exact tm_same h.tm sm b z
theorem CS.go2 {C R : Addr} {m : List Addr} {H0 H H' : Hp} {f s a b : Addr} {ea eb ra rb rb' : Edit} {p l q : Addr} {r : RS} (h : CS C R m H0 H f s a b ea eb ra rb p l q r) (c : CurAt C H' s b eb rb') (fr : Frm [s] H H') : CS C R m H0 H' f s a b ea eb ra rb' p l q r := by
  have cf := h.cf.frame fr (by simpa using h.ne)
  have sm := h.sm.frm fr (by simpa using h.ns)
  refine { h with sm := sm, cf := cf, cs := c, row := h.row.frame fr (by simp) (fun b hb => .inl hb) fun b hb => ?_ }
  rcases List.mem_cons.mp hb with z | z
  · rw [z]; exact cf.trk
  · rcases List.mem_cons.mp z with z | z
    · rw [z]; exact c.trk
    · exact tm_same h.tm sm b z
theorem CS.rw {C R : Addr} {m : List Addr} {H0 H H' : Hp} {f s a b : Addr} {ea eb ra rb : Edit} {p l q q' : Addr} {r r' : RS} (h : CS C R m H0 H f s a b ea eb ra rb p l q r) (c : RowAt R (f :: s :: m) H' p l q' r') (fr : Frm [p, l, q] H H') (hq : q' = q ∨ H q' = none) : CS C R m H0 H' f s a b ea eb ra rb p l q' r' := by
  have nr := h.row.nr
  simp at nr
  refine { h with sm := h.sm.frm fr (by simp [h.np, h.nl, h.nq]), nq := ?_, cf := h.cf.frame fr ?_, cs := h.cs.frame fr ?_, row := c }
  · rcases hq with z | z
    · rw [z]; exact h.nq
    · exact h.sm.free z
  · simp
    exact ⟨fun z => nr.2.2.1 z.symm, fun z => nr.2.1.1 z.symm, fun z => nr.1.1 z.symm⟩
  · simp
    exact ⟨fun z => nr.2.2.2.1 z.symm, fun z => nr.2.1.2.1 z.symm, fun z => nr.1.2.1 z.symm⟩
theorem CS.ea {C R : Addr} {m : List Addr} {H0 H : Hp} {f s a b : Addr} {ea eb ra rb : Edit} {p l q : Addr} {r : RS} (h : CS C R m H0 H f s a b ea eb ra rb p l q r) : EditAt H a ea := h.e1.same h.sm
theorem CS.eb {C R : Addr} {m : List Addr} {H0 H : Hp} {f s a b : Addr} {ea eb ra rb : Edit} {p l q : Addr} {r : RS} (h : CS C R m H0 H f s a b ea eb ra rb p l q r) : EditAt H b eb := h.e2.same h.sm
def spCC (C R : Addr) : Sp := fun vs H Q _ => ∃ (m : List Addr) (H0 : Hp) (f s a b : Addr) (ea eb ra rb : Edit) (x y : Step) (p l q : Addr) (r : RS), vs = [.ref f, .ref s, .ref p] ∧ CS C R m H0 H f s a b ea eb (x :: ra) (y :: rb) p l q r ∧ isDel x = false ∧ isIns y = false ∧ r.Ok ∧ r.tot + x.size + 3 ≤ sizeLine ∧
  ∀ (H' : Hp) (q' : Addr), CS C R m H0 H' f s a b ea eb (x.rest (min x.size y.size) ++ ra) (y.rest (min x.size y.size) ++ rb) p l q' (r.run (hereC x y (min x.size y.size))) → Q .non H'
theorem sc_cc : FnScope ["first", "second", "row", "count", "first_kind", "second_kind", "data"] ["first", "second", "row"] (defScope s_compose_common) := ⟨rfl, rfl, rfl, by decide +kernel, rfl, by decide +kernel, by decide +kernel⟩
theorem min_ite (i j : Nat) : (if (j : Int) < (i : Int) then (j : Int) else (i : Int)) = ((min i j : Nat) : Int) := by
  by_cases h : j < i
  · rw [if_pos (by omega), Nat.min_eq_right (by omega)]
  · rw [if_neg (by omega), Nat.min_eq_left (by omega)]
theorem ok_cc {f0 C R : Addr} {fd : FuncData} (F : Fun K "compose_common" "compose_common" s_compose_common f0 fd) (g1 : Glb mg "KEEP" (.int 1)) (gm : mg "min" = none) (cC : CurCal P w K mg base C) (cR : RowCal P w K mg base R) : FnOk P w K mg base CX0 3 f0 fd ["first", "second", "row"] (spCC C R) := by
  refine F.ok sc_cc (fun vs H Q E h => ?_) (fun cdv A outer st H vs Q E hr h => ?_)
  · obtain ⟨m, H0, f, s, a, b, ea, eb, ra, rb, x, y, p, l, q, r, rfl, _⟩ := h
    rfl
  · obtain ⟨m, H0, f, s, a, b, ea, eb, ra, rb, x, y, p, l, q, r, rfl, S, nx, ny, hok, hz, k⟩ := h
    have T := cC.txt
    have TR := cR.txt
    refine ⟨_, pss_cons (ps_set (i := 3) sc_cc.nd rfl (Or.inl rfl) (pe_callB (call_min2 rfl) rfl gm boot_min (pa_cons (pe_fld (pv 0) rfl) (pa_cons (pe_fld (pv 1) rfl) pa_nil))))
      (pss_cons (ps_set (i := 4) sc_cc.nd rfl (Or.inl rfl) (pe_fld (pv 0) rfl))
      (pss_cons (ps_set (i := 5) sc_cc.nd rfl (Or.inl rfl) (pe_fld (pv 1) rfl))
      (pss_cons (ps_set (i := 6) sc_cc.nd rfl (Or.inl rfl) (pm_call cC.go T.cl hr (pv 0) (pa_cons (pv 3) pa_nil)))
      (pss_cons (ps_expr (pm_call cC.go T.cl hr (pv 1) (pa_cons (pv 3) pa_nil)))
      (pss_one (ps_if (PW.pt (pw_and (pt_cmpR op_eq (pv 4) (pg_glob g1) (nomark _)) (pw_and1 (pt_cmpR op_eq (pv 5) (pg_glob g1) (nomark _)))))
        (pss_one (ps_expr (pm_call cR.keep TR.cl hr (pv 2) (pa_cons (pv 3) pa_nil))))
        (pss_one (ps_if (pt_cmpR op_eq (pv 4) (pg_glob g1) (nomark _))
          (pss_one (ps_expr (pm_call cR.del TR.cl hr (pv 2) (pa_cons (pv 3) pa_nil))))
          (pss_one (ps_if (pt_cmpR op_eq (pv 5) (pg_glob g1) (nomark _))
            (pss_one (ps_expr (pm_call cR.put TR.cl hr (pv 2) (pa_cons (pv 6) pa_nil)))) pss_nil)))))))))), ?_⟩
    obtain ⟨dx, i, s1, ho, _, _, hx0, _⟩ := S.cf.head
    obtain ⟨dy, j, s2, ho2, _, _, hy0, _⟩ := S.cs.head
    refine ⟨_, rfl, f, C, dx, _, _, rfl, ho, T.cl, T.n4, curF_left .., _, rfl, s, C, dy, _, _, rfl, ho2, T.cl, T.n4, curF_left .., _, _, rfl, ?_⟩
    rw [min_ite]
    have hk0 : 0 < min x.size y.size := by omega
    have hkx : min x.size y.size ≤ x.size := Nat.min_le_left _ _
    have hky : min x.size y.size ≤ y.size := Nat.min_le_right _ _
    generalize hkk : min x.size y.size = n at k hk0 hkx hky ⊢
    refine ⟨_, rfl, f, C, dx, _, _, rfl, ho, T.cl, T.n3, curF_kind .., ?_⟩
    refine ⟨_, rfl, s, C, dy, _, _, rfl, ho2, T.cl, T.n3, curF_kind .., ?_⟩
    refine ⟨_, rfl, f, dx, _, rfl, ho, cf_no (by decide +kernel), _, rfl, f, a, ea, ra, x, n, rfl, S.cf, S.ea, S.p1, hk0, hkx, fun H1 d c1 hd f1 nd => ?_⟩
    have S1 := S.go1 c1 f1
    obtain ⟨dy1, j1, _, ho3, _⟩ := S1.cs.head
    refine ⟨_, rfl, s, dy1, _, rfl, ho3, cf_no (by decide +kernel), _, rfl, s, b, eb, rb, y, n, rfl, S1.cs, S1.eb, S1.p2, hk0, hky, fun H2 d2 c2 hd2 f2 nd2 => ?_⟩
    have S2 := S1.go2 c2 f2
    have hD : H2 d = some (.lst (bv ((dat x).take n))) := f2 _ _ hd (by simp; exact ne_of hd ho3 (by intro z; cases z))
    obtain ⟨dr, hor⟩ := S2.row.obj
    have hlen := hok.len
    have hput : r.put.length ≤ r.tot := by unfold RS.tot; omega
    have k4 : ∀ (A B : Prop), (kd x = 1 → A) → (kd x ≠ 1 → B) → if decide (V.int ((kd x : Nat) : Int) = V.int 1) = true then A else B := fun A B h1 h2 => by
      refine ite2 (fun c => h1 ?_) (fun c => h2 ?_)
      · simp at c; omega
      · intro z; apply c; rw [z]; rfl
    have k5 : ∀ (A B : Prop), (kd y = 1 → A) → (kd y ≠ 1 → B) → if decide (V.int ((kd y : Nat) : Int) = V.int 1) = true then A else B := fun A B h1 h2 => by
      refine ite2 (fun c => h1 ?_) (fun c => h2 ?_)
      · simp at c; omega
      · intro z; apply c; rw [z]; rfl
    have doKeep : kd x = 1 → kd y = 1 → spRowKeep R [.ref p, .int n] H2 (fun _ H' => Q .non H') E0 := fun hx hy => by
      refine ⟨p, l, q, r, _, n, rfl, S2.row, by omega, fun H3 q3 r3 f3 hq3 => ?_⟩
      refine k H3 q3 (S2.rw ?_ (f3.mono (by simp)) hq3)
      match x, y, nx, ny, hx, hy with
      | .keep _, .keep _, _, _, _, _ => exact r3
    have doDel : kd x = 1 → kd y ≠ 1 → spRowDel R [.ref p, .int n] H2 (fun _ H' => Q .non H') E0 := fun hx hy => by
      refine ⟨p, l, q, r, _, n, rfl, S2.row, fun H3 r3 f3 => ?_⟩
      refine k H3 q (S2.rw ?_ (f3.mono (by simp)) (.inl rfl))
      match x, y, nx, ny, hx, hy with
      | .keep _, .del _, _, _, _, _ => exact r3
      | .keep _, .keep _, _, _, _, hy => exact absurd rfl hy
    have doPut : kd x ≠ 1 → kd y = 1 → spRowPut R [.ref p, .ref d] H2 (fun _ H' => Q .non H') E0 := fun hx hy => by
      refine ⟨p, l, q, r, _, d, _, rfl, S2.row, hD, ?_, fun H3 r3 f3 => ?_⟩
      · have : ((dat x).take n).length ≤ n := by rw [List.length_take]; omega
        omega
      · refine k H3 q (S2.rw ?_ (f3.mono (by simp)) (.inl rfl))
        match x, y, nx, ny, hx, hy with
        | .ins _, .keep _, _, _, _, _ => exact r3
        | .keep _, .keep _, _, _, hx, _ => exact absurd rfl hx
    have doNone : kd x ≠ 1 → kd y ≠ 1 → Q .non H2 := fun hx hy => by
      refine k H2 q ?_
      match x, y, nx, ny, hx, hy with
      | .ins _, .del _, _, _, _, _ => exact S2
      | .keep _, _, _, _, hx, _ => exact absurd rfl hx
      | .ins _, .keep _, _, _, _, hy => exact absurd rfl hy
    refine ⟨_, rfl, rfl, _, rfl, k4 _ _ (fun hx => ?_) (fun hx => ?_)⟩
    · refine ⟨_, rfl, rfl, _, rfl, k5 _ _ (fun hy => ?_) (fun hy => ?_)⟩
      · exact ⟨_, rfl, p, dr, _, rfl, hor, rf_no (by decide +kernel), _, rfl, doKeep hx hy⟩
      · exact ⟨_, rfl, rfl, _, rfl, k4 _ _ (fun _ => ⟨_, rfl, p, dr, _, rfl, hor, rf_no (by decide +kernel), _, rfl, doDel hx hy⟩) (fun z => absurd hx z)⟩
    · refine iteF ⟨_, rfl, rfl, _, rfl, k4 _ _ (fun z => absurd z hx) (fun _ => ⟨_, rfl, rfl, _, rfl, k5 _ _ (fun hy => ?_) (fun hy => ?_)⟩)⟩
      · exact ⟨_, rfl, p, dr, _, rfl, hor, rf_no (by decide +kernel), _, rfl, doPut hx hy⟩
      · exact doNone hx hy
end
end My
end
section
set_option Elab.async false
set_option linter.all false
set_option maxRecDepth 100000
set_option maxHeartbeats 2000000
namespace My
open PySem PySem.Spec PyProof.Rows L2
section
variable {P : Program} {w : World} {K : PySem.W.Frag} {mg : Str → Option Value} {base : Heap}
def spCmp : Sp := fun vs H Q _ => ∃ (a b : Addr) (ea eb : Edit) (m : List Addr), vs = [.ref a, .ref b] ∧ (∀ c ∈ m, ∃ o, H c = some o) ∧ EditAt H a ea ∧ EditAt H b eb ∧ PosE ea ∧ PosE eb ∧ Sv17.behind ea = Sv17.before eb ∧ esz ea + esz eb + 3 ≤ sizeLine ∧
  ∀ (p : Addr) (H' : Hp), Same H H' → EditAt (wo H' m) p (Sv17.compose ea eb) → Q (.ref p) H'
theorem sc_cmp : FnScope ["a", "b", "first", "second", "row"] ["a", "b"] (defScope s_composed) := ⟨rfl, rfl, rfl, by decide +kernel, rfl, by decide +kernel, by decide +kernel⟩
theorem kne {n m : Nat} {A B : Prop} (h1 : n ≠ m → A) (h2 : n = m → B) : if (!decide (V.int ((n : Nat) : Int) = V.int ((m : Nat) : Int))) = true then A else B := by
  by_cases h : n = m
  · subst h
    simp
    exact h2 rfl
  · have : decide (V.int ((n : Nat) : Int) = V.int ((m : Nat) : Int)) = false := decide_eq_false (by intro z; apply h; have := V.int.inj z; omega)
    rw [this]
    exact iteT (h1 h)
theorem keq {n m : Nat} {A B : Prop} (h1 : n = m → A) (h2 : n ≠ m → B) : if decide (V.int ((n : Nat) : Int) = V.int ((m : Nat) : Int)) = true then A else B := by
  by_cases h : n = m
  · subst h
    simp
    exact h1 rfl
  · have : decide (V.int ((n : Nat) : Int) = V.int ((m : Nat) : Int)) = false := decide_eq_false (by intro z; apply h; have := V.int.inj z; omega)
    rw [this]
    exact iteF (h2 h)
theorem ok_cmp {f0 C R : Addr} {fd : FuncData} (F : Fun K "composed" "composed" s_composed f0 fd) (g0 : Glb mg "NO_STEP" (.int ((0 : Nat) : Int))) (g2 : Glb mg "PUT_IN" (.int ((2 : Nat) : Int))) (g3 : Glb mg "TAKE_OUT" (.int ((3 : Nat) : Int))) (cC : CurCal P w K mg base C) (cR : RowCal P w K mg base R)
    (cc : Cal P w K mg base "compose_common" 3 ["first", "second", "row"] (spCC C R)) : FnOk P w K mg base CX0 4 f0 fd ["a", "b"] spCmp := by
  refine F.ok sc_cmp (fun vs H Q E h => ?_) (fun cdv A outer st H vs Q E hr h => ?_)
  · obtain ⟨a, b, ea, eb, mm, rfl, _⟩ := h
    rfl
  · obtain ⟨a, b, ea, eb, mm, rfl, tm, he, hb, pa, pb, hfit, hz, k⟩ := h
    have T := cC.txt
    have TR := cR.txt
    refine ⟨_, pss_cons (ps_set (i := 2) sc_cmp.nd rfl (Or.inl rfl) (pi_call cC.init hr (pa_cons (pv 0) pa_nil)))
      (pss_cons (ps_set (i := 3) sc_cmp.nd rfl (Or.inl rfl) (pi_call cC.init hr (pa_cons (pv 1) pa_nil)))
      (pss_cons (ps_set (i := 4) sc_cmp.nd rfl (Or.inl rfl) (pi_call0 cR.init hr))
      (pss_cons (ps_while PassesOwn.never (PW.pt (pw_or (pt_cmpR op_ne (pe_fld (pv 2) rfl) (pg_glob g0) (nomark _)) (pw_or1 (pt_cmpR op_ne (pe_fld (pv 3) rfl) (pg_glob g0) (nomark _)))))
        (pss_one (ps_if (pt_cmpR op_eq (pe_fld (pv 3) rfl) (pg_glob g2) (nomark _))
          (pss_one (ps_expr (pm_call cR.put TR.cl hr (pv 4) (pa_cons (pm_call cC.go T.cl hr (pv 3) (pa_cons (pe_fld (pv 3) rfl) pa_nil)) pa_nil))))
          (pss_one (ps_if (pt_cmpR op_eq (pe_fld (pv 2) rfl) (pg_glob g3) (nomark _))
            (pss_cons (ps_expr (pm_call cR.del TR.cl hr (pv 4) (pa_cons (pe_fld (pv 2) rfl) pa_nil))) (pss_one (ps_expr (pm_call cC.go T.cl hr (pv 2) (pa_cons (pe_fld (pv 2) rfl) pa_nil)))))
            (pss_one (ps_expr (pc_call cc hr (pa_cons (pv 2) (pa_cons (pv 3) (pa_cons (pv 4) pa_nil)))))))))))
      (pss_one (ps_ret (pm_call0 cR.fin TR.cl hr (pv 4))))))), ?_⟩
    refine ⟨_, rfl, ?_⟩
    intro f dxf nf ndxf nexf
    refine cur_new nf ndxf nexf he pa fun H1 c1 s1 => ?_
    refine ⟨_, rfl, ?_⟩
    intro s dxs ns ndxs nexs
    refine cur_new ns ndxs nexs (hb.same s1) pb fun H2 c2 s2 => ?_
    intro p dxp np ndxp nexp
    have c1' := c1.frame (n := []) (fun b o e _ => s2 b o e) (by simp)
    refine row_new np ndxp nexp fun l q H3 r3 s3 nl nq => ?_
    have s13 := (s1.trans s2).trans s3
    have fs : f ≠ s := fun z => by
      obtain ⟨o, y⟩ := c1.trk
      rw [← z, y] at ns; cases ns
    have S0 : CS C R mm H H3 f s a b ea eb ea eb p l q RS.init := ⟨s13, he, hb, pa, pb, nf, s1.free ns, (s1.trans s2).free np, (s1.trans s2).free nl, (s1.trans s2).free nq, fs, c1'.frame (n := []) (fun b o e _ => s3 b o e) (by simp), c2.frame (n := []) (fun b o e _ => s3 b o e) (by simp), r3 (f :: s :: mm) (fun b hb => by
      rcases List.mem_cons.mp hb with z | z
      · rw [z]; exact c1'.trk
      · rcases List.mem_cons.mp z with z | z
        · rw [z]; exact c2.trk
        · exact tm_same tm (s1.trans s2) b z), tm⟩
    refine ⟨fun m σ H' => ∃ (ra rb : Edit) (q : Addr) (r : RS), m = mu ra rb ∧ σ = [some (.ref a), some (.ref b), some (.ref f), some (.ref s), some (.ref p)] ∧ CS C R mm H H' f s a b ea eb ra rb p l q r ∧ PosE ra ∧ PosE rb ∧ Sv17.behind ra = Sv17.before rb ∧ r.Ok ∧ r.tot + esz ra + esz rb ≤ esz ea + esz eb ∧ r.run (CC ra rb) = RS.init.run (CC ea eb),
      ⟨_, ea, eb, q, RS.init, rfl, rfl, S0, pa, pb, hfit, RS.Ok.init, (by show 0 + _ + _ ≤ _; omega), rfl⟩, ?_⟩
    rintro m σ H' ⟨ra, rb, q, r, rfl, rfl, S, pra, prb, hf, hok, htot, hrun⟩
    have hlen := hok.len
    have hput : r.put.length ≤ r.tot := by unfold RS.tot; omega
    obtain ⟨df, i, nf', hof⟩ := S.cf.any
    obtain ⟨ds, j, ns', hos⟩ := S.cs.any
    obtain ⟨dr, hor⟩ := S.row.obj
    -- one turn
    have turn : (ra ≠ [] ∨ rb ≠ []) → tIfS (tTest (tOp rEq (tFld K (tVar 3) "kind") (tC (V.int ((2 : Nat) : Int)))))
        (tDrop (tMeth R "put_in" (spRowPut R) [] E0 (tVar 4) (tCons (tMeth C "go_on" (spGo C) [] E0 (tVar 3) (tCons (tFld K (tVar 3) "left") tNil)) tNil)))
        (tIfS (tTest (tOp rEq (tFld K (tVar 2) "kind") (tC (V.int ((3 : Nat) : Int)))))
          (tSeq (tDrop (tMeth R "take_out" (spRowDel R) [] E0 (tVar 4) (tCons (tFld K (tVar 2) "left") tNil))) (tDrop (tMeth C "go_on" (spGo C) [] E0 (tVar 2) (tCons (tFld K (tVar 2) "left") tNil))))
          (tDrop (tCall (spCC C R) [] E0 (tCons (tVar 2) (tCons (tVar 3) (tCons (tVar 4) tNil))))))
        { nx := fun σ' H'' => ∃ m', m' < mu ra rb ∧ ∃ (ra' rb' : Edit) (q' : Addr) (r' : RS), m' = mu ra' rb' ∧ σ' = [some (.ref a), some (.ref b), some (.ref f), some (.ref s), some (.ref p)] ∧ CS C R mm H H'' f s a b ea eb ra' rb' p l q' r' ∧ PosE ra' ∧ PosE rb' ∧ Sv17.behind ra' = Sv17.before rb' ∧ r'.Ok ∧ r'.tot + esz ra' + esz rb' ≤ esz ea + esz eb ∧ r'.run (CC ra' rb') = RS.init.run (CC ea eb), rt := Q,
          bk := fun _ _ => False, ct := fun _ _ => False } [some (.ref a), some (.ref b), some (.ref f), some (.ref s), some (.ref p)] H' := fun hne => by
      refine ⟨_, rfl, s, C, ds, _, _, rfl, hos, T.cl, T.n3, curF_kind .., rfl, _, rfl, keq (fun h2 => ?_) (fun h2 => ?_)⟩
      · -- the second puts in
        match rb, h2 with
        | .keep n :: t, h2 => cases h2
        | .del n :: t, h2 => cases h2
        | .ins c :: t, _ =>
          obtain ⟨ds, j, _, hos, _⟩ := S.cs.head
          have hc : 0 < c.length := prb.head
          refine ⟨_, rfl, p, dr, _, rfl, hor, rf_no (by decide +kernel), ?_⟩
          refine ⟨_, rfl, s, ds, _, rfl, hos, cf_no (by decide +kernel), _, rfl, s, C, ds, _, _, rfl, hos, T.cl, T.n4, curF_left .., ?_⟩
          refine ⟨s, b, eb, t, .ins c, c.length, rfl, S.cs, S.eb, S.p2, hc, Nat.le_refl _, fun H2 d c2 hd f2 nd => ?_⟩
          rw [rest_all (s := .ins c) (k := c.length) (Nat.le_refl _)] at c2
          have S2 := S.go2 c2 f2
          have hd : H2 d = some (.lst (bv c)) := by
            have : (dat (.ins c)).take c.length = c := List.take_length
            rw [this] at hd; exact hd
          rw [esz_cons] at htot
          have htot : r.tot + esz ra + (c.length + esz t) ≤ esz ea + esz eb := htot
          refine ⟨p, l, q, r, _, d, c, rfl, S2.row, hd, by omega, fun H3 r3 f3 => ?_⟩
          refine ⟨_, mu_r _ ra t, ra, t, q, r.ins c, rfl, rfl, S2.rw r3 (f3.mono (by simp)) (.inl rfl), pra, prb.tail, by rw [before_ins] at hf; exact hf, (op_flat (s := .ins c) hok hc).2, ?_, by rw [← cc_ins_run]; exact hrun⟩
          have := RS.tot_op r (.ins c)
          have this : (r.ins c).tot = r.tot + c.length := this
          omega
      · refine ⟨_, rfl, f, C, df, _, _, rfl, hof, T.cl, T.n3, curF_kind .., rfl, _, rfl, keq (fun h3 => ?_) (fun h3 => ?_)⟩
        · -- the first takes out
          match ra, h3 with
          | .keep n :: t, h3 => cases h3
          | .ins n :: t, h3 => cases h3
          | .del n :: t, _ =>
            obtain ⟨df, i, _, hof, _⟩ := S.cf.head
            have hc : 0 < n := pra.head
            refine ⟨_, rfl, p, dr, _, rfl, hor, rf_no (by decide +kernel), _, rfl, f, C, df, _, _, rfl, hof, T.cl, T.n4, curF_left .., ?_⟩
            refine ⟨p, l, q, r, _, n, rfl, S.row, fun H2 r2 f2 => ?_⟩
            have S2 := S.rw r2 (f2.mono (by simp)) (.inl rfl)
            obtain ⟨df2, i2, _, hof2, _⟩ := S2.cf.head
            refine ⟨_, rfl, f, df2, _, rfl, hof2, cf_no (by decide +kernel), _, rfl, f, C, df2, _, _, rfl, hof2, T.cl, T.n4, curF_left .., ?_⟩
            refine ⟨f, a, ea, t, .del n, n, rfl, S2.cf, S2.ea, S2.p1, hc, Nat.le_refl _, fun H3 d c3 hd f3 nd => ?_⟩
            rw [rest_all (s := .del n) (k := n) (Nat.le_refl _)] at c3
            have S3 := S2.go1 c3 f3
            rw [esz_cons] at htot
            have htot : r.tot + (n + esz t) + esz rb ≤ esz ea + esz eb := htot
            refine ⟨_, mu_l _ t rb, t, rb, q, r.del n, rfl, rfl, S3, pra.tail, prb, by rw [behind_del] at hf; exact hf, (op_flat (s := .del n) hok hc).2, ?_, by rw [cc_del] at hrun; exact hrun⟩
            have := RS.tot_op r (.del n)
            have this : (r.del n).tot = r.tot + n := this
            omega
        · -- both go on
          match ra, rb, h2, h3, hne with
          | [], [], _, _, hne => simp at hne
          | [], .ins c :: t, h2, _, _ => exact absurd rfl h2
          | [], .keep n :: t, _, _, _ => rw [behind_nil, before_keep] at hf; have : 0 < n := prb.head; omega
          | [], .del n :: t, _, _, _ => rw [behind_nil, before_del] at hf; have : 0 < n := prb.head; omega
          | .keep n :: t, [], _, _, _ => rw [before_nil, behind_keep] at hf; have : 0 < n := pra.head; omega
          | .ins n :: t, [], _, _, _ => rw [before_nil, behind_ins] at hf; have : 0 < n.length := pra.head; omega
          | .del n :: t, _, _, h3, _ => exact absurd rfl h3
          | x :: xs, y :: ys, h2, h3, _ =>
            have nx : isDel x = false := by cases x <;> first | rfl | exact absurd rfl h3
            have ny : isIns y = false := by cases y <;> first | rfl | exact absurd rfl h2
            rw [esz_cons, esz_cons] at htot
            refine ⟨_, rfl, _, rfl, _, rfl, mm, H, f, s, a, b, ea, eb, xs, ys, x, y, p, l, q, r, rfl, S, nx, ny, hok, by omega, fun H2 q2 S2 => ?_⟩
            have hx := pra.head
            have hy := prb.head
            have hh := hereC_pos (x := x) (y := y) hx hy
            have he := hereC_esz x y (min x.size y.size)
            rw [cc_both x y xs ys nx ny, run_append] at hrun
            rw [behind_cons, before_cons y, behind_one, before_one, nx, ny, if_neg Bool.false_ne_true, if_neg Bool.false_ne_true] at hf
            have mx : min x.size y.size ≤ x.size := Nat.min_le_left _ _
            have my : min x.size y.size ≤ y.size := Nat.min_le_right _ _
            refine ⟨_, mu_b x y xs ys, _, _, q2, _, rfl, rfl, S2, rest_app_pos pra, rest_app_pos prb, ?_, run_ok hok hh, ?_, hrun⟩
            · rw [behind_append, before_append, rest_behind x _ nx, rest_before y _ ny]; omega
            · rw [run_tot, esz_append, esz_append, rest_esz, rest_esz]; omega
    refine ⟨_, rfl, f, C, df, _, _, rfl, hof, T.cl, T.n3, curF_kind .., rfl, _, rfl, kne (fun h2 => ?_) (fun h2 => ?_)⟩
    · refine iteT ⟨_, fun σ' H'' z => z, ?_⟩
      exact turn (.inl fun z => h2 (by rw [z]; rfl))
    · refine ⟨_, rfl, s, C, ds, _, _, rfl, hos, T.cl, T.n3, curF_kind .., rfl, _, rfl, kne (fun h3 => ?_) (fun h3 => ?_)⟩
      · refine ⟨_, fun σ' H'' z => z, ?_⟩
        exact turn (.inr fun z => h3 (by rw [z]; rfl))
      · have e1 := kh_zero h2
        have e2 := kh_zero h3
        subst e1 e2
        have hrun : r = RS.init.run (CC ea eb) := hrun
        refine ⟨_, rfl, p, dr, _, rfl, hor, rf_no (by decide +kernel), p, l, q, r, _, rfl, S.row, by omega, fun H2 q2 r2 f2 hq2 ed => ?_⟩
        have hP := (cc_prop ea eb pa pb hfit).pos
        obtain ⟨ts, hl2, hp2⟩ := r2.lst
        have nr := r2.nr.2.1
        have ed2 : EditAt (wo H2 mm) l r.flat := ⟨ts, wo_at hl2 (fun z => nr (by simp [z])), Paired.mapP hp2 fun _ _ y => y.same (wo_mono (Frm.refl _ H2) fun b hb => .inl (by simp [hb]))⟩
        rw [hrun, run_formed hP] at ed2
        exact k l H2 (S.sm.frm f2 (by simp [S.np, S.nl])) ed2
end
end My
end
section
set_option Elab.async false
set_option linter.all false
set_option maxRecDepth 100000
set_option maxHeartbeats 2000000
namespace My
open PySem PySem.Spec PyProof.Rows L2
section
variable {P : Program} {w : World} {K : PySem.W.Frag} {mg : Str → Option Value} {base : Heap}
theorem RowAt.perm {R : Addr} {rest rest' : List Addr} {H : Hp} {p l q : Addr} {r : RS} (h : RowAt R rest H p l q r) (he : ∀ b, b ∈ rest' ↔ b ∈ rest) : RowAt R rest' H p l q r :=
  h.frame (n := []) (fun b o e _ => e) (by simp) (fun b hb => .inl ((he b).mp hb)) (fun b hb => h.trk b ((he b).mp hb))
/-! ### two cursors and two rows -/
structure TS (C R : Addr) (m : List Addr) (H0 H : Hp) (f s a b : Addr) (ea eb ra rb : Edit) (p1 l1 q1 : Addr) (r1 : RS) (p2 l2 q2 : Addr) (r2 : RS) : Prop where
  sm : Same H0 H
  e1 : EditAt H0 a ea
  e2 : EditAt H0 b eb
  o1 : PosE ea
  o2 : PosE eb
  nf : H0 f = none
  ns : H0 s = none
  np1 : H0 p1 = none
  nl1 : H0 l1 = none
  nq1 : H0 q1 = none
  np2 : H0 p2 = none
  nl2 : H0 l2 = none
  nq2 : H0 q2 = none
  ne : f ≠ s
  cf : CurAt C H f a ea ra
  cs : CurAt C H s b eb rb
  w1 : RowAt R (f :: s :: p2 :: l2 :: q2 :: m) H p1 l1 q1 r1
  w2 : RowAt R (f :: s :: p1 :: l1 :: q1 :: m) H p2 l2 q2 r2
  tm : ∀ b ∈ m, ∃ o, H0 b = some o
section
variable {C R : Addr} {m : List Addr} {H0 H H' : Hp} {f s a b : Addr} {ea eb ra rb ra' rb' : Edit} {p1 l1 q1 q1' : Addr} {r1 r1' : RS} {p2 l2 q2 q2' : Addr} {r2 r2' : RS}
theorem mem_sw {f s : Addr} {l : List Addr} (b : Addr) : b ∈ s :: f :: l ↔ b ∈ f :: s :: l := by
  simp only [List.mem_cons]
  constructor
  · rintro (z | z | z)
    · exact .inr (.inl z)
    · exact .inl z
    · exact .inr (.inr z)
  · rintro (z | z | z)
    · exact .inr (.inl z)
    · exact .inl z
    · exact .inr (.inr z)
theorem TS.swap (h : TS C R m H0 H f s a b ea eb ra rb p1 l1 q1 r1 p2 l2 q2 r2) : TS C R m H0 H s f b a eb ea rb ra p2 l2 q2 r2 p1 l1 q1 r1 :=
  ⟨h.sm, h.e2, h.e1, h.o2, h.o1, h.ns, h.nf, h.np2, h.nl2, h.nq2, h.np1, h.nl1, h.nq1, h.ne.symm, h.cs, h.cf, h.w2.perm mem_sw, h.w1.perm mem_sw, h.tm⟩
/-- tracked: the cursors, the other row's things, m -/
theorem trk5 {H : Hp} {m : List Addr} {x1 x2 x3 x4 x5 : Addr} (h1 : ∃ o, H x1 = some o) (h2 : ∃ o, H x2 = some o) (h3 : ∃ o, H x3 = some o) (h4 : ∃ o, H x4 = some o) (h5 : ∃ o, H x5 = some o) (hm : ∀ b ∈ m, ∃ o, H b = some o) : ∀ b ∈ x1 :: x2 :: x3 :: x4 :: x5 :: m, ∃ o, H b = some o := fun b hb => by
  simp only [List.mem_cons] at hb
  rcases hb with z | z | z | z | z | z
  · rw [z]; exact h1
  · rw [z]; exact h2
  · rw [z]; exact h3
  · rw [z]; exact h4
  · rw [z]; exact h5
  · exact hm b z
theorem RowAt.alltrk {R : Addr} {rest : List Addr} {H : Hp} {p l q : Addr} {r : RS} (h : RowAt R rest H p l q r) : (∃ o, H p = some o) ∧ (∃ o, H l = some o) ∧ (∃ o, H q = some o) := by
  obtain ⟨dx, ho⟩ := h.obj
  obtain ⟨ts, hl, _⟩ := h.lst
  exact ⟨⟨_, ho⟩, ⟨_, hl⟩, ⟨_, h.put⟩⟩
theorem TS.go1 (h : TS C R m H0 H f s a b ea eb ra rb p1 l1 q1 r1 p2 l2 q2 r2) (c : CurAt C H' f a ea ra') (fr : Frm [f] H H') : TS C R m H0 H' f s a b ea eb ra' rb p1 l1 q1 r1 p2 l2 q2 r2 := by
  have cs := h.cs.frame fr (by simpa using h.ne.symm)
  have n1 := h.w1.nr
  have n2 := h.w2.nr
  simp at n1 n2
  have t1 := h.w1.alltrk
  have t2 := h.w2.alltrk
  have keep : ∀ {x : Addr}, (∃ o, H x = some o) → ¬ x = f → ∃ o, H' x = some o := fun ⟨o, e⟩ n => ⟨o, fr _ _ e (by simpa using n)⟩
  have sm := h.sm.frm fr (by simpa using h.nf)
  have tm := tm_same h.tm sm
  exact { h with sm := sm, cf := c, cs := cs, w1 := h.w1.frame fr (by simp) (fun b hb => .inl hb) (trk5 c.trk cs.trk (keep t2.1 n2.2.2.1) (keep t2.2.1 n2.2.1.1) (keep t2.2.2 n2.1.1) tm), w2 := h.w2.frame fr (by simp) (fun b hb => .inl hb) (trk5 c.trk cs.trk (keep t1.1 n1.2.2.1) (keep t1.2.1 n1.2.1.1) (keep t1.2.2 n1.1.1) tm) }
theorem TS.go2 (h : TS C R m H0 H f s a b ea eb ra rb p1 l1 q1 r1 p2 l2 q2 r2) (c : CurAt C H' s b eb rb') (fr : Frm [s] H H') : TS C R m H0 H' f s a b ea eb ra rb' p1 l1 q1 r1 p2 l2 q2 r2 := (h.swap.go1 c fr).swap
theorem TS.rw1 (h : TS C R m H0 H f s a b ea eb ra rb p1 l1 q1 r1 p2 l2 q2 r2) (c : RowAt R (f :: s :: p2 :: l2 :: q2 :: m) H' p1 l1 q1' r1') (fr : Frm [p1, l1, q1] H H') (hq : q1' = q1 ∨ H q1' = none) : TS C R m H0 H' f s a b ea eb ra rb p1 l1 q1' r1' p2 l2 q2 r2 := by
  have nr := h.w1.nr
  simp at nr
  have cf := h.cf.frame fr (by simp; exact ⟨fun z => nr.2.2.1 z.symm, fun z => nr.2.1.1 z.symm, fun z => nr.1.1 z.symm⟩)
  have cs := h.cs.frame fr (by simp; exact ⟨fun z => nr.2.2.2.1 z.symm, fun z => nr.2.1.2.1 z.symm, fun z => nr.1.2.1 z.symm⟩)
  have t1 := c.alltrk
  have sm := h.sm.frm fr (by simp [h.np1, h.nl1, h.nq1])
  have tm := tm_same h.tm sm
  refine { h with sm := sm, nq1 := ?_, cf := cf, cs := cs, w1 := c, w2 := h.w2.frame fr (by simp) ?_ (trk5 cf.trk cs.trk t1.1 t1.2.1 t1.2.2 tm) }
  · rcases hq with z | z
    · rw [z]; exact h.nq1
    · exact h.sm.free z
  · intro b hb
    simp only [List.mem_cons] at hb
    rcases hb with z | z | z | z | z | z
    · simp [z]
    · simp [z]
    · simp [z]
    · simp [z]
    · rcases hq with y | y
      · simp [z, y]
      · right; rw [z]; exact y
    · simp [z]
theorem TS.rw2 (h : TS C R m H0 H f s a b ea eb ra rb p1 l1 q1 r1 p2 l2 q2 r2) (c : RowAt R (f :: s :: p1 :: l1 :: q1 :: m) H' p2 l2 q2' r2') (fr : Frm [p2, l2, q2] H H') (hq : q2' = q2 ∨ H q2' = none) : TS C R m H0 H' f s a b ea eb ra rb p1 l1 q1 r1 p2 l2 q2' r2' :=
  (h.swap.rw1 (c.perm mem_sw) fr hq).swap
theorem TS.eda (h : TS C R m H0 H f s a b ea eb ra rb p1 l1 q1 r1 p2 l2 q2 r2) : EditAt H a ea := h.e1.same h.sm
theorem TS.edb (h : TS C R m H0 H f s a b ea eb ra rb p1 l1 q1 r1 p2 l2 q2 r2) : EditAt H b eb := h.e2.same h.sm
end
def spTP (C R : Addr) : Sp := fun vs H Q _ => ∃ (m : List Addr) (H0 : Hp) (f s a b : Addr) (ea eb ra rb : Edit) (c : Bytes) (p1 l1 q1 : Addr) (r1 : RS) (p2 l2 q2 : Addr) (r2 : RS), vs = [.ref f, .ref p1, .ref p2] ∧ TS C R m H0 H f s a b ea eb (.ins c :: ra) rb p1 l1 q1 r1 p2 l2 q2 r2 ∧ 0 < c.length ∧ r1.Ok ∧ r2.Ok ∧ r1.tot + c.length + 3 ≤ sizeLine ∧ r2.tot + c.length + 3 ≤ sizeLine ∧
  ∀ (H' : Hp) (q2' : Addr), TS C R m H0 H' f s a b ea eb ra rb p1 l1 q1 (r1.ins c) p2 l2 q2' (r2.keep c.length) → Q .non H'
theorem sc_tp : FnScope ["cursor", "own_row", "other_row"] ["cursor", "own_row", "other_row"] (defScope s_turn_putting_in) := ⟨rfl, rfl, rfl, by decide +kernel, rfl, by decide +kernel, by decide +kernel⟩
theorem ok_tp {f0 C R : Addr} {fd : FuncData} (F : Fun K "turn_putting_in" "turn_putting_in" s_turn_putting_in f0 fd) (cC : CurCal P w K mg base C) (cR : RowCal P w K mg base R) : FnOk P w K mg base CX0 3 f0 fd ["cursor", "own_row", "other_row"] (spTP C R) := by
  refine F.ok sc_tp (fun vs H Q E h => ?_) (fun cdv A outer st H vs Q E hr h => ?_)
  · obtain ⟨m, H0, f, s, a, b, ea, eb, ra, rb, c, p1, l1, q1, r1, p2, l2, q2, r2, rfl, _⟩ := h
    rfl
  · obtain ⟨m, H0, f, s, a, b, ea, eb, ra, rb, c, p1, l1, q1, r1, p2, l2, q2, r2, rfl, S, hc, ok1, ok2, z1, z2, k⟩ := h
    have T := cC.txt
    have TR := cR.txt
    refine ⟨_, pss_cons (ps_expr (pm_call cR.keep TR.cl hr (pv 2) (pa_cons (pe_fld (pv 0) rfl) pa_nil))) (pss_one (ps_expr (pm_call cR.put TR.cl hr (pv 1) (pa_cons (pm_call cC.go T.cl hr (pv 0) (pa_cons (pe_fld (pv 0) rfl) pa_nil)) pa_nil)))), ?_⟩
    obtain ⟨dx, i, _, ho, _⟩ := S.cf.head
    obtain ⟨d2, ho2⟩ := S.w2.obj
    have l2' := ok2.len
    refine ⟨_, rfl, p2, d2, _, rfl, ho2, rf_no (by decide +kernel), _, rfl, f, C, dx, _, _, rfl, ho, T.cl, T.n4, curF_left .., ?_⟩
    refine ⟨p2, l2, q2, r2, _, c.length, rfl, S.w2, by omega, fun H1 q2' w1 f1 hq => ?_⟩
    have S1 := S.rw2 w1 (f1.mono (by simp)) hq
    obtain ⟨dx, i, _, ho, _⟩ := S1.cf.head
    obtain ⟨d1, ho1⟩ := S1.w1.obj
    refine ⟨_, rfl, p1, d1, _, rfl, ho1, rf_no (by decide +kernel), ?_⟩
    refine ⟨_, rfl, f, dx, _, rfl, ho, cf_no (by decide +kernel), _, rfl, f, C, dx, _, _, rfl, ho, T.cl, T.n4, curF_left .., ?_⟩
    refine ⟨f, a, ea, ra, .ins c, c.length, rfl, S1.cf, S1.eda, S1.o1, hc, Nat.le_refl _, fun H2 d c2 hd f2 nd => ?_⟩
    rw [rest_all (s := .ins c) (k := c.length) (Nat.le_refl _)] at c2
    have S2 := S1.go1 c2 f2
    have hd : H2 d = some (.lst (bv c)) := by
      have : (dat (.ins c)).take c.length = c := List.take_length
      rw [this] at hd; exact hd
    have hput : r1.put.length ≤ r1.tot := by unfold RS.tot; omega
    refine ⟨p1, l1, q1, r1, _, d, c, rfl, S2.w1, hd, by omega, fun H3 r3 f3 => ?_⟩
    exact k H3 q2' (S2.rw1 r3 (f3.mono (by simp)) (.inl rfl))
def spTC (C R : Addr) : Sp := fun vs H Q _ => ∃ (m : List Addr) (H0 : Hp) (f s a b : Addr) (ea eb ra rb : Edit) (x y : Step) (p1 l1 q1 : Addr) (r1 : RS) (p2 l2 q2 : Addr) (r2 : RS), vs = [.ref f, .ref s, .ref p1, .ref p2] ∧ TS C R m H0 H f s a b ea eb (x :: ra) (y :: rb) p1 l1 q1 r1 p2 l2 q2 r2 ∧ isIns x = false ∧ isIns y = false ∧ r1.Ok ∧ r2.Ok ∧ r1.tot + 3 ≤ sizeLine ∧ r2.tot + 3 ≤ sizeLine ∧
  ∀ (H' : Hp) (q1' q2' : Addr), TS C R m H0 H' f s a b ea eb (x.rest (min x.size y.size) ++ ra) (y.rest (min x.size y.size) ++ rb) p1 l1 q1' (r1.run (here1 x y (min x.size y.size))) p2 l2 q2' (r2.run (here2 x y (min x.size y.size))) → Q .non H'
theorem sc_tc : FnScope ["first", "second", "first_row", "second_row", "count", "first_kind", "second_kind"] ["first", "second", "first_row", "second_row"] (defScope s_turn_common) := ⟨rfl, rfl, rfl, by decide +kernel, rfl, by decide +kernel, by decide +kernel⟩
theorem ok_tc {f0 C R : Addr} {fd : FuncData} (F : Fun K "turn_common" "turn_common" s_turn_common f0 fd) (g1 : Glb mg "KEEP" (.int ((1 : Nat) : Int))) (gm : mg "min" = none) (cC : CurCal P w K mg base C) (cR : RowCal P w K mg base R) : FnOk P w K mg base CX0 3 f0 fd ["first", "second", "first_row", "second_row"] (spTC C R) := by
  refine F.ok sc_tc (fun vs H Q E h => ?_) (fun cdv A outer st H vs Q E hr h => ?_)
  · obtain ⟨m, H0, f, s, a, b, ea, eb, ra, rb, x, y, p1, l1, q1, r1, p2, l2, q2, r2, rfl, _⟩ := h
    rfl
  · obtain ⟨m, H0, f, s, a, b, ea, eb, ra, rb, x, y, p1, l1, q1, r1, p2, l2, q2, r2, rfl, S, nx, ny, ok1, ok2, z1, z2, k⟩ := h
    have T := cC.txt
    have TR := cR.txt
    refine ⟨_, pss_cons (ps_set (i := 4) sc_tc.nd rfl (Or.inl rfl) (pe_callB (call_min2 rfl) rfl gm boot_min (pa_cons (pe_fld (pv 0) rfl) (pa_cons (pe_fld (pv 1) rfl) pa_nil))))
      (pss_cons (ps_set (i := 5) sc_tc.nd rfl (Or.inl rfl) (pe_fld (pv 0) rfl))
      (pss_cons (ps_set (i := 6) sc_tc.nd rfl (Or.inl rfl) (pe_fld (pv 1) rfl))
      (pss_cons (ps_expr (pm_call cC.go T.cl hr (pv 0) (pa_cons (pv 4) pa_nil)))
      (pss_cons (ps_expr (pm_call cC.go T.cl hr (pv 1) (pa_cons (pv 4) pa_nil)))
      (pss_one (ps_if (PW.pt (pw_and (pt_cmpR op_eq (pv 5) (pg_glob g1) (nomark _)) (pw_and1 (pt_cmpR op_eq (pv 6) (pg_glob g1) (nomark _)))))
        (pss_cons (ps_expr (pm_call cR.keep TR.cl hr (pv 2) (pa_cons (pv 4) pa_nil))) (pss_one (ps_expr (pm_call cR.keep TR.cl hr (pv 3) (pa_cons (pv 4) pa_nil)))))
        (pss_one (ps_if (pt_cmpR op_eq (pv 6) (pg_glob g1) (nomark _))
          (pss_one (ps_expr (pm_call cR.del TR.cl hr (pv 2) (pa_cons (pv 4) pa_nil))))
          (pss_one (ps_if (pt_cmpR op_eq (pv 5) (pg_glob g1) (nomark _))
            (pss_one (ps_expr (pm_call cR.del TR.cl hr (pv 3) (pa_cons (pv 4) pa_nil)))) pss_nil)))))))))), ?_⟩
    obtain ⟨dx, i, s1, ho, _, _, hx0, _⟩ := S.cf.head
    obtain ⟨dy, j, s2, ho2, _, _, hy0, _⟩ := S.cs.head
    refine ⟨_, rfl, f, C, dx, _, _, rfl, ho, T.cl, T.n4, curF_left .., _, rfl, s, C, dy, _, _, rfl, ho2, T.cl, T.n4, curF_left .., _, _, rfl, ?_⟩
    rw [min_ite]
    have hk0 : 0 < min x.size y.size := by omega
    have hkx : min x.size y.size ≤ x.size := Nat.min_le_left _ _
    have hky : min x.size y.size ≤ y.size := Nat.min_le_right _ _
    generalize hkk : min x.size y.size = n at k hk0 hkx hky ⊢
    refine ⟨_, rfl, f, C, dx, _, _, rfl, ho, T.cl, T.n3, curF_kind .., ?_⟩
    refine ⟨_, rfl, s, C, dy, _, _, rfl, ho2, T.cl, T.n3, curF_kind .., ?_⟩
    refine ⟨_, rfl, f, dx, _, rfl, ho, cf_no (by decide +kernel), _, rfl, f, a, ea, ra, x, n, rfl, S.cf, S.eda, S.o1, hk0, hkx, fun H1 d c1 hd f1 nd => ?_⟩
    have S1 := S.go1 c1 f1
    obtain ⟨dy1, j1, _, ho3, _⟩ := S1.cs.head
    refine ⟨_, rfl, s, dy1, _, rfl, ho3, cf_no (by decide +kernel), _, rfl, s, b, eb, rb, y, n, rfl, S1.cs, S1.edb, S1.o2, hk0, hky, fun H2 d2 c2 hd2 f2 nd2 => ?_⟩
    have S2 := S1.go2 c2 f2
    obtain ⟨dr1, hor1⟩ := S2.w1.obj
    obtain ⟨dr2, hor2⟩ := S2.w2.obj
    have hlen1 := ok1.len
    have hlen2 := ok2.len
    refine ⟨_, rfl, rfl, _, rfl, keq (fun hx => ?_) (fun hx => ?_)⟩
    · refine ⟨_, rfl, rfl, _, rfl, keq (fun hy => ?_) (fun hy => ?_)⟩
      · refine ⟨_, rfl, p1, dr1, _, rfl, hor1, rf_no (by decide +kernel), _, rfl, p1, l1, q1, r1, _, n, rfl, S2.w1, by omega, fun H3 q3 r3 f3 hq3 => ?_⟩
        have S3 := S2.rw1 r3 (f3.mono (by simp)) hq3
        obtain ⟨dr2, hor2⟩ := S3.w2.obj
        refine ⟨_, rfl, p2, dr2, _, rfl, hor2, rf_no (by decide +kernel), _, rfl, p2, l2, q2, r2, _, n, rfl, S3.w2, by omega, fun H4 q4 r4 f4 hq4 => ?_⟩
        have S4 := S3.rw2 r4 (f4.mono (by simp)) hq4
        refine k H4 q3 q4 ?_
        match x, y, nx, ny, hx, hy with
        | .keep _, .keep _, _, _, _, _ => exact S4
      · refine ⟨_, rfl, rfl, _, rfl, keq (fun z => absurd z hy) (fun _ => ⟨_, rfl, rfl, _, rfl, keq (fun _ => ?_) (fun z => absurd hx z)⟩)⟩
        refine ⟨_, rfl, p2, dr2, _, rfl, hor2, rf_no (by decide +kernel), _, rfl, p2, l2, q2, r2, _, n, rfl, S2.w2, fun H4 r4 f4 => ?_⟩
        have S4 := S2.rw2 r4 (f4.mono (by simp)) (.inl rfl)
        refine k H4 q1 q2 ?_
        match x, y, nx, ny, hx, hy with
        | .keep _, .del _, _, _, _, _ => exact S4
        | .keep _, .keep _, _, _, _, hy => exact absurd rfl hy
    · refine iteF ⟨_, rfl, rfl, _, rfl, keq (fun hy => ?_) (fun hy => ⟨_, rfl, rfl, _, rfl, keq (fun z => absurd z hx) (fun _ => ?_)⟩)⟩
      · refine ⟨_, rfl, p1, dr1, _, rfl, hor1, rf_no (by decide +kernel), _, rfl, p1, l1, q1, r1, _, n, rfl, S2.w1, fun H4 r4 f4 => ?_⟩
        have S4 := S2.rw1 r4 (f4.mono (by simp)) (.inl rfl)
        refine k H4 q1 q2 ?_
        match x, y, nx, ny, hx, hy with
        | .del _, .keep _, _, _, _, _ => exact S4
        | .keep _, _, _, _, hx, _ => exact absurd rfl hx
      · refine k H2 q1 q2 ?_
        match x, y, nx, ny, hx, hy with
        | .del _, .del _, _, _, _, _ => exact S2
        | .keep _, _, _, _, hx, _ => exact absurd rfl hx
        | .del _, .keep _, _, _, _, hy => exact absurd rfl hy
end
end My
end
section
set_option Elab.async false
set_option linter.all false
set_option maxRecDepth 100000
set_option maxHeartbeats 2000000
namespace My
open PySem PySem.Spec PyProof.Rows L2
section
variable {P : Program} {w : World} {K : PySem.W.Frag} {mg : Str → Option Value} {base : Heap}
theorem RowAt.editW {R : Addr} {rest m : List Addr} {H : Hp} {p l q : Addr} {r : RS} (h : RowAt R rest H p l q r) (hm : ∀ b ∈ m, b ∈ rest) : EditAt (wo H m) l r.closed := by
  obtain ⟨ts, hl, hp⟩ := h.lst
  exact ⟨ts, wo_at hl (fun z => h.nr.2.1 (hm _ z)), Paired.mapP hp fun _ _ y => y.same (wo_mono (Frm.refl _ H) fun b hb => .inl (by simp [hm b hb]))⟩
theorem RowAt.edit {R : Addr} {rest : List Addr} {H : Hp} {p l q : Addr} {r : RS} (h : RowAt R rest H p l q r) : EditAt H l r.closed := by
  obtain ⟨ts, hl, hp⟩ := h.lst
  exact ⟨ts, hl, Paired.mapP hp fun _ _ y => y.same (wo_sub _ _)⟩
def spTrn : Sp := fun vs H Q _ => ∃ (a b : Addr) (ea eb : Edit) (m : List Addr), vs = [.ref a, .ref b] ∧ (∀ c ∈ m, ∃ o, H c = some o) ∧ EditAt H a ea ∧ EditAt H b eb ∧ PosE ea ∧ PosE eb ∧ Sv17.before ea = Sv17.before eb ∧ esz ea + esz eb + 3 ≤ sizeLine ∧
  ∀ (t u v : Addr) (H' : Hp), Same H H' → H' t = some (.tup [.ref u, .ref v]) → EditAt (wo H' m) u (Sv17.turn ea eb).1 → EditAt (wo H' m) v (Sv17.turn ea eb).2 → Q (.ref t) H'
theorem sc_trn : FnScope ["a", "b", "first", "second", "first_row", "second_row"] ["a", "b"] (defScope s_turned) := ⟨rfl, rfl, rfl, by decide +kernel, rfl, by decide +kernel, by decide +kernel⟩
theorem ok_trn {f0 C R : Addr} {fd : FuncData} (F : Fun K "turned" "turned" s_turned f0 fd) (g0 : Glb mg "NO_STEP" (.int ((0 : Nat) : Int))) (g2 : Glb mg "PUT_IN" (.int ((2 : Nat) : Int))) (cC : CurCal P w K mg base C) (cR : RowCal P w K mg base R)
    (cp : Cal P w K mg base "turn_putting_in" 3 ["cursor", "own_row", "other_row"] (spTP C R)) (cc : Cal P w K mg base "turn_common" 3 ["first", "second", "first_row", "second_row"] (spTC C R)) : FnOk P w K mg base CX0 4 f0 fd ["a", "b"] spTrn := by
  refine F.ok sc_trn (fun vs H Q E h => ?_) (fun cdv A outer st H vs Q E hr h => ?_)
  · obtain ⟨a, b, ea, eb, mm, rfl, _⟩ := h
    rfl
  · obtain ⟨a, b, ea, eb, mm, rfl, tm, he, hb, pa, pb, hfit, hz, k⟩ := h
    have T := cC.txt
    have TR := cR.txt
    refine ⟨_, pss_cons (ps_set (i := 2) sc_trn.nd rfl (Or.inl rfl) (pi_call cC.init hr (pa_cons (pv 0) pa_nil)))
      (pss_cons (ps_set (i := 3) sc_trn.nd rfl (Or.inl rfl) (pi_call cC.init hr (pa_cons (pv 1) pa_nil)))
      (pss_cons (ps_set (i := 4) sc_trn.nd rfl (Or.inl rfl) (pi_call0 cR.init hr))
      (pss_cons (ps_set (i := 5) sc_trn.nd rfl (Or.inl rfl) (pi_call0 cR.init hr))
      (pss_cons (ps_while PassesOwn.never (PW.pt (pw_or (pt_cmpR op_ne (pe_fld (pv 2) rfl) (pg_glob g0) (nomark _)) (pw_or1 (pt_cmpR op_ne (pe_fld (pv 3) rfl) (pg_glob g0) (nomark _)))))
        (pss_one (ps_if (pt_cmpR op_eq (pe_fld (pv 2) rfl) (pg_glob g2) (nomark _))
          (pss_one (ps_expr (pc_call cp hr (pa_cons (pv 2) (pa_cons (pv 4) (pa_cons (pv 5) pa_nil))))))
          (pss_one (ps_if (pt_cmpR op_eq (pe_fld (pv 3) rfl) (pg_glob g2) (nomark _))
            (pss_one (ps_expr (pc_call cp hr (pa_cons (pv 3) (pa_cons (pv 5) (pa_cons (pv 4) pa_nil))))))
            (pss_one (ps_expr (pc_call cc hr (pa_cons (pv 2) (pa_cons (pv 3) (pa_cons (pv 4) (pa_cons (pv 5) pa_nil))))))))))))
      (pss_one (ps_ret (pe_tup (pa_cons (pm_call0 cR.fin TR.cl hr (pv 4)) (pa_cons (pm_call0 cR.fin TR.cl hr (pv 5)) pa_nil))))))))), ?_⟩
    refine ⟨_, rfl, ?_⟩
    intro f dxf nf ndxf nexf
    refine cur_new nf ndxf nexf he pa fun H1 c1 s1 => ?_
    refine ⟨_, rfl, ?_⟩
    intro s dxs ns ndxs nexs
    refine cur_new ns ndxs nexs (hb.same s1) pb fun H2 c2 s2 => ?_
    intro p1 dx1 np1 ndx1 nex1
    refine row_new np1 ndx1 nex1 fun l1 q1 H3 r3 s3 nl1 nq1 => ?_
    intro p2 dx2 np2 ndx2 nex2
    refine row_new np2 ndx2 nex2 fun l2 q2 H4 r4 s4 nl2 nq2 => ?_
    have fr0 : ∀ {G G' : Hp}, Same G G' → Frm [] G G' := fun z b o e _ => z b o e
    have cf4 := ((c1.frame (fr0 s2) (by simp)).frame (fr0 s3) (by simp)).frame (fr0 s4) (by simp)
    have cs4 := (c2.frame (fr0 s3) (by simp)).frame (fr0 s4) (by simp)
    have s12 := s1.trans s2
    have s13 := s12.trans s3
    have s14 := s13.trans s4
    have fs : f ≠ s := fun z => by
      obtain ⟨o, y⟩ := c1.trk
      rw [← z, y] at ns; cases ns
    have c13 := (c1.frame (fr0 s2) (by simp)).frame (fr0 s3) (by simp)
    have c23 := c2.frame (fr0 s3) (by simp)
    have w1 : RowAt R (f :: s :: mm) H3 p1 l1 q1 RS.init := r3 (f :: s :: mm) (fun b hb => by
      rcases List.mem_cons.mp hb with z | z
      · rw [z]; exact (c1.frame (fr0 s2) (by simp)).trk
      · rcases List.mem_cons.mp z with z | z
        · rw [z]; exact c2.trk
        · exact tm_same tm s12 b z)
    have t1 := w1.alltrk
    have w2 : RowAt R (f :: s :: p1 :: l1 :: q1 :: mm) H4 p2 l2 q2 RS.init := r4 _ (trk5 c13.trk c23.trk t1.1 t1.2.1 t1.2.2 (tm_same tm s13))
    have t2 := w2.alltrk
    have w1' : RowAt R (f :: s :: p2 :: l2 :: q2 :: mm) H4 p1 l1 q1 RS.init := w1.frame (n := []) (fr0 s4) (by simp) (by
      intro b hb
      simp only [List.mem_cons] at hb
      rcases hb with z | z | z | z | z | z
      · simp [z]
      · simp [z]
      · right; rw [z]; exact np2
      · right; rw [z]; exact nl2
      · right; rw [z]; exact nq2
      · simp [z]) (trk5 cf4.trk cs4.trk t2.1 t2.2.1 t2.2.2 (tm_same tm s14))
    have S0 : TS C R mm H H4 f s a b ea eb ea eb p1 l1 q1 RS.init p2 l2 q2 RS.init := ⟨s14, he, hb, pa, pb, nf, s1.free ns, s12.free np1, s12.free nl1, s12.free nq1, s13.free np2, s13.free nl2, s13.free nq2, fs, cf4, cs4, w1', w2, tm⟩
    refine ⟨fun m σ H' => ∃ (ra rb : Edit) (q1 q2 : Addr) (r1 r2 : RS), m = mu ra rb ∧ σ = [some (.ref a), some (.ref b), some (.ref f), some (.ref s), some (.ref p1), some (.ref p2)] ∧ TS C R mm H H' f s a b ea eb ra rb p1 l1 q1 r1 p2 l2 q2 r2 ∧ PosE ra ∧ PosE rb ∧ Sv17.before ra = Sv17.before rb ∧ r1.Ok ∧ r2.Ok ∧ r1.tot + esz ra + esz rb ≤ esz ea + esz eb ∧ r2.tot + esz ra + esz rb ≤ esz ea + esz eb ∧ r1.run (TT ra rb).1 = RS.init.run (TT ea eb).1 ∧ r2.run (TT ra rb).2 = RS.init.run (TT ea eb).2,
      ⟨_, ea, eb, q1, q2, RS.init, RS.init, rfl, rfl, S0, pa, pb, hfit, RS.Ok.init, RS.Ok.init, (by show 0 + _ + _ ≤ _; omega), (by show 0 + _ + _ ≤ _; omega), rfl, rfl⟩, ?_⟩
    rintro m σ H' ⟨ra, rb, q1, q2, r1, r2, rfl, rfl, S, pra, prb, hf, ok1, ok2, ht1, ht2, hr1, hr2⟩
    have hlen1 := ok1.len
    have hlen2 := ok2.len
    obtain ⟨df, i, nf', hof⟩ := S.cf.any
    obtain ⟨ds, j, ns', hos⟩ := S.cs.any
    have turn : (ra ≠ [] ∨ rb ≠ []) → tIfS (tTest (tOp rEq (tFld K (tVar 2) "kind") (tC (V.int ((2 : Nat) : Int)))))
        (tDrop (tCall (spTP C R) [] E0 (tCons (tVar 2) (tCons (tVar 4) (tCons (tVar 5) tNil)))))
        (tIfS (tTest (tOp rEq (tFld K (tVar 3) "kind") (tC (V.int ((2 : Nat) : Int)))))
          (tDrop (tCall (spTP C R) [] E0 (tCons (tVar 3) (tCons (tVar 5) (tCons (tVar 4) tNil)))))
          (tDrop (tCall (spTC C R) [] E0 (tCons (tVar 2) (tCons (tVar 3) (tCons (tVar 4) (tCons (tVar 5) tNil)))))))
        { nx := fun σ' H'' => ∃ m', m' < mu ra rb ∧ ∃ (ra' rb' : Edit) (q1 q2 : Addr) (r1 r2 : RS), m' = mu ra' rb' ∧ σ' = [some (.ref a), some (.ref b), some (.ref f), some (.ref s), some (.ref p1), some (.ref p2)] ∧ TS C R mm H H'' f s a b ea eb ra' rb' p1 l1 q1 r1 p2 l2 q2 r2 ∧ PosE ra' ∧ PosE rb' ∧ Sv17.before ra' = Sv17.before rb' ∧ r1.Ok ∧ r2.Ok ∧ r1.tot + esz ra' + esz rb' ≤ esz ea + esz eb ∧ r2.tot + esz ra' + esz rb' ≤ esz ea + esz eb ∧ r1.run (TT ra' rb').1 = RS.init.run (TT ea eb).1 ∧ r2.run (TT ra' rb').2 = RS.init.run (TT ea eb).2, rt := Q,
          bk := fun _ _ => False, ct := fun _ _ => False } [some (.ref a), some (.ref b), some (.ref f), some (.ref s), some (.ref p1), some (.ref p2)] H' := fun hne => by
      refine ⟨_, rfl, f, C, df, _, _, rfl, hof, T.cl, T.n3, curF_kind .., rfl, _, rfl, keq (fun h2 => ?_) (fun h2 => ?_)⟩
      · match ra, h2 with
        | .keep n :: t, h2 => cases h2
        | .del n :: t, h2 => cases h2
        | .ins c :: t, _ =>
          have hc : 0 < c.length := pra.head
          rw [esz_cons] at ht1 ht2
          have ht1 : r1.tot + (c.length + esz t) + esz rb ≤ esz ea + esz eb := ht1
          have ht2 : r2.tot + (c.length + esz t) + esz rb ≤ esz ea + esz eb := ht2
          refine ⟨_, rfl, _, rfl, _, rfl, mm, H, f, s, a, b, ea, eb, t, rb, c, p1, l1, q1, r1, p2, l2, q2, r2, rfl, S, hc, ok1, ok2, by omega, by omega, fun H5 q2' S5 => ?_⟩
          rw [tt_ins1] at hr1 hr2
          have e1 : (r1.ins c).tot = r1.tot + c.length := RS.tot_op r1 (.ins c)
          have e2 : (r2.keep c.length).tot = r2.tot + c.length := RS.tot_op r2 (.keep c.length)
          exact ⟨_, mu_l _ t rb, t, rb, q1, q2', _, _, rfl, rfl, S5, pra.tail, prb, by rw [before_ins] at hf; exact hf, (op_flat (s := .ins c) ok1 hc).2, (op_flat (s := .keep c.length) ok2 hc).2, by omega, by omega, hr1, hr2⟩
      · refine ⟨_, rfl, s, C, ds, _, _, rfl, hos, T.cl, T.n3, curF_kind .., rfl, _, rfl, keq (fun h3 => ?_) (fun h3 => ?_)⟩
        · match rb, h3 with
          | .keep n :: t, h3 => cases h3
          | .del n :: t, h3 => cases h3
          | .ins c :: t, _ =>
            have hc : 0 < c.length := prb.head
            have hni : notIns ra := by
              match ra, h2 with
              | [], _ => trivial
              | .keep n :: t, _ => trivial
              | .del n :: t, _ => trivial
              | .ins n :: t, h2 => exact absurd rfl h2
            rw [esz_cons] at ht1 ht2
            have ht1 : r1.tot + esz ra + (c.length + esz t) ≤ esz ea + esz eb := ht1
            have ht2 : r2.tot + esz ra + (c.length + esz t) ≤ esz ea + esz eb := ht2
            refine ⟨_, rfl, _, rfl, _, rfl, mm, H, s, f, b, a, eb, ea, t, ra, c, p2, l2, q2, r2, p1, l1, q1, r1, rfl, S.swap, hc, ok2, ok1, by omega, by omega, fun H5 q1' S5 => ?_⟩
            rw [tt_ins2 hni] at hr1 hr2
            have e1 : (r2.ins c).tot = r2.tot + c.length := RS.tot_op r2 (.ins c)
            have e2 : (r1.keep c.length).tot = r1.tot + c.length := RS.tot_op r1 (.keep c.length)
            exact ⟨_, mu_r _ ra t, ra, t, q1', q2, _, _, rfl, rfl, S5.swap, pra, prb.tail, by rw [before_ins] at hf; exact hf, (op_flat (s := .keep c.length) ok1 hc).2, (op_flat (s := .ins c) ok2 hc).2, by omega, by omega, hr1, hr2⟩
        · match ra, rb, h2, h3, hne with
          | [], [], _, _, hne => simp at hne
          | [], .ins c :: t, _, h3, _ => exact absurd rfl h3
          | [], .keep n :: t, _, _, _ => rw [before_nil, before_keep] at hf; have : 0 < n := prb.head; omega
          | [], .del n :: t, _, _, _ => rw [before_nil, before_del] at hf; have : 0 < n := prb.head; omega
          | .keep n :: t, [], _, _, _ => rw [before_nil, before_keep] at hf; have : 0 < n := pra.head; omega
          | .del n :: t, [], _, _, _ => rw [before_nil, before_del] at hf; have : 0 < n := pra.head; omega
          | .ins n :: t, _, h2, _, _ => exact absurd rfl h2
          | x :: xs, y :: ys, h2, h3, _ =>
            have nx : isIns x = false := by cases x <;> first | rfl | exact absurd rfl h2
            have ny : isIns y = false := by cases y <;> first | rfl | exact absurd rfl h3
            rw [esz_cons, esz_cons] at ht1 ht2
            refine ⟨_, rfl, _, rfl, _, rfl, _, rfl, mm, H, f, s, a, b, ea, eb, xs, ys, x, y, p1, l1, q1, r1, p2, l2, q2, r2, rfl, S, nx, ny, ok1, ok2, by omega, by omega, fun H5 q1' q2' S5 => ?_⟩
            have hx := pra.head
            have hy := prb.head
            have he1 := here1_esz x y (min x.size y.size)
            have he2 := here2_esz x y (min x.size y.size)
            rw [tt_both x y xs ys nx ny] at hr1 hr2
            have hr1 := hr1
            have hr2 := hr2
            simp only [run_append] at hr1 hr2
            rw [before_cons x, before_cons y, before_one, before_one, nx, ny, if_neg Bool.false_ne_true, if_neg Bool.false_ne_true] at hf
            have mx : min x.size y.size ≤ x.size := Nat.min_le_left _ _
            have my : min x.size y.size ≤ y.size := Nat.min_le_right _ _
            refine ⟨_, mu_b x y xs ys, _, _, q1', q2', _, _, rfl, rfl, S5, rest_app_pos pra, rest_app_pos prb, ?_, run_ok ok1 (here1_pos hx hy), run_ok ok2 (here2_pos hx hy), ?_, ?_, hr1, hr2⟩
            · rw [before_append, before_append, rest_before x _ nx, rest_before y _ ny]; omega
            · rw [run_tot, esz_append, esz_append, rest_esz, rest_esz]; omega
            · rw [run_tot, esz_append, esz_append, rest_esz, rest_esz]; omega
    refine ⟨_, rfl, f, C, df, _, _, rfl, hof, T.cl, T.n3, curF_kind .., rfl, _, rfl, kne (fun h2 => ?_) (fun h2 => ?_)⟩
    · refine iteT ⟨_, fun σ' H'' z => z, ?_⟩
      exact turn (.inl fun z => h2 (by rw [z]; rfl))
    · refine ⟨_, rfl, s, C, ds, _, _, rfl, hos, T.cl, T.n3, curF_kind .., rfl, _, rfl, kne (fun h3 => ?_) (fun h3 => ?_)⟩
      · refine ⟨_, fun σ' H'' z => z, ?_⟩
        exact turn (.inr fun z => h3 (by rw [z]; rfl))
      · have e1 := kh_zero h2
        have e2 := kh_zero h3
        subst e1 e2
        have hr1 : r1 = RS.init.run (TT ea eb).1 := hr1
        have hr2 : r2 = RS.init.run (TT ea eb).2 := hr2
        obtain ⟨dr1, hor1⟩ := S.w1.obj
        refine ⟨_, rfl, p1, dr1, _, rfl, hor1, rf_no (by decide +kernel), p1, l1, q1, r1, _, rfl, S.w1, by omega, fun H5 q5 r5 f5 hq5 ed5 => ?_⟩
        have S5 := S.rw1 r5 (f5.mono (by simp)) (.inr hq5)
        obtain ⟨dr2, hor2⟩ := S5.w2.obj
        refine ⟨_, rfl, p2, dr2, _, rfl, hor2, rf_no (by decide +kernel), p2, l2, q2, r2, _, rfl, S5.w2, by omega, fun H6 q6 r6 f6 hq6 ed6 => ?_⟩
        have S6 := S5.rw2 r6 (f6.mono (by simp)) (.inr hq6)
        refine ⟨(by show 2 ≤ sizeLine; decide), fun t ht => ?_⟩
        have tp := tt_prop ea eb pa pb hfit
        have E1 : EditAt (wo H6 mm) l1 (Sv17.turn ea eb).1 := by
          have := S6.w1.editW (m := mm) (fun b hb => by simp [hb])
          rw [show RS.closed r1.close = r1.flat from rfl, hr1, run_formed tp.pos1] at this
          exact this
        have E2 : EditAt (wo H6 mm) l2 (Sv17.turn ea eb).2 := by
          have := S6.w2.editW (m := mm) (fun b hb => by simp [hb])
          rw [show RS.closed r2.close = r2.flat from rfl, hr2, run_formed tp.pos2] at this
          exact this
        exact k t l1 l2 _ (S6.sm.trans (same_upd ht)) upd_same (E1.same (wo_same (Frm.of_same (same_upd ht)))) (E2.same (wo_same (Frm.of_same (same_upd ht))))
end
end My
end
section
set_option Elab.async false
set_option linter.all false
set_option maxRecDepth 100000
set_option maxHeartbeats 2000000
namespace My
open PySem PySem.Spec PyProof.Rows L2
section
variable {P : Program} {w : World} {K : PySem.W.Frag} {mg : Str → Option Value} {base : Heap}
/-! ### refusals -/
def AnsAt (H : Hp) (p : Addr) (x : Sv17.Ans) : Prop := H p = some (.lst (.int x.v :: bv x.l))
def spBel : Sp := fun vs H Q _ => ∃ (a : Addr) (b : Bytes), vs = [.ref a] ∧ H a = some (.lst (bv b)) ∧ b.length ≤ 1048576 ∧ Q (.bl false) H
theorem sc_bel : FnScope ["numbers"] ["numbers"] (defScope s_bad_edit_length) := ⟨rfl, rfl, rfl, by decide +kernel, rfl, by decide +kernel, by decide +kernel⟩
theorem ok_bel {f : Addr} {fd : FuncData} (F : Fun K "bad_edit_length" "bad_edit_length" s_bad_edit_length f fd) (g : Glb mg "LONGEST_EDIT_BYTES" (.int 1048576)) (gl : mg "len" = none) : FnOk P w K mg base CX0 1 f fd ["numbers"] spBel := by
  refine F.ok sc_bel (fun vs H Q E h => ?_) (fun cdv A outer s H vs Q E hr h => ?_)
  · obtain ⟨a, b, rfl, _⟩ := h
    rfl
  · obtain ⟨a, b, rfl, h1, hz, k⟩ := h
    refine ⟨_, pss_one (ps_ret (pe_cmpR op_gt (pe_callB call_len_seq rfl gl PySem.boot_len (pa_cons (pv 0) pa_nil)) (pg_glob g) (nomark _))), ?_⟩
    refine ⟨_, rfl, a, _, rfl, .inl (SqL.of h1), _, _, rfl, rfl, ?_⟩
    show Q (V.bl (decide ((1048576 : Int) < ((bv b).length : Int)))) H
    rw [bv_len, decide_eq_false (by omega)]
    exact k
def spBtl : Sp := fun vs H Q _ => ∃ (a : Addr) (b : Bytes), vs = [.ref a] ∧ H a = some (.lst (bv b)) ∧ b.length ≤ 65536 ∧ Q (.bl false) H
theorem sc_btl : FnScope ["text"] ["text"] (defScope s_bad_text_length) := ⟨rfl, rfl, rfl, by decide +kernel, rfl, by decide +kernel, by decide +kernel⟩
theorem ok_btl {f : Addr} {fd : FuncData} (F : Fun K "bad_text_length" "bad_text_length" s_bad_text_length f fd) (g : Glb mg "LONGEST_TEXT" (.int 65536)) (gl : mg "len" = none) : FnOk P w K mg base CX0 1 f fd ["text"] spBtl := by
  refine F.ok sc_btl (fun vs H Q E h => ?_) (fun cdv A outer s H vs Q E hr h => ?_)
  · obtain ⟨a, b, rfl, _⟩ := h
    rfl
  · obtain ⟨a, b, rfl, h1, hz, k⟩ := h
    refine ⟨_, pss_one (ps_ret (pe_cmpR op_gt (pe_callB call_len_seq rfl gl PySem.boot_len (pa_cons (pv 0) pa_nil)) (pg_glob g) (nomark _))), ?_⟩
    refine ⟨_, rfl, a, _, rfl, .inl (SqL.of h1), _, _, rfl, rfl, ?_⟩
    show Q (V.bl (decide ((65536 : Int) < ((bv b).length : Int)))) H
    rw [bv_len, decide_eq_false (by omega)]
    exact k
def spCnt : Sp := fun vs H Q _ => ∃ (a : Addr) (b : Bytes) (most : Int), vs = [.ref a, .int most] ∧ H a = some (.lst (bv b)) ∧ b.length < sizeLine ∧ ∀ (p : Addr) (H' : Hp), Same H H' → H p = none → AnsAt H' p (Sv17.fits most b) → Q (.ref p) H'
theorem sc_cnt : FnScope ["numbers", "most"] ["numbers", "most"] (defScope s_counted) := ⟨rfl, rfl, rfl, by decide +kernel, rfl, by decide +kernel, by decide +kernel⟩
theorem ok_cnt {f : Addr} {fd : FuncData} (F : Fun K "counted" "counted" s_counted f fd) (g : Glb mg "MORE_THAN_MOST" (.int (-7))) (gl : mg "len" = none) : FnOk P w K mg base CX0 1 f fd ["numbers", "most"] spCnt := by
  refine F.ok sc_cnt (fun vs H Q E h => ?_) (fun cdv A outer s H vs Q E hr h => ?_)
  · obtain ⟨a, b, most, rfl, _⟩ := h
    rfl
  · obtain ⟨a, b, most, rfl, h1, hz, k⟩ := h
    refine ⟨_, pss_cons (ps_if (pt_cmpR op_gt (pe_callB call_len_seq rfl gl PySem.boot_len (pa_cons (pv 0) pa_nil)) (pv 1) (nomark _)) (pss_one (ps_ret (pe_lst (pa_cons (pg_glob g) pa_nil)))) pss_nil)
      (pss_one (ps_ret (pe_op op_cat (pe_lst (pa_cons (pe_callB call_len_seq rfl gl PySem.boot_len (pa_cons (pv 0) pa_nil)) pa_nil)) (pv 0)))), ?_⟩
    refine ⟨_, rfl, a, _, rfl, .inl (SqL.of h1), _, rfl, _, _, rfl, rfl, _, rfl, ite2 (fun c => ?_) (fun c => ?_)⟩
    · have c : most < (b.length : Int) := by rw [bv_len] at c; simpa using c
      refine ⟨(by show 1 ≤ sizeLine; decide), fun p hp => ?_⟩
      refine k p _ (same_upd hp) hp ?_
      unfold AnsAt Sv17.fits
      rw [if_pos c, upd_same]
      rfl
    · have c : ¬ most < (b.length : Int) := by rw [bv_len] at c; simpa using c
      refine ⟨_, rfl, a, _, rfl, .inl (SqL.of h1), (by show 1 ≤ sizeLine; decide), fun p hp => ?_⟩
      refine ⟨_, rfl, p, a, _, _, rfl, rfl, upd_same, same_upd hp _ _ h1, ?_, fun q hq => ?_⟩
      · rw [bv_len]; show 1 + _ ≤ _; omega
      refine k q _ ((same_upd hp).trans (same_upd hq)) (Same.free (same_upd hp) hq) ?_
      unfold AnsAt Sv17.fits
      rw [if_neg c, upd_same, bv_len]
      rfl
/-! ### the calls that are each by themselves -/
structure EdCal (P : Program) (w : World) (K : PySem.W.Frag) (mg : Str → Option Value) (base : Heap) : Prop where
  bel : Cal P w K mg base "bad_edit_length" 1 ["numbers"] spBel
  btl : Cal P w K mg base "bad_text_length" 1 ["text"] spBtl
  cnt : Cal P w K mg base "counted" 1 ["numbers", "most"] spCnt
  efb : Cal P w K mg base "edit_from_bytes" 3 ["numbers"] spEfb
  boe : Cal P w K mg base "bytes_of_edit" 2 ["edit"] spBoe
  lb : Cal P w K mg base "length_before" 1 ["edit"] (spLen Sv17.before)
  la : Cal P w K mg base "length_after" 1 ["edit"] (spLen Sv17.behind)
  gl : mg "len" = none
  gA : Glb mg "ARGUMENTS" (.int (-2))
  gN : Glb mg "NO_EDIT" (.int (-3))
  gF : Glb mg "DOES_NOT_FIT" (.int (-4))
  gL : Glb mg "TOO_LONG" (.int (-6))
  gT : Glb mg "LONGEST_TEXT" (.int 65536)
theorem size_nat {b : Bytes} (h : b.length ≤ 29900) : Sv17.size (b.length : Int) = true := by
  unfold Sv17.size Sv17.within Sv17.EDIT
  rw [decide_eq_true (by omega), decide_eq_true (by omega)]; rfl
theorem within_nat {b : Bytes} (h : b.length ≤ 29900) : Sv17.within (b.length : Int) 0 65536 = true := by
  unfold Sv17.within
  rw [decide_eq_true (by omega), decide_eq_true (by omega)]; rfl
theorem edit_lim {b : Bytes} {e : Edit} (h : Sv17.editOf b = some e) : PosE e ∧ esz e ≤ 131072 ∧ e.length ≤ 131072 := by
  obtain ⟨h1, h2, h3⟩ := editOf_some h
  have hp := good_pos h1
  have := esz_le e
  have h2 : Sv17.before e ≤ 65536 := h2
  have h3 : Sv17.behind e ≤ 65536 := h3
  have := hp.len
  exact ⟨hp, by omega, by omega⟩
theorem line_big : (16777216 : Nat) = sizeLine := rfl
/-- a list of one number -/
theorem ans_one {H : Hp} {p : Addr} {i : Int} : AnsAt (upd H p (.lst [.int i])) p (Sv17.ok i) := upd_same
def spChk : Sp := fun vs H Q _ => ∃ (a : Addr) (b : Bytes), vs = [.ref a] ∧ H a = some (.lst (bv b)) ∧ Byt b ∧ b.length ≤ 29900 ∧ ∀ (p : Addr) (H' : Hp), Same H H' → H p = none → AnsAt H' p (Sv17.alone (.check b (b.length : Int))) → Q (.ref p) H'
theorem sc_chk : FnScope ["e", "edit"] ["e"] (defScope s_check) := ⟨rfl, rfl, rfl, by decide +kernel, rfl, by decide +kernel, by decide +kernel⟩
theorem ok_chk {f : Addr} {fd : FuncData} (F : Fun K "check" "check" s_check f fd) (c : EdCal P w K mg base) : FnOk P w K mg base CX0 4 f fd ["e"] spChk := by
  refine F.ok sc_chk (fun vs H Q E h => ?_) (fun cdv A outer s H vs Q E hr h => ?_)
  · obtain ⟨a, b, rfl, _⟩ := h
    rfl
  · obtain ⟨a, b, rfl, h1, hb, hz, k⟩ := h
    refine ⟨_, pss_cons (ps_if (pt_val (pc_call c.bel hr (pa_cons (pv 0) pa_nil))) (pss_one (ps_ret (pe_lst (pa_cons (pg_glob c.gA) pa_nil)))) pss_nil)
      (pss_cons (ps_set (i := 1) sc_chk.nd rfl (Or.inl rfl) (pc_call c.efb hr (pa_cons (pv 0) pa_nil)))
      (pss_cons (ps_if (pt_cmp (pc_isN (pv 1))) (pss_one (ps_ret (pe_lst (pa_cons (pg_glob c.gN) pa_nil)))) pss_nil)
      (pss_one (ps_ret (pe_lst (pa_cons (pe_callB call_len_seq rfl c.gl PySem.boot_len (pa_cons (pv 1) pa_nil)) (pa_cons (pc_call c.lb hr (pa_cons (pv 1) pa_nil)) (pa_cons (pc_call c.la hr (pa_cons (pv 1) pa_nil)) pa_nil)))))))), ?_⟩
    refine ⟨_, rfl, a, b, rfl, h1, by omega, _, rfl, iteF ?_⟩
    refine ⟨_, rfl, a, b, [], rfl, h1, hb, by rw [← line_big]; omega, by simp, fun v H1 s1 hv => ?_⟩
    have hv := OptEdit.unwo hv
    have hal : Sv17.alone (.check b (b.length : Int)) = match Sv17.editOf b with
      | none => Sv17.ok (-3)
      | some x => ⟨x.length, [Sv17.before x, Sv17.behind x]⟩ := by
      show Sv17.ofOne _ _ _ = _
      unfold Sv17.ofOne
      rw [size_nat hz, if_neg (by decide)]
      cases Sv17.editOf b <;> rfl
    rw [hal] at k
    cases he : Sv17.editOf b with
    | none =>
      rw [he] at hv k
      cases hv
      refine ⟨_, rfl, _, rfl, iteT ⟨(by show 1 ≤ sizeLine; decide), fun p hp => ?_⟩⟩
      exact k p _ (s1.trans (same_upd hp)) (Same.free s1 hp) ans_one
    | some e =>
      rw [he] at hv k
      obtain ⟨d, rfl, hE⟩ := hv
      obtain ⟨_, _, hlen⟩ := edit_lim he
      obtain ⟨ts, h2, h3⟩ := hE.ex
      refine ⟨_, rfl, _, rfl, iteF ?_⟩
      refine ⟨_, rfl, d, _, rfl, .inl (SqL.of h2), _, rfl, d, e, rfl, hE, by rw [← line_big]; omega, fun H2 s2 => ⟨_, rfl, d, e, rfl, hE.same s2, by rw [← line_big]; omega, fun H3 s3 => ⟨(by show 3 ≤ sizeLine; decide), fun p hp => ?_⟩⟩⟩
      refine k p _ (((s1.trans s2).trans s3).trans (same_upd hp)) (Same.free ((s1.trans s2).trans s3) hp) ?_
      unfold AnsAt
      rw [upd_same, List.length_map, Paired.length h3]
      rfl
/-! ### refused_on_text -/
def refT (most : Int) (b tx : Bytes) : Option Int := if most < 0 then some (-2) else match Sv17.editOf b with
  | none => some (-3)
  | some x => if Sv17.before x ≠ tx.length then some (-4) else none
def optI : Option Int → V
  | none => .non
  | some i => .int i
def spRef : Sp := fun vs H Q _ => ∃ (a t : Addr) (b tx : Bytes) (most : Int) (v : V), vs = [.int most, .ref a, v, .ref t] ∧ H a = some (.lst (bv b)) ∧ H t = some (.lst (bv tx)) ∧ OptEdit H v (Sv17.editOf b) ∧ b.length ≤ 29900 ∧ tx.length ≤ 29900 ∧ ∀ (H' : Hp), Same H H' → Q (optI (refT most b tx)) H'
theorem sc_ref : FnScope ["most", "e", "edit", "text"] ["most", "e", "edit", "text"] (defScope s_refused_on_text) := ⟨rfl, rfl, rfl, by decide +kernel, rfl, by decide +kernel, by decide +kernel⟩
theorem ok_ref {f : Addr} {fd : FuncData} (F : Fun K "refused_on_text" "refused_on_text" s_refused_on_text f fd) (c : EdCal P w K mg base) : FnOk P w K mg base CX0 2 f fd ["most", "e", "edit", "text"] spRef := by
  refine F.ok sc_ref (fun vs H Q E h => ?_) (fun cdv A outer s H vs Q E hr h => ?_)
  · obtain ⟨a, t, b, tx, most, v, rfl, _⟩ := h
    rfl
  · obtain ⟨a, t, b, tx, most, v, rfl, h1, h2, hv, hb, ht, k⟩ := h
    refine ⟨_, pss_cons (ps_if (PW.pt (pw_or (pt_val (pc_call c.bel hr (pa_cons (pv 1) pa_nil))) (pw_or (pt_val (pc_call c.btl hr (pa_cons (pv 3) pa_nil))) (pw_or1 (pt_cmpR op_lt (pv 0) pe_int (nomark _)))))) (pss_one (ps_ret (pg_glob c.gA))) pss_nil)
      (pss_cons (ps_if (pt_cmp (pc_isN (pv 2))) (pss_one (ps_ret (pg_glob c.gN))) pss_nil)
      (pss_cons (ps_if (pt_cmpR op_ne (pc_call c.lb hr (pa_cons (pv 2) pa_nil)) (pe_callB call_len_seq rfl c.gl PySem.boot_len (pa_cons (pv 3) pa_nil)) (nomark _)) (pss_one (ps_ret (pg_glob c.gF))) pss_nil)
      (pss_one (ps_ret pe_non)))), ?_⟩
    refine ⟨_, rfl, a, b, rfl, h1, by omega, _, rfl, iteF ⟨_, rfl, t, tx, rfl, h2, by omega, _, rfl, iteF ⟨_, rfl, _, _, rfl, rfl, _, rfl, ite2 (fun c1 => ?_) (fun c1 => ?_)⟩⟩⟩
    · have c1 : most < 0 := by simpa using c1
      have e : refT most b tx = some (-2) := by unfold refT; rw [if_pos c1]
      rw [e] at k
      exact k H (Same.refl H)
    · have c1 : ¬ most < 0 := by simpa using c1
      unfold refT at k
      rw [if_neg c1] at k
      cases he : Sv17.editOf b with
      | none =>
        rw [he] at hv k
        cases hv
        exact ⟨_, rfl, _, rfl, iteT (k H (Same.refl H))⟩
      | some e =>
        rw [he] at hv k
        obtain ⟨d, rfl, hE⟩ := hv
        obtain ⟨_, _, hlen⟩ := edit_lim he
        refine ⟨_, rfl, _, rfl, iteF ⟨_, rfl, d, e, rfl, hE, by rw [← line_big]; omega, fun H1 s1 => ⟨_, rfl, t, _, rfl, .inl (SqL.of (s1 _ _ h2)), rfl, _, rfl, ?_⟩⟩⟩
        rw [bv_len]
        refine kne (fun c2 => ?_) (fun c2 => ?_)
        · have k : ∀ H', Same H H' → Q (optI (if Sv17.before e ≠ tx.length then some (-4) else none)) H' := k
          rw [if_pos c2] at k
          exact k H1 s1
        · have k : ∀ H', Same H H' → Q (optI (if Sv17.before e ≠ tx.length then some (-4) else none)) H' := k
          rw [if_neg (by rw [c2]; simp)] at k
          exact k H1 s1
/-- of an edit on a text -/
theorem alone_apply {b tx : Bytes} {most : Int} (hb : b.length ≤ 29900) (ht : tx.length ≤ 29900) : Sv17.alone (.apply b (b.length : Int) tx (tx.length : Int) most) = match refT most b tx with
    | some i => Sv17.ok i
    | none => match Sv17.editOf b with
      | none => Sv17.ok (-3)
      | some x => Sv17.fits most (Sv17.apply x tx) := by
  show Sv17.ofOne _ _ _ = _
  unfold Sv17.ofOne refT
  rw [size_nat hb, within_nat ht, Bool.true_and, Bool.true_and]
  by_cases c : most < 0
  · rw [if_pos c, if_pos (decide_eq_false (by omega))]
  · rw [if_neg c, if_neg (by rw [decide_eq_true (by omega)]; decide)]
    cases Sv17.editOf b with
    | none => rfl
    | some x =>
      show (if Sv17.before x ≠ tx.length then _ else _) = match (if Sv17.before x ≠ tx.length then some (-4) else none) with
        | some i => Sv17.ok i
        | none => Sv17.fits most (Sv17.apply x tx)
      by_cases h : Sv17.before x ≠ tx.length
      · rw [if_pos h, if_pos h]
      · rw [if_neg h, if_neg h]
theorem alone_undo {b tx : Bytes} {most : Int} (hb : b.length ≤ 29900) (ht : tx.length ≤ 29900) : Sv17.alone (.undo b (b.length : Int) tx (tx.length : Int) most) = match refT most b tx with
    | some i => Sv17.ok i
    | none => match Sv17.editOf b with
      | none => Sv17.ok (-3)
      | some x => Sv17.fits most (Sv17.bytes (Sv17.undo x tx)) := by
  show Sv17.ofOne _ _ _ = _
  unfold Sv17.ofOne refT
  rw [size_nat hb, within_nat ht, Bool.true_and, Bool.true_and]
  by_cases c : most < 0
  · rw [if_pos c, if_pos (decide_eq_false (by omega))]
  · rw [if_neg c, if_neg (by rw [decide_eq_true (by omega)]; decide)]
    cases Sv17.editOf b with
    | none => rfl
    | some x =>
      show (if Sv17.before x ≠ tx.length then _ else _) = match (if Sv17.before x ≠ tx.length then some (-4) else none) with
        | some i => Sv17.ok i
        | none => Sv17.fits most (Sv17.bytes (Sv17.undo x tx))
      by_cases h : Sv17.before x ≠ tx.length
      · rw [if_pos h, if_pos h]
      · rw [if_neg h, if_neg h]
theorem refT_none {most : Int} {b tx : Bytes} (h : refT most b tx = none) : ∃ x, Sv17.editOf b = some x ∧ Sv17.before x = tx.length := by
  unfold refT at h
  by_cases c : most < 0
  · rw [if_pos c] at h; cases h
  · rw [if_neg c] at h
    cases he : Sv17.editOf b with
    | none => rw [he] at h; cases h
    | some x =>
      rw [he] at h
      have h : (if Sv17.before x ≠ tx.length then some (-4 : Int) else none) = none := h
      by_cases z : Sv17.before x = tx.length
      · exact ⟨x, rfl, z⟩
      · rw [if_pos z] at h; cases h
def spOnT (call : Bytes → Int → Bytes → Int → Int → Sv17.Call) : Sp := fun vs H Q _ => ∃ (a t : Addr) (b tx : Bytes) (most : Int), vs = [.int most, .ref a, .ref t] ∧ H a = some (.lst (bv b)) ∧ H t = some (.lst (bv tx)) ∧ Byt b ∧ b.length ≤ 29900 ∧ tx.length ≤ 29900 ∧
  ∀ (p : Addr) (H' : Hp), Same H H' → H p = none → AnsAt H' p (Sv17.alone (call b (b.length : Int) tx (tx.length : Int) most)) → Q (.ref p) H'
theorem sc_att : FnScope ["most", "e", "text", "edit", "refusal"] ["most", "e", "text"] (defScope s_apply_to_text) := ⟨rfl, rfl, rfl, by decide +kernel, rfl, by decide +kernel, by decide +kernel⟩
theorem ok_att {f : Addr} {fd : FuncData} (F : Fun K "apply_to_text" "apply_to_text" s_apply_to_text f fd) (c : EdCal P w K mg base) (cr : Cal P w K mg base "refused_on_text" 2 ["most", "e", "edit", "text"] spRef) (ca : Cal P w K mg base "applied" 1 ["edit", "text"] spApp) : FnOk P w K mg base CX0 4 f fd ["most", "e", "text"] (spOnT .apply) := by
  refine F.ok sc_att (fun vs H Q E h => ?_) (fun cdv A outer s H vs Q E hr h => ?_)
  · obtain ⟨a, t, b, tx, most, rfl, _⟩ := h
    rfl
  · obtain ⟨a, t, b, tx, most, rfl, h1, h2, hy, hb, ht, k⟩ := h
    refine ⟨_, pss_cons (ps_set (i := 3) sc_att.nd rfl (Or.inl rfl) (pc_call c.efb hr (pa_cons (pv 1) pa_nil)))
      (pss_cons (ps_set (i := 4) sc_att.nd rfl (Or.inl rfl) (pc_call cr hr (pa_cons (pv 0) (pa_cons (pv 1) (pa_cons (pv 3) (pa_cons (pv 2) pa_nil))))))
      (pss_cons (ps_if (pt_cmp (pc_notN (pv 4))) (pss_one (ps_ret (pe_lst (pa_cons (pv 4) pa_nil)))) pss_nil)
      (pss_one (ps_ret (pc_call c.cnt hr (pa_cons (pc_call ca hr (pa_cons (pv 3) (pa_cons (pv 2) pa_nil))) (pa_cons (pv 0) pa_nil))))))), ?_⟩
    rw [alone_apply hb ht] at k
    refine ⟨_, rfl, a, b, [], rfl, h1, hy, by rw [← line_big]; omega, by simp, fun v H1 s1 hv => ?_⟩
    have hv := OptEdit.unwo hv
    refine ⟨_, rfl, _, rfl, _, rfl, _, rfl, a, t, b, tx, most, v, rfl, s1 _ _ h1, s1 _ _ h2, hv, hb, ht, fun H2 s2 => ?_⟩
    cases hr1 : refT most b tx with
    | some i =>
      rw [hr1] at k
      refine ⟨_, rfl, _, rfl, iteT ⟨_, rfl, (by show 1 ≤ sizeLine; decide), fun p hp => ?_⟩⟩
      exact k p _ ((s1.trans s2).trans (same_upd hp)) (Same.free (s1.trans s2) hp) ans_one
    | none =>
      obtain ⟨x, he, hf⟩ := refT_none hr1
      rw [hr1, he] at k
      rw [he] at hv
      obtain ⟨d, rfl, hE⟩ := hv
      have hl := apply_len (e := x) (t := tx) (by omega)
      obtain ⟨_, hb2, hb3⟩ := editOf_some he
      have hb3 : Sv17.behind x ≤ 65536 := hb3
      refine ⟨_, rfl, _, rfl, iteF ⟨_, rfl, _, rfl, d, t, x, tx, rfl, hE.same s2, s2 _ _ (s1 _ _ h2), by rw [← line_big]; omega, fun p H3 s3 np hp => ⟨_, rfl, p, _, most, rfl, hp, by rw [← line_big]; omega, fun p' H4 s4 na ha => ?_⟩⟩⟩
      exact k p' H4 (((s1.trans s2).trans s3).trans s4) (Same.free ((s1.trans s2).trans s3) na) ha
theorem sc_uot : FnScope ["most", "e", "text", "edit", "refusal"] ["most", "e", "text"] (defScope s_undo_on_text) := ⟨rfl, rfl, rfl, by decide +kernel, rfl, by decide +kernel, by decide +kernel⟩
theorem sizes_lim {e : Edit} (h : esz e ≤ 4000000) : ∀ s ∈ e, s.size < 4294967296 := fun s hs => by
  have : s.size ≤ esz e := by
    induction e with
    | nil => cases hs
    | cons x r ih =>
      rw [esz_cons] at h ⊢
      rcases List.mem_cons.mp hs with z | z
      · rw [z]; omega
      · have := ih (by omega) z; omega
  omega
theorem bytes_lim {e : Edit} (hp : PosE e) (h : esz e ≤ 2000000) : (Sv17.bytes e).length < sizeLine := by
  have := bytes_len e
  have := hp.len
  rw [← line_big]; omega
theorem ok_uot {f : Addr} {fd : FuncData} (F : Fun K "undo_on_text" "undo_on_text" s_undo_on_text f fd) (c : EdCal P w K mg base) (cr : Cal P w K mg base "refused_on_text" 2 ["most", "e", "edit", "text"] spRef) (ca : Cal P w K mg base "undone" 3 ["edit", "text"] spUnd) : FnOk P w K mg base CX0 4 f fd ["most", "e", "text"] (spOnT .undo) := by
  refine F.ok sc_uot (fun vs H Q E h => ?_) (fun cdv A outer s H vs Q E hr h => ?_)
  · obtain ⟨a, t, b, tx, most, rfl, _⟩ := h
    rfl
  · obtain ⟨a, t, b, tx, most, rfl, h1, h2, hy, hb, ht, k⟩ := h
    refine ⟨_, pss_cons (ps_set (i := 3) sc_uot.nd rfl (Or.inl rfl) (pc_call c.efb hr (pa_cons (pv 1) pa_nil)))
      (pss_cons (ps_set (i := 4) sc_uot.nd rfl (Or.inl rfl) (pc_call cr hr (pa_cons (pv 0) (pa_cons (pv 1) (pa_cons (pv 3) (pa_cons (pv 2) pa_nil))))))
      (pss_cons (ps_if (pt_cmp (pc_notN (pv 4))) (pss_one (ps_ret (pe_lst (pa_cons (pv 4) pa_nil)))) pss_nil)
      (pss_one (ps_ret (pc_call c.cnt hr (pa_cons (pc_call c.boe hr (pa_cons (pc_call ca hr (pa_cons (pv 3) (pa_cons (pv 2) pa_nil))) pa_nil)) (pa_cons (pv 0) pa_nil))))))), ?_⟩
    rw [alone_undo hb ht] at k
    refine ⟨_, rfl, a, b, [], rfl, h1, hy, by rw [← line_big]; omega, by simp, fun v H1 s1 hv => ?_⟩
    have hv := OptEdit.unwo hv
    refine ⟨_, rfl, _, rfl, _, rfl, _, rfl, a, t, b, tx, most, v, rfl, s1 _ _ h1, s1 _ _ h2, hv, hb, ht, fun H2 s2 => ?_⟩
    cases hr1 : refT most b tx with
    | some i =>
      rw [hr1] at k
      refine ⟨_, rfl, _, rfl, iteT ⟨_, rfl, (by show 1 ≤ sizeLine; decide), fun p hp => ?_⟩⟩
      exact k p _ ((s1.trans s2).trans (same_upd hp)) (Same.free (s1.trans s2) hp) ans_one
    | none =>
      obtain ⟨x, he, hf⟩ := refT_none hr1
      rw [hr1, he] at k
      rw [he] at hv
      obtain ⟨d, rfl, hE⟩ := hv
      obtain ⟨hpos, hz, _⟩ := edit_lim he
      have hu : esz (Sv17.undo x tx) ≤ 131072 := by
        have : esz (Sv17.undone x tx) ≤ esz x := undone_esz
        show esz (Sv17.formed _) ≤ _
        rw [formed_esz]; omega
      have hup : PosE (Sv17.undo x tx) := formed_pos _
      have hbl := bytes_lim hup (by omega)
      refine ⟨_, rfl, _, rfl, iteF ⟨_, rfl, _, rfl, d, t, x, tx, rfl, hE.same s2, s2 _ _ (s1 _ _ h2), hpos, hf, by rw [← line_big]; omega, fun p H3 s3 hp => ?_⟩⟩
      refine ⟨p, _, rfl, hp, Nat.le_of_lt hbl, sizes_lim (by omega), fun p4 H4 s4 h4 => ⟨_, rfl, p4, _, most, rfl, h4, hbl, fun p5 H5 s5 na ha => ?_⟩⟩
      exact k p5 H5 ((((s1.trans s2).trans s3).trans s4).trans s5) (Same.free (((s1.trans s2).trans s3).trans s4) na) ha
end
end My
end
section
set_option Elab.async false
set_option linter.all false
set_option maxRecDepth 100000
set_option maxHeartbeats 2000000
namespace My
open PySem PySem.Spec PyProof.Rows L2
/-- of two edits that fit the same text, turned -/
structure TurnFacts (x y : Edit) : Prop where
  g1 : goodF 0 (Sv17.turn x y).1 = true
  g2 : goodF 0 (Sv17.turn x y).2 = true
  b1 : Sv17.before (Sv17.turn x y).1 = Sv17.behind y
  b2 : Sv17.before (Sv17.turn x y).2 = Sv17.behind x
  eh : Sv17.behind (Sv17.turn x y).1 = Sv17.behind (Sv17.turn x y).2
  z1 : esz (Sv17.turn x y).1 ≤ esz x + esz y
  z2 : esz (Sv17.turn x y).2 ≤ esz x + esz y
theorem turn_facts {x y : Edit} (hx : PosE x) (hy : PosE y) (h : Sv17.before x = Sv17.before y) : TurnFacts x y := by
  have t := tt_prop x y hx hy h
  refine ⟨?_, ?_, ?_, ?_, ?_, ?_, ?_⟩
  · exact good_formed _
  · exact good_formed _
  · exact (formed_before _).trans t.bef1
  · exact (formed_before _).trans t.bef2
  · exact ((formed_behind _).trans t.beh).trans (formed_behind _).symm
  · exact Nat.le_trans (Nat.le_of_eq (formed_esz _)) t.sz1
  · exact Nat.le_trans (Nat.le_of_eq (formed_esz _)) t.sz2
structure CompFacts (x y : Edit) : Prop where
  g : goodF 0 (Sv17.compose x y) = true
  b : Sv17.before (Sv17.compose x y) = Sv17.before x
  h : Sv17.behind (Sv17.compose x y) = Sv17.behind y
  z : esz (Sv17.compose x y) ≤ esz x + esz y
theorem comp_facts {x y : Edit} (hx : PosE x) (hy : PosE y) (h : Sv17.behind x = Sv17.before y) : CompFacts x y := by
  have t := cc_prop x y hx hy h
  exact ⟨good_formed _, (formed_before _).trans t.bef, (formed_behind _).trans t.beh, Nat.le_trans (Nat.le_of_eq (formed_esz _)) t.sz⟩
theorem small_turn {x y : Edit} (hx : PosE x) (hy : PosE y) (h : Sv17.before x = Sv17.before y) (lx : Sv17.behind x ≤ 65536) (ly : Sv17.behind y ≤ 65536) :
    Sv17.small [(Sv17.turn x y).1, (Sv17.turn x y).2] = decide (Sv17.behind (Sv17.turn x y).1 ≤ 65536) := by
  have t := turn_facts hx hy h
  unfold Sv17.small Sv17.TEXT
  simp only [List.all_cons, List.all_nil, Bool.and_true]
  rw [t.b1, t.b2, ← t.eh, decide_eq_true ly, decide_eq_true lx, Bool.true_and, Bool.and_self]
section
variable {P : Program} {w : World} {K : PySem.W.Frag} {mg : Str → Option Value} {base : Heap}
def spCom : Sp := fun vs H Q _ => ∃ (a t : Addr) (b c : Bytes) (most : Int), vs = [.int most, .ref a, .ref t] ∧ H a = some (.lst (bv b)) ∧ H t = some (.lst (bv c)) ∧ Byt b ∧ Byt c ∧ b.length ≤ 29900 ∧ c.length ≤ 29900 ∧
  ∀ (p : Addr) (H' : Hp), Same H H' → H p = none → AnsAt H' p (Sv17.alone (.compose b (b.length : Int) c (c.length : Int) most)) → Q (.ref p) H'
theorem sc_com : FnScope ["most", "a", "b", "first", "second"] ["most", "a", "b"] (defScope s_compose) := ⟨rfl, rfl, rfl, by decide +kernel, rfl, by decide +kernel, by decide +kernel⟩
theorem ok_com {f : Addr} {fd : FuncData} (F : Fun K "compose" "compose" s_compose f fd) (c : EdCal P w K mg base) (cm : Cal P w K mg base "composed" 4 ["a", "b"] spCmp) : FnOk P w K mg base CX0 5 f fd ["most", "a", "b"] spCom := by
  refine F.ok sc_com (fun vs H Q E h => ?_) (fun cdv A outer s H vs Q E hr h => ?_)
  · obtain ⟨a, t, b, d, most, rfl, _⟩ := h
    rfl
  · obtain ⟨a, t, b, d, most, rfl, h1, h2, yb, yd, hb, hd, k⟩ := h
    refine ⟨_, pss_cons (ps_if (PW.pt (pw_or (pt_val (pc_call c.bel hr (pa_cons (pv 1) pa_nil))) (pw_or (pt_val (pc_call c.bel hr (pa_cons (pv 2) pa_nil))) (pw_or1 (pt_cmpR op_lt (pv 0) pe_int (nomark _)))))) (pss_one (ps_ret (pe_lst (pa_cons (pg_glob c.gA) pa_nil)))) pss_nil)
      (pss_cons (ps_set (i := 3) sc_com.nd rfl (Or.inl rfl) (pc_call c.efb hr (pa_cons (pv 1) pa_nil)))
      (pss_cons (ps_set (i := 4) sc_com.nd rfl (Or.inl rfl) (pc_call c.efb hr (pa_cons (pv 2) pa_nil)))
      (pss_cons (ps_if (PW.pt (pw_or (pt_cmp (pc_isN (pv 3))) (pw_or1 (pt_cmp (pc_isN (pv 4)))))) (pss_one (ps_ret (pe_lst (pa_cons (pg_glob c.gN) pa_nil)))) pss_nil)
      (pss_cons (ps_if (pt_cmpR op_ne (pc_call c.la hr (pa_cons (pv 3) pa_nil)) (pc_call c.lb hr (pa_cons (pv 4) pa_nil)) (nomark _)) (pss_one (ps_ret (pe_lst (pa_cons (pg_glob c.gF) pa_nil)))) pss_nil)
      (pss_one (ps_ret (pc_call c.cnt hr (pa_cons (pc_call c.boe hr (pa_cons (pc_call cm hr (pa_cons (pv 3) (pa_cons (pv 4) pa_nil))) pa_nil)) (pa_cons (pv 0) pa_nil))))))))), ?_⟩
    have hal : Sv17.alone (.compose b (b.length : Int) d (d.length : Int) most) = if most < 0 then Sv17.ok (-2) else match Sv17.editOf b, Sv17.editOf d with
      | some x, some y => if Sv17.behind x ≠ Sv17.before y then Sv17.ok (-4) else Sv17.fits most (Sv17.bytes (Sv17.compose x y))
      | _, _ => Sv17.ok (-3) := by
      show Sv17.ofTwo _ _ _ _ = _
      unfold Sv17.ofTwo Sv17.ofOne
      rw [size_nat hb, size_nat hd, Bool.true_and, Bool.true_and]
      by_cases c : most < 0
      · rw [if_pos c, if_pos (decide_eq_false (by omega))]
      · rw [if_neg c, if_neg (by rw [decide_eq_true (by omega)]; decide)]
        cases Sv17.editOf b <;> cases Sv17.editOf d <;> rfl
    rw [hal] at k
    refine ⟨_, rfl, a, b, rfl, h1, by omega, _, rfl, iteF ⟨_, rfl, t, d, rfl, h2, by omega, _, rfl, iteF ⟨_, rfl, _, _, rfl, rfl, _, rfl, ite2 (fun c1 => ?_) (fun c1 => ?_)⟩⟩⟩
    · have c1 : most < 0 := by simpa using c1
      rw [if_pos c1] at k
      exact ⟨(by show 1 ≤ sizeLine; decide), fun p hp => k p _ (same_upd hp) hp ans_one⟩
    · have c1 : ¬ most < 0 := by simpa using c1
      rw [if_neg c1] at k
      refine ⟨_, rfl, a, b, [], rfl, h1, yb, by rw [← line_big]; omega, by simp, fun v H1 s1 hv => ?_⟩
      have hv := OptEdit.unwo hv
      refine ⟨_, rfl, t, d, [], rfl, s1 _ _ h2, yd, by rw [← line_big]; omega, by simp, fun u H2 s2 hu => ?_⟩
      have hu := OptEdit.unwo hu
      cases he : Sv17.editOf b with
      | none =>
        rw [he] at hv k
        cases hv
        refine ⟨_, rfl, _, rfl, iteT (iteT ⟨(by show 1 ≤ sizeLine; decide), fun p hp => ?_⟩)⟩
        exact k p _ ((s1.trans s2).trans (same_upd hp)) (Same.free (s1.trans s2) hp) ans_one
      | some x =>
        rw [he] at hv k
        obtain ⟨i, rfl, hE⟩ := hv
        have hE := hE.same s2
        cases hg : Sv17.editOf d with
        | none =>
          rw [hg] at hu k
          cases hu
          refine ⟨_, rfl, _, rfl, iteF ⟨_, rfl, _, rfl, iteT ⟨(by show 1 ≤ sizeLine; decide), fun p hp => ?_⟩⟩⟩
          exact k p _ ((s1.trans s2).trans (same_upd hp)) (Same.free (s1.trans s2) hp) ans_one
        | some y =>
          rw [hg] at hu k
          dsimp only at k
          obtain ⟨j, rfl, hG⟩ := hu
          obtain ⟨px, zx, lx⟩ := edit_lim he
          obtain ⟨py, zy, ly⟩ := edit_lim hg
          refine ⟨_, rfl, _, rfl, iteF ⟨_, rfl, _, rfl, iteF ?_⟩⟩
          refine ⟨_, rfl, i, x, rfl, hE, by rw [← line_big]; omega, fun H3 s3 => ⟨_, rfl, j, y, rfl, hG.same s3, by rw [← line_big]; omega, fun H4 s4 => ⟨rfl, _, rfl, kne (fun c2 => ?_) (fun c2 => ?_)⟩⟩⟩
          · rw [if_pos c2] at k
            exact ⟨(by show 1 ≤ sizeLine; decide), fun p hp => k p _ ((((s1.trans s2).trans s3).trans s4).trans (same_upd hp)) (Same.free (((s1.trans s2).trans s3).trans s4) hp) ans_one⟩
          · rw [if_neg (by rw [c2]; simp)] at k
            have cf := comp_facts px py c2
            have hcp := good_pos cf.g
            have cz := cf.z
            have hbl := bytes_lim hcp (by omega)
            refine ⟨_, rfl, _, rfl, i, j, x, y, [], rfl, by simp, (hE.same s3).same s4, (hG.same s3).same s4, px, py, c2, by rw [← line_big]; omega, fun p5 H5 s5 h5 => ?_⟩
            refine ⟨p5, _, rfl, h5.same (wo_sub _ _), Nat.le_of_lt hbl, sizes_lim (by omega), fun p6 H6 s6 h6 => ⟨_, rfl, p6, _, most, rfl, h6, hbl, fun p7 H7 s7 na ha => ?_⟩⟩
            exact k p7 H7 ((((((s1.trans s2).trans s3).trans s4).trans s5).trans s6).trans s7) (Same.free (((((s1.trans s2).trans s3).trans s4).trans s5).trans s6) na) ha
def spTur : Sp := fun vs H Q _ => ∃ (a t : Addr) (b c : Bytes) (which most : Int), vs = [.int which, .int most, .ref a, .ref t] ∧ H a = some (.lst (bv b)) ∧ H t = some (.lst (bv c)) ∧ Byt b ∧ Byt c ∧ b.length ≤ 29900 ∧ c.length ≤ 29900 ∧
  ∀ (p : Addr) (H' : Hp), Same H H' → H p = none → AnsAt H' p (Sv17.alone (.turn b (b.length : Int) c (c.length : Int) which most)) → Q (.ref p) H'
theorem sc_tur : FnScope ["which", "most", "a", "b", "first", "second", "pair"] ["which", "most", "a", "b"] (defScope s_turn) := ⟨rfl, rfl, rfl, by decide +kernel, rfl, by decide +kernel, by decide +kernel⟩
theorem inV2 (k : Int) : inV (V.int k) [V.int 0, V.int 1] = Sv17.within k 0 1 := by
  have e : inV (V.int k) [V.int 0, V.int 1] = ((0 : Int) == k || ((1 : Int) == k || false)) := rfl
  rw [e]
  unfold Sv17.within
  by_cases h1 : k = 0
  · subst h1; rfl
  by_cases h2 : k = 1
  · subst h2; rfl
  rw [beq_eq_false_iff_ne.mpr (Ne.symm h1), beq_eq_false_iff_ne.mpr (Ne.symm h2)]
  by_cases h3 : 0 ≤ k
  · rw [decide_eq_true h3, decide_eq_false (by omega)]; rfl
  · rw [decide_eq_false h3]; rfl
theorem ok_tur {f : Addr} {fd : FuncData} (F : Fun K "turn" "turn" s_turn f fd) (c : EdCal P w K mg base) (cm : Cal P w K mg base "turned" 4 ["a", "b"] spTrn) : FnOk P w K mg base CX0 5 f fd ["which", "most", "a", "b"] spTur := by
  refine F.ok sc_tur (fun vs H Q E h => ?_) (fun cdv A outer s H vs Q E hr h => ?_)
  · obtain ⟨a, t, b, d, which, most, rfl, _⟩ := h
    rfl
  · obtain ⟨a, t, b, d, which, most, rfl, h1, h2, yb, yd, hb, hd, k⟩ := h
    refine ⟨_, pss_cons (ps_if (PW.pt (pw_or (pt_val (pc_call c.bel hr (pa_cons (pv 2) pa_nil))) (pw_or (pt_val (pc_call c.bel hr (pa_cons (pv 3) pa_nil))) (pw_or (pt_cmpR op_lt (pv 1) pe_int (nomark _)) (pw_or1 (pt_cmpR op_notIn_seq (pv 0) (pe_tup (pa_cons pe_int (pa_cons pe_int pa_nil))) (by with_unfolding_all rfl))))))) (pss_one (ps_ret (pe_lst (pa_cons (pg_glob c.gA) pa_nil)))) pss_nil)
      (pss_cons (ps_set (i := 4) sc_tur.nd rfl (Or.inl rfl) (pc_call c.efb hr (pa_cons (pv 2) pa_nil)))
      (pss_cons (ps_set (i := 5) sc_tur.nd rfl (Or.inl rfl) (pc_call c.efb hr (pa_cons (pv 3) pa_nil)))
      (pss_cons (ps_if (PW.pt (pw_or (pt_cmp (pc_isN (pv 4))) (pw_or1 (pt_cmp (pc_isN (pv 5)))))) (pss_one (ps_ret (pe_lst (pa_cons (pg_glob c.gN) pa_nil)))) pss_nil)
      (pss_cons (ps_if (pt_cmpR op_ne (pc_call c.lb hr (pa_cons (pv 4) pa_nil)) (pc_call c.lb hr (pa_cons (pv 5) pa_nil)) (nomark _)) (pss_one (ps_ret (pe_lst (pa_cons (pg_glob c.gF) pa_nil)))) pss_nil)
      (pss_cons (ps_set (i := 6) sc_tur.nd rfl (Or.inl rfl) (pc_call cm hr (pa_cons (pv 4) (pa_cons (pv 5) pa_nil))))
      (pss_cons (ps_if (pt_cmpR op_gt (pc_call c.la hr (pa_cons (pe_ix ix_tup (pv 6) pe_int (fun _ _ => rfl)) pa_nil)) (pg_glob c.gT) (nomark _)) (pss_one (ps_ret (pe_lst (pa_cons (pg_glob c.gL) pa_nil)))) pss_nil)
      (pss_one (ps_ret (pc_call c.cnt hr (pa_cons (pc_call c.boe hr (pa_cons (pe_ix ix_tup (pv 6) (pv 0) (fun _ _ => rfl)) pa_nil)) (pa_cons (pv 1) pa_nil))))))))))), ?_⟩
    have hal : Sv17.alone (.turn b (b.length : Int) d (d.length : Int) which most) = if most < 0 ∨ Sv17.within which 0 1 = false then Sv17.ok (-2) else match Sv17.editOf b, Sv17.editOf d with
      | some x, some y => if Sv17.before x ≠ Sv17.before y then Sv17.ok (-4) else if Sv17.small [(Sv17.turn x y).1, (Sv17.turn x y).2] = false then Sv17.ok (-6) else Sv17.fits most (Sv17.bytes (if which = 0 then (Sv17.turn x y).1 else (Sv17.turn x y).2))
      | _, _ => Sv17.ok (-3) := by
      show Sv17.ofTwo _ _ _ _ = _
      unfold Sv17.ofTwo Sv17.ofOne
      rw [size_nat hb, size_nat hd, Bool.true_and, Bool.true_and]
      by_cases c : most < 0
      · rw [decide_eq_false (show ¬ 0 ≤ most by omega), Bool.and_false, if_pos rfl, if_pos (show most < 0 ∨ Sv17.within which 0 1 = false from .inl c)]
      · rw [decide_eq_true (show 0 ≤ most by omega), Bool.and_true]
        cases hw : Sv17.within which 0 1 with
        | false => rw [if_pos rfl, if_pos (.inr rfl)]
        | true =>
          rw [if_neg (by decide), if_neg (by simp [c])]
          cases Sv17.editOf b <;> cases Sv17.editOf d <;> rfl
    rw [hal] at k
    refine ⟨_, rfl, a, b, rfl, h1, by omega, _, rfl, iteF ⟨_, rfl, t, d, rfl, h2, by omega, _, rfl, iteF ⟨_, rfl, _, _, rfl, rfl, _, rfl, ite2 (fun c1 => ?_) (fun c1 => ?_)⟩⟩⟩
    · have c1 : most < 0 := by simpa using c1
      rw [if_pos (.inl c1)] at k
      exact iteT ⟨(by show 1 ≤ sizeLine; decide), fun p hp => k p _ (same_upd hp) hp ans_one⟩
    have c1 : ¬ most < 0 := by simpa using c1
    refine ⟨_, rfl, (by show 2 ≤ sizeLine; decide), fun q hq => ⟨q, _, rfl, .inr (SqT.of upd_same), rfl, rfl, _, rfl, ?_⟩⟩
    show if (!inV (V.int which) [V.int 0, V.int 1]) = true then _ else _
    rw [inV2]
    have s0 := same_upd (o := .tup [.int 0, .int 1]) hq
    cases hw : Sv17.within which 0 1 with
    | false =>
      rw [if_pos (.inr hw)] at k
      exact iteT ⟨(by show 1 ≤ sizeLine; decide), fun p hp => k p _ (s0.trans (same_upd hp)) (Same.free s0 hp) ans_one⟩
    | true =>
      refine iteF ?_
      rw [if_neg (by simp [c1, hw])] at k
      have hwh : which = 0 ∨ which = 1 := by
        unfold Sv17.within at hw
        simp at hw
        omega
      refine ⟨_, rfl, a, b, [], rfl, s0 _ _ h1, yb, by rw [← line_big]; omega, by simp, fun v H1 s1 hv => ?_⟩
      have hv := OptEdit.unwo hv
      refine ⟨_, rfl, t, d, [], rfl, s1 _ _ (s0 _ _ h2), yd, by rw [← line_big]; omega, by simp, fun u H2 s2 hu => ?_⟩
      have hu := OptEdit.unwo hu
      have s02 := (s0.trans s1).trans s2
      cases he : Sv17.editOf b with
      | none =>
        rw [he] at hv k
        cases hv
        refine ⟨_, rfl, _, rfl, iteT (iteT ⟨(by show 1 ≤ sizeLine; decide), fun p hp => ?_⟩)⟩
        exact k p _ (s02.trans (same_upd hp)) (Same.free s02 hp) ans_one
      | some x =>
        rw [he] at hv k
        obtain ⟨i, rfl, hE⟩ := hv
        have hE := hE.same s2
        cases hg : Sv17.editOf d with
        | none =>
          rw [hg] at hu k
          cases hu
          refine ⟨_, rfl, _, rfl, iteF ⟨_, rfl, _, rfl, iteT ⟨(by show 1 ≤ sizeLine; decide), fun p hp => ?_⟩⟩⟩
          exact k p _ (s02.trans (same_upd hp)) (Same.free s02 hp) ans_one
        | some y =>
          rw [hg] at hu k
          dsimp only at k
          obtain ⟨j, rfl, hG⟩ := hu
          obtain ⟨px, zx, lx⟩ := edit_lim he
          obtain ⟨py, zy, ly⟩ := edit_lim hg
          obtain ⟨_, _, bx⟩ := editOf_some he
          obtain ⟨_, _, by_⟩ := editOf_some hg
          refine ⟨_, rfl, _, rfl, iteF ⟨_, rfl, _, rfl, iteF ?_⟩⟩
          refine ⟨_, rfl, i, x, rfl, hE, by rw [← line_big]; omega, fun H3 s3 => ⟨_, rfl, j, y, rfl, hG.same s3, by rw [← line_big]; omega, fun H4 s4 => ⟨rfl, _, rfl, kne (fun c2 => ?_) (fun c2 => ?_)⟩⟩⟩
          · rw [if_pos c2] at k
            exact ⟨(by show 1 ≤ sizeLine; decide), fun p hp => k p _ (((s02.trans s3).trans s4).trans (same_upd hp)) (Same.free ((s02.trans s3).trans s4) hp) ans_one⟩
          · rw [if_neg (by rw [c2]; simp), small_turn px py c2 bx by_] at k
            have tf := turn_facts px py c2
            have p1 := good_pos tf.g1
            have p2 := good_pos tf.g2
            have z1 := tf.z1
            have z2 := tf.z2
            have m1 := p1.len
            have hbl1 := bytes_lim p1 (by omega)
            have hbl2 := bytes_lim p2 (by omega)
            refine ⟨_, rfl, _, rfl, i, j, x, y, [], rfl, by simp, (hE.same s3).same s4, (hG.same s3).same s4, px, py, c2, by rw [← line_big]; omega, fun q5 u5 v5 H5 s5 h5 e1 e2 => ?_⟩
            have e1 := e1.same (wo_sub _ _)
            have e2 := e2.same (wo_sub _ _)
            have s05 := ((s02.trans s3).trans s4).trans s5
            refine ⟨_, rfl, q5, _, _, _, rfl, rfl, SqT.of h5, atI_nat (j := 0) rfl, u5, _, rfl, e1, by rw [← line_big]; omega, fun H6 s6 => ⟨_, _, rfl, rfl, _, rfl, ite2 (fun c3 => ?_) (fun c3 => ?_)⟩⟩
            · have c3 : ¬ Sv17.behind (Sv17.turn x y).1 ≤ 65536 := by simp at c3; omega
              rw [if_pos (decide_eq_false c3)] at k
              exact ⟨(by show 1 ≤ sizeLine; decide), fun p hp => k p _ ((s05.trans s6).trans (same_upd hp)) (Same.free (s05.trans s6) hp) ans_one⟩
            · have c3 : Sv17.behind (Sv17.turn x y).1 ≤ 65536 := by simp at c3; omega
              rw [if_neg (by rw [decide_eq_true c3]; decide)] at k
              have h6 := s6 _ _ h5
              rcases hwh with rfl | rfl
              · rw [if_pos rfl] at k
                refine ⟨_, rfl, _, rfl, q5, _, _, _, rfl, rfl, SqT.of h6, atI_nat (j := 0) rfl, ?_⟩
                refine ⟨u5, _, rfl, e1.same s6, Nat.le_of_lt hbl1, sizes_lim (by omega), fun p7 H7 s7 h7 => ⟨_, rfl, p7, _, most, rfl, h7, hbl1, fun p8 H8 s8 na ha => ?_⟩⟩
                exact k p8 H8 (((s05.trans s6).trans s7).trans s8) (Same.free ((s05.trans s6).trans s7) na) ha
              · rw [if_neg (by decide)] at k
                refine ⟨_, rfl, _, rfl, q5, _, _, _, rfl, rfl, SqT.of h6, atI_nat (j := 1) rfl, ?_⟩
                refine ⟨v5, _, rfl, e2.same s6, Nat.le_of_lt hbl2, sizes_lim (by omega), fun p7 H7 s7 h7 => ⟨_, rfl, p7, _, most, rfl, h7, hbl2, fun p8 H8 s8 na ha => ?_⟩⟩
                exact k p8 H8 (((s05.trans s6).trans s7).trans s8) (Same.free ((s05.trans s6).trans s7) na) ha
end
end My
end
section
set_option Elab.async false
set_option linter.all false
set_option maxRecDepth 100000
set_option maxHeartbeats 2000000
namespace My
open PySem PySem.Spec PyProof.Rows L2
abbrev iv (l : List Int) : List V := l.map V.int
theorem cut_iv (l : List Int) (i j : Nat) : cutV (iv l) (some (i : Int)) (some (j : Int)) = iv ((l.drop i).take (j - i)) := by
  rw [cut_nat]
  unfold iv
  rw [List.map_take, List.map_drop]
theorem iv_get {l : List Int} {i : Nat} {z : Int} (h : l[i]? = some z) : (iv l)[i]? = some (V.int z) := by
  unfold iv
  rw [List.getElem?_map, h]
  rfl
def IntsAt (H : Hp) (b : Addr) (x : List Int) : Prop := H b = some (.lst (iv x))
section
variable {P : Program} {w : World} {K : PySem.W.Frag} {mg : Str → Option Value} {base : Heap}
def spRR (K : PySem.W.Frag) : Sp := fun vs H Q _ => ∃ (a : Addr) (ns : List Int) (pl k : Nat) (xs : List (List Int)) (t : List Int), vs = [.ref a, .int pl, .int k] ∧ SqL K H a (iv ns) ∧ PyFlat.rows k (ns.drop pl) = some (xs, t) ∧ pl ≤ ns.length ∧ k ≤ 100 ∧
  ∀ (H' : Hp) (tp rl : Addr) (ras : List Addr) (pl' : Nat), Same H H' → H' tp = some (.tup [.ref rl, .int pl']) → H' rl = some (.lst (ras.map V.ref)) → Paired (IntsAt H') ras xs → (∀ b ∈ ras, H b = none) → ns.drop pl' = t → pl' ≤ ns.length → Q (.ref tp) H'
theorem sc_rr : FnScope ["calls", "place", "count", "rows", "start"] ["calls", "place", "count"] (defScope s_read_rows) := ⟨rfl, rfl, rfl, by decide +kernel, rfl, by decide +kernel, by decide +kernel⟩
theorem drop_cons {ns : List Int} {pl : Nat} {n : Int} {r : List Int} (h : ns.drop pl = n :: r) : ns[pl]? = some n ∧ ns.drop (pl + 1) = r ∧ pl < ns.length := by
  have h1 : pl < ns.length := by
    by_cases z : pl < ns.length
    · exact z
    · rw [List.drop_eq_nil_of_le (by omega)] at h; cases h
  rw [List.drop_eq_getElem_cons h1] at h
  injection h with h2 h3
  exact ⟨by rw [List.getElem?_eq_getElem h1, h2], h3, h1⟩
theorem rows_succ {k : Nat} {l : List Int} {xs : List (List Int)} {t : List Int} (h : PyFlat.rows (k + 1) l = some (xs, t)) : ∃ n r ys, l = n :: r ∧ 0 ≤ n ∧ n.toNat ≤ r.length ∧ xs = r.take n.toNat :: ys ∧ PyFlat.rows k (r.drop n.toNat) = some (ys, t) := by
  simp only [PyFlat.rows] at h
  cases l with
  | nil => cases h
  | cons n r =>
    simp only [PyFlat.row] at h
    by_cases c : 0 ≤ n ∧ n.toNat ≤ r.length
    · rw [if_pos c] at h
      simp only [] at h
      cases e : PyFlat.rows k (r.drop n.toNat) with
      | none => rw [e] at h; cases h
      | some p =>
        obtain ⟨ys, t2⟩ := p
        rw [e] at h
        simp only [] at h
        cases h
        exact ⟨n, r, ys, rfl, c.1, c.2, rfl, e⟩
    · rw [if_neg c] at h; cases h
theorem ok_rr {f : Addr} {fd : FuncData} (F : Fun K "read_rows" "read_rows" s_read_rows f fd) (gl : mg "len" = none) : FnOk P w K mg base CX0 1 f fd ["calls", "place", "count"] (spRR K) := by
  refine F.ok sc_rr (fun vs H Q E h => ?_) (fun cdv A outer s H vs Q E hr h => ?_)
  · obtain ⟨a, ns, pl, k, xs, t, rfl, _⟩ := h
    rfl
  · obtain ⟨a, ns, pl, k, xs, t, rfl, hS, hrow, hpl, hk, q⟩ := h
    refine ⟨_, pss_cons (ps_set (i := 3) sc_rr.nd rfl (Or.inl rfl) (pe_lst pa_nil))
      (pss_cons (ps_while PassesOwn.never (pt_cmpR op_lt (pe_callB call_len_seq rfl gl PySem.boot_len (pa_cons (pv 3) pa_nil)) (pv 2) (nomark _))
        (pss_cons (ps_set (i := 4) sc_rr.nd rfl (Or.inl rfl) (pe_op op_add (pv 1) pe_int))
        (pss_cons (ps_set (i := 1) sc_rr.nd rfl (Or.inl rfl) (pe_op op_add (pv 4) (pe_ix ix_list (pv 0) (pv 1) (fun _ _ => rfl))))
        (pss_one (ps_expr (pe_bm PySem.F.plainAttrs_list PySem.F.slot_list_append PySem.F.type_list_append mt_append (pv 3) (pa_cons (pe_slice sl_list (pv 0) (po_some (pv 4)) (po_some (pv 1))) pa_nil)))))))
      (pss_one (ps_ret (pe_tup (pa_cons (pv 3) (pa_cons (pv 1) pa_nil)))))), ?_⟩
    refine ⟨Nat.zero_le _, fun l hl => ?_⟩
    refine ⟨fun m σ H' => ∃ (i pl2 : Nat) (ras : List Addr) (done rest : List (List Int)) (x : Option V), m = k - i ∧ σ = [some (.ref a), some (.int (pl2 : Int)), some (.int (k : Int)), some (.ref l), x] ∧ Same H H' ∧ H' l = some (.lst (ras.map V.ref)) ∧ Paired (IntsAt (wo H' [l])) ras done ∧ ras.length = i ∧ i ≤ k ∧ xs = done ++ rest ∧ PyFlat.rows (k - i) (ns.drop pl2) = some (rest, t) ∧ pl2 ≤ ns.length ∧ ∀ b ∈ ras, H b = none,
      ⟨_, 0, pl, [], [], xs, none, rfl, rfl, same_upd hl, upd_same, .nil, rfl, Nat.zero_le _, rfl, hrow, hpl, by simp⟩, ?_⟩
    rintro m σ H1 ⟨i, pl2, ras, done, rest, x, rfl, rfl, s1, hL, hP, hi, hik, hx, hr2, hp2, hfr⟩
    refine ⟨_, rfl, l, _, rfl, .inl (SqL.of hL), _, rfl, _, _, rfl, rfl, _, rfl, ite2 (fun c => ?_) (fun c => ?_)⟩
    · have c : i < k := by rw [List.length_map, hi] at c; simp at c; omega
      refine ⟨_, fun σ' H' z => z, ?_⟩
      obtain ⟨j, hj⟩ : ∃ j, k - i = j + 1 := ⟨k - i - 1, by omega⟩
      rw [hj] at hr2
      obtain ⟨n, r, ys, e1, n0, nr, e2, e3⟩ := rows_succ hr2
      obtain ⟨d1, d2, d3⟩ := drop_cons e1
      have hS1 := s1.seq hS
      refine ⟨_, rfl, _, _, rfl, rfl, ?_⟩
      refine ⟨_, rfl, _, rfl, _, rfl, a, _, _, _, rfl, rfl, hS1, atI_nat (iv_get d1), _, _, rfl, rfl, ?_⟩
      refine ⟨_, rfl, .inl ⟨rfl, _, SqL.of hL⟩, _, rfl, _, rfl, _, rfl, _, rfl, _, rfl, a, _, rfl, hS1, fun d hd => ?_⟩
      have ec : cutV (iv ns) (some ((pl2 : Int) + 1)) (some ((pl2 : Int) + 1 + n)) = iv (r.take n.toNat) := by
        have := cut_iv ns (pl2 + 1) (pl2 + 1 + n.toNat)
        rw [show pl2 + 1 + n.toNat - (pl2 + 1) = n.toNat by omega, d2] at this
        rw [← this]
        have en : ((n.toNat : Nat) : Int) = n := Int.toNat_of_nonneg n0
        push_cast
        rw [en]
      rw [ec]
      have dl : d ≠ l := (ne_of_none hL hd).symm
      have hL2 := same_upd (o := .lst (iv (r.take n.toNat))) hd _ _ hL
      refine ⟨l, _, _, rfl, rfl, hL2, (by rw [List.length_map, hi, ← line_big]; omega), ?_⟩
      have f1 : Frm [l] H1 (upd (upd H1 d (.lst (iv (r.take n.toNat)))) l (.lst (ras.map V.ref ++ [V.ref d]))) := (Frm.of_same (same_upd hd)).trans (Frm.upd (by simp))
      refine ⟨k - (i + 1), by omega, i + 1, pl2 + 1 + n.toNat, ras ++ [d], done ++ [r.take n.toNat], ys, some (.int ((pl2 : Int) + 1)), rfl, ?_, ?_, ?_, ?_, by rw [List.length_append, hi]; rfl, by omega, ?_, ?_, ?_, ?_⟩
      · have en : ((n.toNat : Nat) : Int) = n := Int.toNat_of_nonneg n0
        push_cast
        rw [en]
        rfl
      · exact fun b o e => by rw [upd_ne (ne_of_none e hl)]; exact same_upd hd _ _ (s1 _ _ e)
      · rw [upd_same]; simp
      · exact Paired.snoc (Paired.mapP hP fun _ _ y => wo_same f1 _ _ y) (wo_at ((upd_ne dl).trans upd_same) (by simpa using dl))
      · rw [hx, e2]; simp
      · rw [show k - (i + 1) = j by omega, ← List.drop_drop, d2]; exact e3
      · have : r.length = ns.length - (pl2 + 1) := by rw [← d2, List.length_drop]
        omega
      · intro b hb
        rcases List.mem_append.mp hb with z | z
        · exact hfr b z
        · simp at z; rw [z]; exact s1.free hd
    · have c : ¬ i < k := by rw [List.length_map, hi] at c; simp at c; omega
      have hz : k - i = 0 := by omega
      rw [hz] at hr2
      have hr2 : some (([] : List (List Int)), ns.drop pl2) = some (rest, t) := hr2
      cases hr2
      rw [List.append_nil] at hx
      subst hx
      refine ⟨_, rfl, _, rfl, (by show 2 ≤ sizeLine; decide), fun tp htp => ?_⟩
      refine q _ tp l ras pl2 (s1.trans (same_upd htp)) upd_same (same_upd htp _ _ hL) (Paired.mapP hP fun _ _ y => same_upd htp _ _ (wo_sub _ _ _ _ y)) hfr rfl hp2
end
end My
end
section
set_option Elab.async false
set_option linter.all false
set_option maxRecDepth 100000
set_option maxHeartbeats 2000000
namespace My
open PySem PySem.Spec PyProof.Rows L2
/-! ### the answers, call by call -/
abbrev SS := Sv17Neutral.S
/-- what a call may be, when the objects stand as s -/
structure CallOk (s : SS) (p : Int) (nums : List Int) (xs : List (List Int)) : Prop where
  shape : ∃ n k, PySv17.shape p = some (n, k) ∧ nums.length = n ∧ xs.length = k
  inside : PyInside.call PySv17.bound ((p :: nums) :: xs) = true
  asked : Sv17Neutral.asked1 (PySv17.whole ((p :: nums) :: xs)) = true
  begun : (match PySv17.whole ((p :: nums) :: xs) with
    | (k :: o :: _) :: _ => decide (k ≤ 5) || (s.getD o.toNat none).isSome
    | _ => false) = true
theorem call_some {l : List Int} {c : List (List Int)} {t : List Int} (h : PyFlat.call PySv17.shape l = some (c, t)) : ∃ p r n k xs, l = p :: r ∧ PySv17.shape p = some (n, k) ∧ n ≤ r.length ∧ PyFlat.rows k (r.drop n) = some (xs, t) ∧ c = (p :: r.take n) :: xs := by
  cases l with
  | nil => cases h
  | cons p r =>
    simp only [PyFlat.call] at h
    cases e : PySv17.shape p with
    | none => rw [e] at h; cases h
    | some nk =>
      obtain ⟨n, k⟩ := nk
      rw [e] at h
      simp only [] at h
      by_cases hl : r.length < n
      · rw [if_pos hl] at h; cases h
      · rw [if_neg hl] at h
        cases e2 : PyFlat.rows k (r.drop n) with
        | none => rw [e2] at h; cases h
        | some p2 =>
          obtain ⟨xs, t2⟩ := p2
          rw [e2] at h
          simp only [] at h
          cases h
          exact ⟨p, r, n, k, xs, rfl, e, by omega, e2, rfl⟩
theorem rows_count : ∀ {k : Nat} {l : List Int} {xs : List (List Int)} {t : List Int}, PyFlat.rows k l = some (xs, t) → xs.length = k
  | 0, l, xs, t, h => by
    have h : some (([] : List (List Int)), l) = some (xs, t) := h
    cases h
    rfl
  | k + 1, l, xs, t, h => by
    obtain ⟨n, r, ys, _, _, _, rfl, e⟩ := rows_succ h
    rw [List.length_cons, rows_count e]
/-- the rest of the calls, from a state -/
structure Rest (l : List Int) (s : SS) (cs : List (List (List Int))) : Prop where
  pc : PC l = some cs
  ins : PyInside.calls PySv17.bound cs = true
  ask : (cs.map PySv17.whole).all Sv17Neutral.asked1 = true
  fit : Sv17Neutral.fits s (cs.map PySv17.whole) = true
theorem Rest.step {l : List Int} {s : SS} {cs : List (List (List Int))} (h : Rest l s cs) (hl : l ≠ []) : ∃ p r n k xs t cs', l = p :: r ∧ PySv17.shape p = some (n, k) ∧ n ≤ r.length ∧ PyFlat.rows k (r.drop n) = some (xs, t) ∧ cs = ((p :: r.take n) :: xs) :: cs' ∧
    CallOk s p (r.take n) xs ∧ Rest t (Sv17Neutral.step s (PySv17.whole ((p :: r.take n) :: xs))).1 cs' := by
  obtain ⟨c, t, cs', h1, h2, h3⟩ := pc_some hl h.pc
  obtain ⟨p, r, n, k, xs, e1, e2, e3, e4, e5⟩ := call_some h1
  subst h3 e5
  have hi := h.ins
  have ha := h.ask
  have hf := h.fit
  simp only [PyInside.calls, List.all_cons, Bool.and_eq_true] at hi
  simp only [List.map_cons, List.all_cons, Bool.and_eq_true] at ha
  rw [List.map_cons] at hf
  unfold Sv17Neutral.fits at hf
  rw [Bool.and_eq_true] at hf
  exact ⟨p, r, n, k, xs, t, cs', e1, e2, e3, e4, rfl, ⟨⟨n, k, e2, by rw [List.length_take]; omega, rows_count e4⟩, hi.1, ha.1, hf.1⟩, ⟨h2, hi.2, ha.2, hf.2⟩⟩
def toldOf (s : SS) (cs : List (List (List Int))) : List Int := PyFlat.told (PyFlat.played Sv17Neutral.step s (cs.map PySv17.whole))
theorem toldOf_cons (s : SS) (c : List (List Int)) (cs : List (List (List Int))) : toldOf s (c :: cs) = (((Sv17Neutral.step s (PySv17.whole c)).2.length : Nat) : Int) :: (Sv17Neutral.step s (PySv17.whole c)).2 ++ toldOf (Sv17Neutral.step s (PySv17.whole c)).1 cs := by
  unfold toldOf
  rw [List.map_cons]
  simp only [PyFlat.played, PyFlat.told, List.flatMap_cons]
theorem rest_start {ns : List Int} (h : PySv17.answers_asked ns = true) : ∃ cs, Rest ns Sv17Neutral.start cs ∧ PySv17.answers ns = toldOf Sv17Neutral.start cs ∧ (PySv17.answers ns).length ≤ 10000000 := by
  unfold PySv17.answers_asked at h
  cases e : PyFlat.calls PySv17.shape ns.length ns with
  | none => rw [e] at h; cases h
  | some raw =>
    rw [e] at h
    simp only [Bool.and_eq_true] at h
    obtain ⟨⟨⟨_, h2⟩, h3⟩, h4⟩ := h
    unfold Sv17Neutral.asked at h3
    rw [Bool.and_eq_true] at h3
    refine ⟨raw, ⟨e, h2, h3.1, h3.2⟩, ?_, of_decide_eq_true h4⟩
    unfold PySv17.answers PySv17.calls
    rw [e]
    rfl
section
variable {P : Program} {w : World} {K : PySem.W.Frag} {mg : Str → Option Value} {base : Heap}
/-- how the objects stand: rest is what else is written, not by the objects' calls -/
abbrev STT := List Addr → Hp → Addr → SS → Prop
structure StOk (ST : STT) : Prop where
  init : ∀ {rest : List Addr} {H : Hp} {od : Addr}, H od = some (.dK []) → od ∉ rest → (∀ b ∈ rest, ∃ o, H b = some o) → ST rest H od Sv17Neutral.start
  frame : ∀ {rest : List Addr} {H H' : Hp} {od : Addr} {s : SS}, ST rest H od s → Frm rest H H' → (∀ b ∈ rest, ∃ o, H' b = some o) → ST rest H' od s
def spOne (ST : STT) : Sp := fun vs H Q _ => ∃ (od nl rl : Addr) (p : Int) (nums : List Int) (ras : List Addr) (xs : List (List Int)) (s : SS) (rest : List Addr) (H0 : Hp), vs = [.ref od, .int p, .ref nl, .ref rl] ∧ IntsAt H nl nums ∧ H rl = some (.lst (ras.map V.ref)) ∧ Paired (IntsAt H) ras xs ∧ ST rest H0 od s ∧ Same H0 H ∧ (∀ b ∈ ras, H0 b = none) ∧ CallOk s p nums xs ∧
  ∀ (H' : Hp) (q : Addr), ST rest H' od (Sv17Neutral.step s (PySv17.whole ((p :: nums) :: xs))).1 → IntsAt H' q (Sv17Neutral.step s (PySv17.whole ((p :: nums) :: xs))).2 → (∀ b ∈ rest, H' b = H b) → q ∉ rest → (∀ b ys, H b = some (.tup ys) → H' b = some (.tup ys)) → Q (.ref q) H'
structure Shp (K : PySem.W.Frag) (mg : Str → Option Value) : Prop where
  ex : ∃ sa, Glb mg "SHAPES" (.ref sa) ∧ ∃ xs, (∀ H, SqT K H sa xs) ∧ ∀ p n k, PySv17.shape p = some (n, k) → ∃ (i : Nat) (ta : Addr), p = (i : Int) ∧ xs[i]? = some (.ref ta) ∧ ∀ H, SqT K H ta [.int (n : Int), .int (k : Int)]
theorem shape_lim {p : Int} {n k : Nat} (h : PySv17.shape p = some (n, k)) : k ≤ 100 := by
  unfold PySv17.shape at h
  by_cases h0 : p = 0
  · rw [if_pos h0] at h; cases h; decide
  rw [if_neg h0] at h
  by_cases h1 : p = 1
  · rw [if_pos h1] at h; cases h; decide
  rw [if_neg h1] at h
  by_cases h2 : p = 2
  · rw [if_pos h2] at h; cases h; decide
  rw [if_neg h2] at h
  by_cases h3 : p = 3
  · rw [if_pos h3] at h; cases h; decide
  rw [if_neg h3] at h
  by_cases h4 : p = 4
  · rw [if_pos h4] at h; cases h; decide
  rw [if_neg h4] at h
  by_cases h5 : p = 5
  · rw [if_pos h5] at h; cases h; decide
  rw [if_neg h5] at h
  by_cases h6 : p = 6
  · rw [if_pos h6] at h; cases h; decide
  rw [if_neg h6] at h
  by_cases h7 : p = 7
  · rw [if_pos h7] at h; cases h; decide
  rw [if_neg h7] at h
  by_cases h8 : p = 8
  · rw [if_pos h8] at h; cases h; decide
  rw [if_neg h8] at h
  by_cases h9 : p = 9
  · rw [if_pos h9] at h; cases h; decide
  rw [if_neg h9] at h
  by_cases h10 : p = 10
  · rw [if_pos h10] at h; cases h; decide
  rw [if_neg h10] at h
  by_cases h11 : p = 11
  · rw [if_pos h11] at h; cases h; decide
  rw [if_neg h11] at h
  by_cases h12 : p = 12
  · rw [if_pos h12] at h; cases h; decide
  rw [if_neg h12] at h
  cases h
def spAll (K : PySem.W.Frag) : Sp := fun vs H Q _ => ∃ (a : Addr) (ns : List Int), vs = [.ref a] ∧ SqL K H a (iv ns) ∧ PySv17.answers_asked ns = true ∧ ∀ (H' : Hp) (p : Addr), IntsAt H' p (PySv17.answers ns) → Q (.ref p) H'
theorem sc_all : FnScope ["calls", "objects", "result", "place", "call", "shape", "rows_start", "read", "answered"] ["calls"] (defScope s_answers) := ⟨rfl, rfl, rfl, by decide +kernel, rfl, by decide +kernel, by decide +kernel⟩
theorem ok_all {f : Addr} {fd : FuncData} {ST : STT} {kk : Nat} (F : Fun K "answers" "answers" s_answers f fd) (gl : mg "len" = none) (hS : StOk ST) (sh : Shp K mg) (cR : Cal P w K mg base "read_rows" 1 ["calls", "place", "count"] (spRR K))
    (cA : Cal P w K mg base "answer" kk ["objects", "call", "numbers", "rows"] (spOne ST)) (hk1 : 1 ≤ kk) : FnOk P w K mg base CX0 (kk + 1) f fd ["calls"] (spAll K) := by
  refine F.ok sc_all (fun vs H Q E h => ?_) (fun cdv A outer s0 H vs Q E hr h => ?_)
  · obtain ⟨a, ns, rfl, _⟩ := h
    rfl
  · obtain ⟨a, ns, rfl, hSq, hask, q⟩ := h
    obtain ⟨sa, gS, sxs, hsx, hsp⟩ := sh.ex
    refine ⟨_, (pss_cons (ps_set (i := 1) sc_all.nd rfl (Or.inl rfl) pe_dnewK)
      (pss_cons (ps_set (i := 2) sc_all.nd rfl (Or.inl rfl) (pe_lst pa_nil))
      (pss_cons (ps_set (i := 3) sc_all.nd rfl (Or.inl rfl) pe_int)
      (pss_cons (ps_while PassesOwn.never (pt_cmpR op_lt (pv 3) (pe_callB call_len_seq rfl gl PySem.boot_len (pa_cons (pv 0) pa_nil)) (nomark _))
      (pss_cons (ps_set (i := 4) sc_all.nd rfl (Or.inl rfl) (pe_ix ix_list (pv 0) (pv 3) (fun _ _ => rfl)))
      (pss_cons (ps_set (i := 5) sc_all.nd rfl (Or.inl rfl) (pe_ix ix_tup (pg_glob gS) (pv 4) (fun _ _ => rfl)))
      (pss_cons (ps_set (i := 6) sc_all.nd rfl (Or.inl rfl) (pe_op op_add (pe_op op_add (pv 3) pe_int) (pe_ix ix_tup (pv 5) pe_int (fun _ _ => rfl))))
      (pss_cons (ps_set (i := 7) sc_all.nd rfl (Or.inl rfl) (pc_call cR hr (pa_cons (pv 0) (pa_cons (pv 6) (pa_cons (pe_ix ix_tup (pv 5) pe_int (fun _ _ => rfl)) pa_nil))) hk1))
      (pss_cons (ps_set (i := 8) sc_all.nd rfl (Or.inl rfl) (pc_call cA hr (pa_cons (pv 1) (pa_cons (pv 4) (pa_cons (pe_slice sl_list (pv 0) (po_some (pe_op op_add (pv 3) pe_int)) (po_some (pv 6))) (pa_cons (pe_ix ix_tup (pv 7) pe_int (fun _ _ => rfl)) pa_nil)))) (Nat.le_refl _)))
      (pss_cons (ps_expr (pe_bm PySem.F.plainAttrs_list PySem.F.slot_list_append PySem.F.type_list_append mt_append (pv 2) (pa_cons (pe_callB call_len_seq rfl gl PySem.boot_len (pa_cons (pv 8) pa_nil)) pa_nil)))
      (pss_cons (ps_expr (pe_bm PySem.F.plainAttrs_list PySem.F.slot_list_extend PySem.F.type_list_extend mt_extend (pv 2) (pa_cons (pv 8) pa_nil)))
      (pss_one (ps_set (i := 3) sc_all.nd rfl (Or.inl rfl) (pe_ix ix_tup (pv 7) pe_int (fun _ _ => rfl))))))))))))
      (pss_one (ps_ret (pv 2))))))), ?_⟩
    obtain ⟨cs0, R0, hans, hlen⟩ := rest_start hask
    intro od hod
    refine ⟨Nat.zero_le _, fun res hres => ?_⟩
    have ro : od ≠ res := ne_of_none upd_same hres
    have hod1 : (upd (upd H od (.dK [])) res (.lst [])) od = some (.dK []) := by rw [upd_ne ro, upd_same]
    have s01 : Same H (upd (upd H od (.dK [])) res (.lst [])) := (same_upd hod).trans (same_upd hres)
    have hres0 : H res = none := (same_upd (o := HO.dK []) hod).free hres
    -- what the objects' calls leave alone: the result, and the list handed in where it is a thing of the heap
    obtain ⟨keep, hkeep, hkn, hkt⟩ : ∃ keep : List Addr, (∀ H1 H2 : Hp, SqL K H1 a (iv ns) → (∀ b ∈ keep, H2 b = H1 b) → SqL K H2 a (iv ns)) ∧ (∀ b ∈ keep, b ≠ od ∧ b ≠ res) ∧ (∀ b ∈ keep, ∃ o, H b = some o) := by
      rcases hSq with (hs | ⟨o, hs⟩) | hs
      · refine ⟨[a], fun H1 H2 h1 h2 => ?_, fun b hb => ?_, fun b hb => ?_⟩
        · rcases h1 with (h1 | ⟨o, h1⟩) | h1
          · exact .inl (.inl ((h2 a (by simp)).trans h1))
          · exact .inl (.inr ⟨o, (h2 a (by simp)).trans h1⟩)
          · exact .inr h1
        · simp at hb; subst hb; exact ⟨ne_of_none hs hod, ne_of_none hs hres0⟩
        · simp at hb; subst hb; exact ⟨_, hs⟩
      · refine ⟨[a], fun H1 H2 h1 h2 => ?_, fun b hb => ?_, fun b hb => ?_⟩
        · rcases h1 with (h1 | ⟨o, h1⟩) | h1
          · exact .inl (.inl ((h2 a (by simp)).trans h1))
          · exact .inl (.inr ⟨o, (h2 a (by simp)).trans h1⟩)
          · exact .inr h1
        · simp at hb; subst hb; exact ⟨ne_of_none hs hod, ne_of_none hs hres0⟩
        · simp at hb; subst hb; exact ⟨_, hs⟩
      · exact ⟨[], fun _ _ _ _ => .inr hs, by simp, by simp⟩
    have hT0 : ST (res :: keep) (upd (upd H od (.dK [])) res (.lst [])) od Sv17Neutral.start := hS.init hod1 (by
      simp
      exact ⟨ro, fun m => (hkn od m).1 rfl⟩) (by
      intro b hb
      rcases List.mem_cons.mp hb with z | z
      · rw [z]; exact ⟨_, upd_same⟩
      · obtain ⟨o, y⟩ := hkt b z; exact ⟨o, s01 _ _ y⟩)
    refine ⟨fun m σ H' => ∃ (pl : Nat) (s : SS) (cs : List (List (List Int))) (done : List Int) (x4 x5 x6 x7 x8 : Option V), m = ns.length - pl ∧ σ = [some (.ref a), some (.ref od), some (.ref res), some (.int (pl : Int)), x4, x5, x6, x7, x8] ∧ pl ≤ ns.length ∧ SqL K H' a (iv ns) ∧ IntsAt H' res done ∧ ST (res :: keep) H' od s ∧ (∀ b ∈ keep, ∃ o, H' b = some o) ∧ Rest (ns.drop pl) s cs ∧ PySv17.answers ns = done ++ toldOf s cs,
      ⟨_, 0, Sv17Neutral.start, cs0, [], none, none, none, none, none, rfl, rfl, Nat.zero_le _, s01.seq hSq, upd_same, hT0, fun b hb => by obtain ⟨o, y⟩ := hkt b hb; exact ⟨o, s01 _ _ y⟩, R0, hans⟩, ?_⟩
    rintro m σ H1 ⟨pl, s, cs, done, x4, x5, x6, x7, x8, rfl, rfl, hpl, hq1, hr1, hT, hkt1, hR, ha1⟩
    refine ⟨_, rfl, _, rfl, a, _, rfl, .inl hq1, _, _, rfl, rfl, _, rfl, ite2 (fun c => ?_) (fun c => ?_)⟩
    · have c : pl < ns.length := by unfold iv at c; rw [List.length_map] at c; simp at c; omega
      refine ⟨_, fun σ' H' z => z, ?_⟩
      obtain ⟨p, r, n, k, xs, t, cs', e1, e2, e3, e4, e5, hok, hR'⟩ := hR.step (fun z => by have := congrArg List.length z; rw [List.length_drop] at this; simp at this; omega)
      obtain ⟨d1, d2, d3⟩ := drop_cons e1
      obtain ⟨i, ta, ep, hta, hshape⟩ := hsp p n k e2
      refine ⟨_, rfl, _, rfl, a, _, _, _, rfl, rfl, hq1, atI_nat (iv_get d1), ?_⟩
      refine ⟨_, rfl, sa, _, _, _, rfl, rfl, hsx H1, at_of ep hta, ?_⟩
      refine ⟨_, rfl, _, _, rfl, rfl, _, rfl, ta, _, _, _, rfl, rfl, hshape H1, atI_nat (j := 0) rfl, _, _, rfl, rfl, ?_⟩
      refine ⟨_, rfl, _, rfl, _, rfl, ta, _, _, _, rfl, rfl, hshape H1, atI_nat (j := 1) rfl, ?_⟩
      have epl : ((pl : Int) + 1 + (n : Int)) = ((pl + 1 + n : Nat) : Int) := by push_cast; rfl
      have edr : ns.drop (pl + 1 + n) = r.drop n := by rw [← List.drop_drop, d2]
      have hrl : r.length = ns.length - (pl + 1) := by rw [← d2, List.length_drop]
      refine ⟨a, ns, pl + 1 + n, k, xs, t, ?_, hq1, by rw [edr]; exact e4, by omega, shape_lim e2, fun H2 tp rl ras pl' s2 htp hrl2 hras hfr hdr hpl' => ?_⟩
      · rw [← epl]; rfl
      refine ⟨_, rfl, _, rfl, _, rfl, _, rfl, _, _, rfl, rfl, _, rfl, _, rfl, _, rfl, a, _, rfl, s2.seq hq1, fun nl hnl => ?_⟩
      have ec : cutV (iv ns) (some ((pl : Int) + 1)) (some ((pl : Int) + 1 + (n : Int))) = iv (r.take n) := by
        have := cut_iv ns (pl + 1) (pl + 1 + n)
        rw [show pl + 1 + n - (pl + 1) = n by omega, d2] at this
        rw [← this]
        push_cast
        rfl
      rw [ec]
      have s3 := same_upd (o := .lst (iv (r.take n))) hnl
      have s23 := s2.trans s3
      refine ⟨_, rfl, tp, _, _, _, rfl, rfl, SqT.of (s3 _ _ htp), atI_nat (j := 0) rfl, ?_⟩
      refine ⟨od, nl, rl, p, r.take n, ras, xs, s, res :: keep, H1, rfl, upd_same, s3 _ _ hrl2, Paired.mapP hras fun _ _ y => s3 _ _ y, hT, s23, hfr, hok, fun H4 qa hT4 hq4 hk4 hqn htu => ?_⟩
      have hres4 : IntsAt H4 res done := (hk4 res (by simp)).trans (s23 _ _ hr1)
      have hq5 : SqL K H4 a (iv ns) := hkeep _ _ (s23.seq hq1) fun b hb => hk4 b (by simp [hb])
      generalize hans2 : (Sv17Neutral.step s (PySv17.whole ((p :: r.take n) :: xs))).2 = ans at hq4
      have hto : toldOf s cs = ((ans.length : Nat) : Int) :: ans ++ toldOf (Sv17Neutral.step s (PySv17.whole ((p :: r.take n) :: xs))).1 cs' := by rw [e5, toldOf_cons, hans2]
      have hbig : done.length + (1 + ans.length) ≤ 10000000 := by
        rw [ha1, hto, List.length_append, List.length_append, List.length_cons] at hlen
        omega
      have hqr : qa ≠ res := fun z => hqn (by simp [z])
      refine ⟨_, rfl, .inl ⟨rfl, _, SqL.of hres4⟩, _, rfl, qa, _, rfl, .inl (SqL.of hq4), res, _, _, rfl, rfl, hres4, (by unfold iv; rw [List.length_map, ← line_big]; omega), ?_⟩
      have hq6 : upd H4 res (.lst (iv done ++ [V.int ((iv ans).length : Nat)])) qa = some (.lst (iv ans)) := (upd_ne hqr).trans hq4
      refine ⟨_, rfl, .inl ⟨rfl, _, SqL.of upd_same⟩, _, rfl, res, qa, _, _, rfl, rfl, upd_same, hq6, (by unfold iv; rw [List.length_append, List.length_map, List.length_map, ← line_big]; simp; omega), ?_⟩
      have htp4 := htu _ _ (s3 _ _ htp)
      have tpr : tp ≠ res := ne_of htp4 hres4 (by intro z; cases z)
      refine ⟨_, rfl, tp, _, _, _, rfl, rfl, SqT.of ((upd_ne tpr).trans ((upd_ne tpr).trans htp4)), atI_nat (j := 1) rfl, ?_⟩
      have fres : Frm (res :: keep) H4 (upd (upd H4 res (.lst (iv done ++ [V.int ((iv ans).length : Nat)]))) res (.lst (iv done ++ [V.int ((iv ans).length : Nat)] ++ iv ans))) := (Frm.upd (by simp)).trans (Frm.upd (by simp))
      have hkn4 : ∀ b ∈ keep, (upd (upd H4 res (.lst (iv done ++ [V.int ((iv ans).length : Nat)]))) res (.lst (iv done ++ [V.int ((iv ans).length : Nat)] ++ iv ans))) b = H4 b := fun b hb => by rw [upd_ne (hkn b hb).2, upd_ne (hkn b hb).2]
      have hkt4 : ∀ b ∈ keep, ∃ o, H4 b = some o := fun b hb => by
        obtain ⟨o, y⟩ := hkt1 b hb
        exact ⟨o, (hk4 b (by simp [hb])).trans (s23 _ _ y)⟩
      have ht : t.length < ns.length - pl := by
        have := rows_len k e4
        rw [List.length_drop] at this
        omega
      have hpl2 : ns.length - pl' < ns.length - pl := by
        have := congrArg List.length hdr
        rw [List.length_drop] at this
        omega
      refine ⟨ns.length - pl', hpl2, pl', _, cs', done ++ (((ans.length : Nat) : Int) :: ans), some (V.int p), some (V.ref ta), some (V.int ((pl : Int) + 1 + (n : Int))), some (V.ref tp), some (V.ref qa), rfl, rfl, hpl', hkeep _ _ hq5 hkn4, ?_, hS.frame hT4 fres ?_, fun b hb => ?_, by rw [hdr]; exact hR', ?_⟩
      · unfold IntsAt
        rw [upd_same]
        simp [iv]
      · intro b hb
        rcases List.mem_cons.mp hb with z | z
        · rw [z]; exact ⟨_, upd_same⟩
        · obtain ⟨o, y⟩ := hkt4 b z; exact ⟨o, (hkn4 b z).trans y⟩
      · obtain ⟨o, y⟩ := hkt4 b hb; exact ⟨o, (hkn4 b hb).trans y⟩
      · rw [ha1, hto]
        simp
    · have c : ¬ pl < ns.length := by unfold iv at c; rw [List.length_map] at c; simp at c; omega
      have hd : ns.drop pl = [] := List.drop_eq_nil_of_le (by omega)
      rw [hd] at hR
      have hcs : cs = [] := by have := hR.pc; rw [pc_nil] at this; cases this; rfl
      subst hcs
      have : toldOf s [] = [] := rfl
      rw [this, List.append_nil] at ha1
      rw [← ha1] at hr1
      exact ⟨_, rfl, q _ _ hr1⟩
end
end My
end
section
set_option Elab.async false
set_option linter.all false
set_option maxRecDepth 100000
set_option maxHeartbeats 2000000
namespace My
open PySem PySem.Spec PyProof.Rows L2
/-! ### the four objects -/
abbrev OAT := List Addr → Hp → Addr → List Addr → Sv17.Obj → Prop
structure ObOk (OA : OAT) : Prop where
  frame : ∀ {m m' n : List Addr} {H H' : Hp} {a : Addr} {ow : List Addr} {o : Sv17.Obj}, OA m H a ow o → Frm n H H' → (∀ b ∈ n, b ∈ m) → (∀ b ∈ ow, b ∉ n) → (∀ b ∈ m', b ∈ m ∨ H b = none) → OA m' H' a ow o
def cnt (s : SS) : Nat := (s.filter Option.isSome).length
theorem cnt_new : ∀ {s : SS} {k : Nat} {o : Sv17.Obj}, s[k]? = some none → cnt (s.set k (some o)) = cnt s + 1
  | [], k, o, h => by simp at h
  | x :: s, 0, o, h => by
    have h : x = none := by simpa using h
    subst h
    simp [cnt]
  | x :: s, k + 1, o, h => by
    have ih := cnt_new (s := s) (k := k) (o := o) (by simpa using h)
    unfold cnt at ih ⊢
    rw [List.set_cons_succ, List.filter_cons, List.filter_cons]
    split
    · simp only [List.length_cons]; omega
    · exact ih
theorem cnt_old : ∀ {s : SS} {k : Nat} {x o : Sv17.Obj}, s[k]? = some (some x) → cnt (s.set k (some o)) = cnt s
  | [], k, x, o, h => by simp at h
  | y :: s, 0, x, o, h => by
    have h : y = some x := by simpa using h
    subst h
    simp [cnt]
  | y :: s, k + 1, x, o, h => by
    have ih := cnt_old (s := s) (k := k) (x := x) (o := o) (by simpa using h)
    unfold cnt at ih ⊢
    rw [List.set_cons_succ, List.filter_cons, List.filter_cons]
    split
    · simp only [List.length_cons]; omega
    · exact ih
theorem cnt_le (s : SS) : cnt s ≤ s.length := List.length_filter_le ..
structure StAt (OA : OAT) (rest : List Addr) (H : Hp) (od : Addr) (s : SS) (kvs : List (Key × V)) (m : List Addr) (ad : Nat → Addr) (ow : Nat → List Addr) : Prop where
  dk : H od = some (.dK kvs)
  ln : kvs.length ≤ cnt s
  l4 : s.length = 4
  om : od ∈ m
  rm : ∀ b ∈ rest, b ∈ m
  tk : ∀ b ∈ m, ∃ o, H b = some o
  or_ : od ∉ rest
  no : ∀ k : Nat, s[k]? = some none → valV kvs (Sum.inl (k : Int)) = none
  ob : ∀ (k : Nat) (o : Sv17.Obj), s[k]? = some (some o) → valV kvs (Sum.inl (k : Int)) = some (.ref (ad k)) ∧ OA m H (ad k) (ow k) o ∧ ∀ b ∈ ow k, b ∈ m ∧ b ≠ od ∧ b ∉ rest
  dj : ∀ (j k : Nat) (o u : Sv17.Obj), j ≠ k → s[j]? = some (some o) → s[k]? = some (some u) → ∀ b ∈ ow j, b ∉ ow k
def STA (OA : OAT) : STT := fun rest H od s => ∃ kvs m ad ow, StAt OA rest H od s kvs m ad ow
theorem st_ok {OA : OAT} (hO : ObOk OA) : StOk (STA OA) := by
  refine ⟨fun {rest H od} h1 h2 h3 => ?_, fun {rest H H' od s} h f t => ?_⟩
  · refine ⟨[], od :: rest, fun _ => 0, fun _ => [], h1, Nat.zero_le _, rfl, by simp, fun b hb => by simp [hb], fun b hb => ?_, h2, fun k _ => rfl, fun k o e => ?_, fun j k o u _ e => ?_⟩
    · rcases List.mem_cons.mp hb with z | z
      · rw [z]; exact ⟨_, h1⟩
      · exact h3 b z
    · have : (List.replicate 4 (none : Sv17.Abs))[k]? = some (some o) := e
      rw [List.getElem?_replicate] at this
      split at this
      · cases this
      · cases this
    · have : (List.replicate 4 (none : Sv17.Abs))[j]? = some (some o) := e
      rw [List.getElem?_replicate] at this
      split at this
      · cases this
      · cases this
  · obtain ⟨kvs, m, ad, ow, h⟩ := h
    refine ⟨kvs, m, ad, ow, f _ _ h.dk h.or_, h.ln, h.l4, h.om, h.rm, fun b hb => ?_, h.or_, h.no, fun k o e => ?_, h.dj⟩
    · by_cases z : b ∈ rest
      · exact t b z
      · obtain ⟨o, y⟩ := h.tk b hb
        exact ⟨o, f _ _ y z⟩
    · obtain ⟨e1, e2, e3⟩ := h.ob k o e
      exact ⟨e1, hO.frame e2 f h.rm (fun b hb => (e3 b hb).2.2) (fun b hb => .inl hb), e3⟩
/-- an object has turned -/
theorem StAt.turn {OA : OAT} (hO : ObOk OA) {rest : List Addr} {H H' : Hp} {od : Addr} {s : SS} {kvs : List (Key × V)} {m : List Addr} {ad : Nat → Addr} {ow : Nat → List Addr} (h : StAt OA rest H od s kvs m ad ow) {k : Nat} {o o' : Sv17.Obj} (hk : s[k]? = some (some o)) {ow' ex : List Addr}
    (f : Frm (ow k) H H') (t : ∀ b ∈ ow k, ∃ u, H' b = some u) (hex : ∀ b ∈ ex, H b = none ∧ ∃ u, H' b = some u) (ho : OA (ex ++ m) H' (ad k) ow' o') (how : ∀ b ∈ ow', b ∈ ow k ∨ b ∈ ex) : STA OA rest H' od (s.set k (some o')) := by
  have hkl : k < s.length := (List.getElem?_eq_some_iff.mp hk).1
  obtain ⟨k1, k2, k3⟩ := h.ob k o hk
  have nod : od ∉ ow k := fun z => (k3 od z).2.1 rfl
  have keep : ∀ b ∈ m, ∃ u, H' b = some u := fun b hb => by
    by_cases z : b ∈ ow k
    · exact t b z
    · obtain ⟨u, y⟩ := h.tk b hb
      exact ⟨u, f _ _ y z⟩
  have exm : ∀ b ∈ ex, b ∉ m := fun b hb z => by
    obtain ⟨u, y⟩ := h.tk b z
    rw [(hex b hb).1] at y; cases y
  refine ⟨kvs, ex ++ m, ad, fun j => if j = k then ow' else ow j, f _ _ h.dk nod, by rw [cnt_old hk]; exact h.ln, by rw [List.length_set]; exact h.l4, by simp [h.om], fun b hb => by simp [h.rm b hb], fun b hb => ?_, h.or_, fun j hj => ?_, fun j u hj => ?_, fun i j u v hij hi hj b hb => ?_⟩
  · rcases List.mem_append.mp hb with z | z
    · exact (hex b z).2
    · exact keep b z
  · by_cases z : j = k
    · subst z
      rw [List.getElem?_set_self hkl] at hj; cases hj
    · rw [List.getElem?_set_ne (Ne.symm z)] at hj
      exact h.no j hj
  · by_cases z : j = k
    · subst z
      rw [List.getElem?_set_self hkl] at hj
      cases hj
      refine ⟨k1, ?_, fun b hb => ?_⟩
      · rw [if_pos rfl]; exact ho
      · rw [if_pos rfl] at hb
        rcases how b hb with q | q
        · exact ⟨by simp [(k3 b q).1], (k3 b q).2⟩
        · refine ⟨by simp [q], fun z => exm b q (by rw [z]; exact h.om), fun z => exm b q (h.rm b z)⟩
    · rw [List.getElem?_set_ne (Ne.symm z)] at hj
      obtain ⟨e1, e2, e3⟩ := h.ob j u hj
      rw [if_neg z]
      refine ⟨e1, hO.frame e2 f (fun b hb => (k3 b hb).1) (fun b hb => h.dj j k u o z hj hk b hb) (fun b hb => ?_), fun b hb => ⟨by simp [(e3 b hb).1], (e3 b hb).2⟩⟩
      rcases List.mem_append.mp hb with q | q
      · exact .inr (hex b q).1
      · exact .inl q
  · have old : ∀ (x : Nat) (q : Sv17.Obj), x ≠ k → (s.set k (some o'))[x]? = some (some q) → s[x]? = some (some q) := fun x q hx e => by rw [List.getElem?_set_ne (Ne.symm hx)] at e; exact e
    have inm : ∀ (x : Nat) (q : Sv17.Obj), s[x]? = some (some q) → ∀ b ∈ ow x, b ∈ m := fun x q e b hb => ((h.ob x q e).2.2 b hb).1
    by_cases zi : i = k
    · have zj : j ≠ k := fun z => hij (zi.trans z.symm)
      simp only [if_pos zi] at hb
      simp only [if_neg zj]
      have ej := old j v zj hj
      rcases how b hb with q | q
      · exact fun y => h.dj j k v o zj ej hk b y q
      · exact fun y => exm b q (inm j v ej b y)
    · simp only [if_neg zi] at hb
      have ei := old i u zi hi
      by_cases zj : j = k
      · simp only [if_pos zj]
        intro y
        rcases how b y with q | q
        · exact h.dj i k u o zi ei hk b hb q
        · exact exm b q (inm i u ei b hb)
      · simp only [if_neg zj]
        exact h.dj i j u v hij ei (old j v zj hj) b hb
/-- an object is begun: it was laid (its own things new), then stored under its number -/
theorem StAt.new {OA : OAT} (hO : ObOk OA) {rest : List Addr} {H H1 : Hp} {od : Addr} {s : SS} {kvs : List (Key × V)} {m : List Addr} {ad : Nat → Addr} {ow : Nat → List Addr} (h : StAt OA rest H od s kvs m ad ow) {k : Nat} {o' : Sv17.Obj} (hkl : k < 4) {a : Addr} {ow' : List Addr}
    (f : Same H H1) (hex : ∀ b ∈ ow', H b = none ∧ ∃ u, H1 b = some u) (ho : ∀ H2 : Hp, Frm [od] H1 H2 → OA (ow' ++ m) H2 a ow' o') : STA OA rest (upd H1 od (.dK (putK kvs (Sum.inl (k : Int)) (.ref a)))) od (s.set k (some o')) := by
  have hl4 := h.l4
  have exm : ∀ b ∈ ow', b ∉ m := fun b hb z => by
    obtain ⟨u, y⟩ := h.tk b z
    rw [(hex b hb).1] at y; cases y
  have fod : Frm [od] H (upd H1 od (.dK (putK kvs (Sum.inl (k : Int)) (.ref a)))) := (Frm.of_same f).trans (Frm.upd (by simp))
  refine ⟨putK kvs (Sum.inl (k : Int)) (.ref a), ow' ++ m, fun j => if j = k then a else ad j, fun j => if j = k then ow' else ow j, upd_same, ?_, by rw [List.length_set]; exact h.l4, by simp [h.om], fun b hb => by simp [h.rm b hb], fun b hb => ?_, h.or_, fun j hj => ?_, fun j u hj => ?_, fun i j u v hij hi hj b hb => ?_⟩
  · obtain ⟨x, hx⟩ : ∃ x, s[k]? = some x := ⟨_, List.getElem?_eq_getElem (by omega)⟩
    have hln := h.ln
    cases x with
    | none =>
      rw [cnt_new hx]
      have := length_putK kvs (Sum.inl (k : Int)) (.ref a)
      omega
    | some x =>
      rw [cnt_old hx]
      have hv := (h.ob k x hx).1
      have : (putK kvs (Sum.inl (k : Int)) (.ref a)).length = kvs.length := by
        unfold putK
        rw [valV_any, hv, if_pos (show (some (V.ref (ad k))).isSome = true from rfl), List.length_map]
      omega
  · by_cases z : b = od
    · rw [z]; exact ⟨_, upd_same⟩
    · rw [upd_ne z]
      rcases List.mem_append.mp hb with y | y
      · exact (hex b y).2
      · obtain ⟨u, q⟩ := h.tk b y
        exact ⟨u, f _ _ q⟩
  · by_cases z : j = k
    · subst z
      rw [List.getElem?_set_self (by omega)] at hj; cases hj
    · rw [List.getElem?_set_ne (Ne.symm z)] at hj
      rw [valV_put, if_neg (by intro q; apply z; have := Sum.inl.inj q; omega)]
      exact h.no j hj
  · by_cases z : j = k
    · subst z
      rw [List.getElem?_set_self (by omega)] at hj
      cases hj
      simp only [if_pos]
      refine ⟨by rw [valV_put, if_pos rfl], ho _ (Frm.upd (by simp)), fun b hb => ⟨by simp [hb], fun z => exm b hb (by rw [z]; exact h.om), fun z => exm b hb (h.rm b z)⟩⟩
    · rw [List.getElem?_set_ne (Ne.symm z)] at hj
      obtain ⟨e1, e2, e3⟩ := h.ob j u hj
      simp only [if_neg z]
      refine ⟨by rw [valV_put, if_neg (by intro q; apply z; have := Sum.inl.inj q; omega)]; exact e1, hO.frame e2 fod (by simpa using h.om) (fun b hb => by simpa using (e3 b hb).2.1) (fun b hb => ?_), fun b hb => ⟨by simp [(e3 b hb).1], (e3 b hb).2⟩⟩
      rcases List.mem_append.mp hb with q | q
      · exact .inr (hex b q).1
      · exact .inl q
  · have old : ∀ (x : Nat) (q : Sv17.Obj), x ≠ k → (s.set k (some o'))[x]? = some (some q) → s[x]? = some (some q) := fun x q hx e => by rw [List.getElem?_set_ne (Ne.symm hx)] at e; exact e
    have inm : ∀ (x : Nat) (q : Sv17.Obj), s[x]? = some (some q) → ∀ b ∈ ow x, b ∈ m := fun x q e b hb => ((h.ob x q e).2.2 b hb).1
    by_cases zi : i = k
    · have zj : j ≠ k := fun z => hij (zi.trans z.symm)
      simp only [if_pos zi] at hb
      simp only [if_neg zj]
      exact fun y => exm b hb (inm j v (old j v zj hj) b y)
    · simp only [if_neg zi] at hb
      have ei := old i u zi hi
      by_cases zj : j = k
      · simp only [if_pos zj]
        exact fun y => exm b y (inm i u ei b hb)
      · simp only [if_neg zj]
        exact h.dj i j u v hij ei (old j v zj hj) b hb
end My
end
section
set_option Elab.async false
set_option linter.all false
set_option maxRecDepth 100000
set_option maxHeartbeats 2000000
namespace My
open PySem PySem.Spec PyProof.Rows L2
/-! ### a hand's attributes, the host's -/
def handF (t : Addr) (r : Nat) (o b : V) : List (Str × V) := [("text", .ref t), ("revision", .int r), ("out", o), ("kept_back", b)]
section
variable (t : Addr) (r : Nat) (o b : V)
theorem handF_text : (handF t r o b).lookup ("text" : Str) = some (.ref t) := lk_eq
theorem handF_rev : (handF t r o b).lookup ("revision" : Str) = some (.int r) := (lk_ne (by decide +kernel)).trans lk_eq
theorem handF_out : (handF t r o b).lookup ("out" : Str) = some o := (lk_ne (by decide +kernel)).trans ((lk_ne (by decide +kernel)).trans lk_eq)
theorem handF_back : (handF t r o b).lookup ("kept_back" : Str) = some b := (lk_ne (by decide +kernel)).trans ((lk_ne (by decide +kernel)).trans ((lk_ne (by decide +kernel)).trans lk_eq))
theorem handF_no {m : Str} (h : (m == "text" || m == "revision" || m == "out" || m == "kept_back") = false) : (handF t r o b).lookup m = none := by
  simp only [Bool.or_eq_false_iff] at h
  exact (lk_ne h.1.1.1).trans ((lk_ne h.1.1.2).trans ((lk_ne h.1.2).trans ((lk_ne h.2).trans rfl)))
theorem handF_stext (y : Addr) : putF "text" (.ref y) (handF t r o b) = handF y r o b := by unfold handF; rw [pf_eq]
theorem handF_srev (y : Nat) : putF "revision" (.int y) (handF t r o b) = handF t y o b := by unfold handF; rw [pf_ne (by decide +kernel), pf_eq]
theorem handF_sout (y : V) : putF "out" y (handF t r o b) = handF t r y b := by unfold handF; rw [pf_ne (by decide +kernel), pf_ne (by decide +kernel), pf_eq]
theorem handF_sback (y : V) : putF "kept_back" y (handF t r o b) = handF t r o y := by unfold handF; rw [pf_ne (by decide +kernel), pf_ne (by decide +kernel), pf_ne (by decide +kernel), pf_eq]
end
structure HandTxt (K : PySem.W.Frag) (C : Addr) : Prop where
  cl : Cls K C
  n1 : NoAttr K C "text"
  n2 : NoAttr K C "revision"
  n3 : NoAttr K C "out"
  n4 : NoAttr K C "kept_back"
/-- a hand at a; m: what is still written -/
structure HandAt (HC : Addr) (m : List Addr) (H : Hp) (a : Addr) (h : Sv17.Hand) : Prop where
  inv : HandInv h
  ex : ∃ dx t vo vb, H a = some (.ins HC dx (handF t h.revision vo vb)) ∧ wo H m t = some (.lst (bv h.text)) ∧ OptEdit (wo H m) vo h.out ∧ OptEdit (wo H m) vb h.back
theorem OptEdit.same {H H' : Hp} {v : V} {o : Option Edit} (z : Same H H') (h : OptEdit H v o) : OptEdit H' v o := by
  cases o with
  | none => exact h
  | some e =>
    obtain ⟨a, h1, h2⟩ := h
    exact ⟨a, h1, h2.same z⟩
theorem HandAt.frame {HC : Addr} {m m' n : List Addr} {H H' : Hp} {a : Addr} {h : Sv17.Hand} (x : HandAt HC m H a h) (f : Frm n H H') (hn : ∀ b ∈ n, b ∈ m) (ha : a ∉ n) (hm : ∀ b ∈ m', b ∈ m ∨ H b = none) : HandAt HC m' H' a h := by
  obtain ⟨dx, t, vo, vb, h1, h2, h3, h4⟩ := x.ex
  have w := wo_mono (f.mono hn) hm
  exact ⟨x.inv, dx, t, vo, vb, f _ _ h1 ha, w _ _ h2, h3.same w, h4.same w⟩
section
variable {P : Program} {w : World} {K : PySem.W.Frag} {mg : Str → Option Value} {base : Heap}
def spHandInit (C : Addr) : Sp := fun vs H Q _ => ∃ (p t dx : Addr), vs = [.ref p, .ref t] ∧ H p = some (.ins C dx []) ∧ ∀ H' : Hp, H' p = some (.ins C dx (handF t 0 .non .non)) → Frm [p] H H' → Q .non H'
theorem sc_hi : FnScope ["self", "text"] ["self", "text"] (defScope s_Hand_init) := ⟨rfl, rfl, rfl, by decide +kernel, rfl, by decide +kernel, by decide +kernel⟩
theorem ok_hi {f C : Addr} {fd : FuncData} (F : Fun K "__init__" "Hand.__init__" s_Hand_init f fd) (T : HandTxt K C) : FnOk P w K mg base CX0 1 f fd ["self", "text"] (spHandInit C) := by
  refine F.ok sc_hi (fun vs H Q E h => ?_) (fun cdv A outer s H vs Q E hr h => ?_)
  · obtain ⟨p, t, dx, rfl, _⟩ := h
    rfl
  · obtain ⟨p, t, dx, rfl, ho, q⟩ := h
    refine ⟨_, pss_cons (ps_fld (pv 0) (pv 1) rfl) (pss_cons (ps_fld (pv 0) pe_int rfl) (pss_cons (ps_fld (pv 0) pe_non rfl) (pss_one (ps_fld (pv 0) pe_non rfl)))), ?_⟩
    refine ⟨_, rfl, _, rfl, p, C, dx, _, rfl, ho, T.cl, T.n1, (by show 0 < 1000; decide), ?_⟩
    refine ⟨_, rfl, p, C, dx, _, rfl, upd_same, T.cl, T.n2, (by show 1 < 1000; decide), ?_⟩
    refine ⟨_, rfl, p, C, dx, _, rfl, upd_same, T.cl, T.n3, (by show 2 < 1000; decide), ?_⟩
    refine ⟨_, rfl, p, C, dx, _, rfl, upd_same, T.cl, T.n4, (by show 3 < 1000; decide), ?_⟩
    refine q _ ?_ ((((Frm.upd (by simp)).trans (Frm.upd (by simp))).trans (Frm.upd (by simp))).trans (Frm.upd (by simp)))
    rw [upd_same]
    rfl
/-! ### change -/
def spChange (HC : Addr) : Sp := fun vs H Q _ => ∃ (p a : Addr) (x : Edit) (h : Sv17.Hand) (m : List Addr), vs = [.ref p, .ref a] ∧ HandAt HC m H p h ∧ p ∈ m ∧ (∀ b ∈ m, ∃ o, H b = some o) ∧ EditAt (wo H m) a x ∧ EOk x ∧ Sv17.before x = h.text.length ∧ ∀ H' : Hp, HandAt HC m H' p (h.edit x).1 → Frm [p] H H' → Q (.bl (h.edit x).2) H'
theorem sc_hc : FnScope ["self", "edit"] ["self", "edit"] (defScope s_Hand_change) := ⟨rfl, rfl, rfl, by decide +kernel, rfl, by decide +kernel, by decide +kernel⟩
theorem fresh_m {m : List Addr} {H G : Hp} {c : Addr} (t : ∀ b ∈ m, ∃ o, H b = some o) (z : H c = none) : c ∉ m := fun q => by
  obtain ⟨o, y⟩ := t _ q
  rw [y] at z; cases z
theorem ok_hc {f C : Addr} {fd : FuncData} (F : Fun K "change" "Hand.change" s_Hand_change f fd) (T : HandTxt K C) (ca : Cal P w K mg base "applied" 1 ["edit", "text"] spApp) (cc : Cal P w K mg base "composed" 4 ["a", "b"] spCmp) : FnOk P w K mg base CX0 5 f fd ["self", "edit"] (spChange C) := by
  refine F.ok sc_hc (fun vs H Q E h => ?_) (fun cdv A outer s H vs Q E hr h => ?_)
  · obtain ⟨p, a, x, h, m, rfl, _⟩ := h
    rfl
  · obtain ⟨p, a, x, h, m, rfl, hA, pm, tm, hE, hx, hf, q⟩ := h
    obtain ⟨dx, t, vo, vb, ho, ht, hvo, hvb⟩ := hA.ex
    refine ⟨_, pss_cons (ps_fld (pv 0) (pc_call ca hr (pa_cons (pv 1) (pa_cons (pe_fld (pv 0) rfl) pa_nil))) rfl)
      (pss_cons (ps_if (pt_cmp (pc_isN (pe_fld (pv 0) rfl))) (pss_cons (ps_fld (pv 0) (pv 1) rfl) (pss_one (ps_ret pe_bl))) pss_nil)
      (pss_cons (ps_if (pt_cmp (pc_isN (pe_fld (pv 0) rfl))) (pss_one (ps_fld (pv 0) (pv 1) rfl)) (pss_one (ps_fld (pv 0) (pc_call cc hr (pa_cons (pe_fld (pv 0) rfl) (pa_cons (pv 1) pa_nil))) rfl)))
      (pss_one (ps_ret pe_bl)))), ?_⟩
    have hl : (Sv17.apply x h.text).length = Sv17.behind x := apply_len (Nat.le_of_eq hf)
    have hxb := hx.beh
    have inv2 := (hand_edit hA.inv hx hf).1
    refine ⟨_, rfl, _, rfl, p, C, dx, _, _, rfl, ho, T.cl, T.n1, handF_text .., a, t, x, h.text, rfl, hE.same (wo_sub _ _), wo_sub _ _ _ _ ht, by rw [← line_big]; omega, fun t1 H1 s1 nt1 ht1 => ?_⟩
    have ho1 := s1 _ _ ho
    refine ⟨_, rfl, p, C, dx, _, rfl, ho1, T.cl, T.n1, (by show 4 < 1000; decide), ?_⟩
    rw [handF_stext]
    have np : ∀ b, b ∉ m → b ≠ p := fun b hb z => hb (by rw [z]; exact pm)
    -- the heap behind: the hand's object alone is written, on a heap that has grown
    have wof : ∀ (G : Hp) (o : HO), Same H G → Same (wo H m) (wo (upd G p o) m) := fun G o z => wo_same ((Frm.of_same z).trans (Frm.upd pm))
    have ht1w : ∀ (G : Hp) (o : HO), Same H1 G → wo (upd G p o) m t1 = some (.lst (bv (Sv17.apply x h.text))) := fun G o z => by
      have n1 := fresh_m (G := H) tm nt1
      exact wo_at (by rw [upd_ne (np _ n1)]; exact z _ _ ht1) n1
    cases hout : h.out with
    | none =>
      rw [hout] at hvo
      cases hvo
      have hback : h.back = none := hA.inv.oi hout
      rw [hback] at hvb
      cases hvb
      refine ⟨_, rfl, p, C, dx, _, _, rfl, upd_same, T.cl, T.n3, handF_out .., _, rfl, iteT ?_⟩
      refine ⟨_, rfl, _, rfl, p, C, dx, _, rfl, upd_same, T.cl, T.n3, (by show 4 < 1000; decide), ?_⟩
      rw [handF_sout]
      have he : h.edit x = (⟨Sv17.apply x h.text, h.revision, some x, h.back⟩, true) := by unfold Sv17.Hand.edit; rw [hout]
      rw [he] at q inv2
      refine q _ ⟨inv2, dx, t1, .ref a, .non, ?_, ?_, ?_, ?_⟩ ?_
      · rw [upd_same]
      · have n1 := fresh_m (G := H) tm nt1
        exact wo_at (by rw [upd_ne (np _ n1), upd_ne (np _ n1)]; exact ht1) n1
      · refine ⟨a, rfl, hE.same ?_⟩
        exact wo_same (((Frm.of_same s1).trans (Frm.upd pm)).trans (Frm.upd pm))
      · show OptEdit _ _ h.back
        rw [hback]; rfl
      · exact ((Frm.of_same s1).trans (Frm.upd (by simp))).trans (Frm.upd (by simp))
    | some eo =>
      rw [hout] at hvo
      obtain ⟨ao, rfl, hEo⟩ := hvo
      refine ⟨_, rfl, p, C, dx, _, _, rfl, upd_same, T.cl, T.n3, handF_out .., _, rfl, iteF ?_⟩
      cases hback : h.back with
      | none =>
        rw [hback] at hvb
        cases hvb
        have he : h.edit x = (⟨Sv17.apply x h.text, h.revision, h.out, some x⟩, false) := by unfold Sv17.Hand.edit; rw [hout, hback]
        rw [he] at q inv2
        refine ⟨_, rfl, p, C, dx, _, _, rfl, upd_same, T.cl, T.n4, handF_back .., _, rfl, iteT ?_⟩
        refine ⟨_, rfl, _, rfl, p, C, dx, _, rfl, upd_same, T.cl, T.n4, (by show 4 < 1000; decide), ?_⟩
        rw [handF_sback]
        have f2 : Frm m H (upd (upd H1 p (.ins C dx (handF t1 h.revision (.ref ao) .non))) p (.ins C dx (handF t1 h.revision (.ref ao) (.ref a)))) := ((Frm.of_same s1).trans (Frm.upd pm)).trans (Frm.upd pm)
        refine q _ ⟨inv2, dx, t1, .ref ao, .ref a, ?_, ?_, ?_, ?_⟩ ?_
        · rw [upd_same]
        · have n1 := fresh_m (G := H) tm nt1
          exact wo_at (by rw [upd_ne (np _ n1), upd_ne (np _ n1)]; exact ht1) n1
        · show OptEdit _ _ h.out
          rw [hout]
          exact ⟨ao, rfl, hEo.same (wo_same f2)⟩
        · exact ⟨a, rfl, hE.same (wo_same f2)⟩
        · exact ((Frm.of_same s1).trans (Frm.upd (by simp))).trans (Frm.upd (by simp))
      | some eb =>
        rw [hback] at hvb
        obtain ⟨ab, rfl, hEb⟩ := hvb
        have hb := hA.inv.bg eb hback
        have hbt := hA.inv.tb eb hback
        have hbx : Sv17.behind eb = Sv17.before x := by omega
        have z1 := hb.esz
        have z2 := hx.esz
        have he : h.edit x = (⟨Sv17.apply x h.text, h.revision, h.out, some (Sv17.compose eb x)⟩, false) := by unfold Sv17.Hand.edit; rw [hout, hback]
        rw [he] at q inv2
        refine ⟨_, rfl, p, C, dx, _, _, rfl, upd_same, T.cl, T.n4, handF_back .., _, rfl, iteF ?_⟩
        have f1 : Frm m H (upd H1 p (.ins C dx (handF t1 h.revision (.ref ao) (.ref ab)))) := (Frm.of_same s1).trans (Frm.upd pm)
        have tm1 : ∀ b ∈ m, ∃ o, (upd H1 p (.ins C dx (handF t1 h.revision (.ref ao) (.ref ab)))) b = some o := fun b hb => by
          by_cases z : b = p
          · rw [z]; exact ⟨_, upd_same⟩
          · obtain ⟨o, y⟩ := tm b hb
            exact ⟨o, by rw [upd_ne z]; exact s1 _ _ y⟩
        refine ⟨_, rfl, p, C, dx, _, _, rfl, upd_same, T.cl, T.n4, handF_back .., _, rfl, ab, a, eb, x, m, rfl, tm1, (hEb.same (wo_same f1)).same (wo_sub _ _), (hE.same (wo_same f1)).same (wo_sub _ _), hb.pos, hx.pos, hbx, by rw [← line_big]; omega, fun pc H2 s2 hc => ?_⟩
        refine ⟨_, rfl, p, C, dx, _, rfl, s2 _ _ upd_same, T.cl, T.n4, (by show 4 < 1000; decide), ?_⟩
        rw [handF_sback]
        have f2 : Frm m H (upd H2 p (.ins C dx (handF t1 h.revision (.ref ao) (.ref pc)))) := (f1.trans (Frm.of_same s2)).trans (Frm.upd pm)
        have f3 : Frm m H2 (upd H2 p (.ins C dx (handF t1 h.revision (.ref ao) (.ref pc)))) := Frm.upd pm
        refine q _ ⟨inv2, dx, t1, .ref ao, .ref pc, ?_, ?_, ?_, ?_⟩ ?_
        · rw [upd_same]
        · have n1 := fresh_m (G := H) tm nt1
          exact wo_at (by rw [upd_ne (np _ n1)]; exact s2 _ _ (by rw [upd_ne (np _ n1)]; exact ht1)) n1
        · show OptEdit _ _ h.out
          rw [hout]
          exact ⟨ao, rfl, hEo.same (wo_same f2)⟩
        · exact ⟨pc, rfl, hc.same (wo_same f3)⟩
        · exact (((Frm.of_same s1).trans (Frm.upd (by simp))).trans (Frm.of_same s2)).trans (Frm.upd (by simp))
end
end My
end
section
set_option Elab.async false
set_option linter.all false
set_option maxRecDepth 100000
set_option maxHeartbeats 2000000
namespace My
open PySem PySem.Spec PyProof.Rows L2
/-! ### isinstance of an own instance -/
structure IsTxt (K : PySem.W.Frag) (C D : Addr) (b : Bool) : Prop where
  cl : Cls K C
  ha : PySem.W.findIn K (.ref C) "__class__" = some (some (.builtin "object.__class__"))
  hn : PySem.W.specialIn K (.builtin "object.__class__") "__get__" = some (some (.builtin "getset_descriptor.__get__"))
  htk : PySem.W.takesIn K (.builtin "object.__class__") = some true
  hm : PySem.W.mroIn K C (.type "object") = some true
  kit : PySem.W.kitOne K (.ref C) (.ref D) = some b
theorem boot_isinst : bootBuiltins "isinstance" = some (.builtin "isinstance") := by decide +kernel
theorem call_isinst {X : Cx} {C D : Addr} {b : Bool} (t : IsTxt X.K C D b) : CallR X (.builtin "isinstance") (fun xs H Q => ∃ a dx fs, xs = [.ref a, .ref D] ∧ H a = some (.ins C dx fs) ∧ Q (.bl b) H) := by
  intro pins s σ H xs us Q I r h
  obtain ⟨a, dx, fs, rfl, ho, q⟩ := h
  obtain ⟨u, v, rfl, ru, rv⟩ := vals2 r
  cases rv
  exact isinst_ok I ru (.ins ho t.cl t.ha t.hn t.htk t.hm) t.kit fun tk => ⟨.bl b, H, I.tok tk, rfl, q⟩
/-! ### the host -/
def hostF (t l : Addr) : List (Str × V) := [("text", .ref t), ("edits", .ref l)]
section
variable (t l : Addr)
theorem hostF_text : (hostF t l).lookup ("text" : Str) = some (.ref t) := lk_eq
theorem hostF_edits : (hostF t l).lookup ("edits" : Str) = some (.ref l) := (lk_ne (by decide +kernel)).trans lk_eq
theorem hostF_no {m : Str} (h : (m == "text" || m == "edits") = false) : (hostF t l).lookup m = none := by
  simp only [Bool.or_eq_false_iff] at h
  exact (lk_ne h.1).trans ((lk_ne h.2).trans rfl)
theorem hostF_stext (y : Addr) : putF "text" (.ref y) (hostF t l) = hostF y l := by unfold hostF; rw [pf_eq]
end
structure HostTxt (K : PySem.W.Frag) (C : Addr) : Prop where
  cl : Cls K C
  n1 : NoAttr K C "text"
  n2 : NoAttr K C "edits"
structure HostAt (SC : Addr) (m : List Addr) (H : Hp) (a l : Addr) (s : Sv17.Host) : Prop where
  inv : HostInv s
  ex : ∃ dx t es, H a = some (.ins SC dx (hostF t l)) ∧ wo H m t = some (.lst (bv s.text)) ∧ H l = some (.lst (es.map V.ref)) ∧ Paired (EditAt (wo H m)) es s.edits
theorem HostAt.frame {SC : Addr} {m m' n : List Addr} {H H' : Hp} {a l : Addr} {h : Sv17.Host} (x : HostAt SC m H a l h) (f : Frm n H H') (hn : ∀ b ∈ n, b ∈ m) (ha : a ∉ n) (hl : l ∉ n) (hm : ∀ b ∈ m', b ∈ m ∨ H b = none) : HostAt SC m' H' a l h := by
  obtain ⟨dx, t, es, h1, h2, h3, h4⟩ := x.ex
  have w := wo_mono (f.mono hn) hm
  exact ⟨x.inv, dx, t, es, f _ _ h1 ha, w _ _ h2, f _ _ h3 hl, Paired.mapP h4 fun _ _ y => y.same w⟩
def OAH (HC SC : Addr) : OAT := fun m H a ow o => match o with
  | .hand h => ow = [a] ∧ HandAt HC m H a h
  | .host s => ∃ l, ow = [a, l] ∧ HostAt SC m H a l s
theorem oah_ok (HC SC : Addr) : ObOk (OAH HC SC) := by
  refine ⟨fun {m m' n H H' a ow o} h f hn hw hm => ?_⟩
  cases o with
  | hand x =>
    obtain ⟨rfl, h⟩ := h
    exact ⟨rfl, h.frame f hn (hw a (by simp)) hm⟩
  | host x =>
    obtain ⟨l, rfl, h⟩ := h
    exact ⟨l, rfl, h.frame f hn (hw a (by simp)) (hw l (by simp)) hm⟩
section
variable {P : Program} {w : World} {K : PySem.W.Frag} {mg : Str → Option Value} {base : Heap}
/-- what a call on an object is to leave -/
def After (OA : OAT) (rest : List Addr) (H : Hp) (od : Addr) (s : SS) (x : Sv17.Ans) (Q : VK) : Prop :=
  ∀ (H' : Hp) (q : Addr), STA OA rest H' od s → AnsAt H' q x → (∀ b ∈ rest, H' b = H b) → q ∉ rest → (∀ b ys, H b = some (.tup ys) → H' b = some (.tup ys)) → Q (.ref q) H'
theorem STA.trk {OA : OAT} {rest : List Addr} {H : Hp} {od : Addr} {s : SS} (h : STA OA rest H od s) : ∀ b ∈ rest, ∃ o, H b = some o := fun b hb => by
  obtain ⟨kvs, m, ad, ow, h⟩ := h
  exact h.tk b (h.rm b hb)
/-- nothing that was is written -/
theorem After.pure {OA : OAT} (hO : ObOk OA) {rest : List Addr} {H0 H H1 : Hp} {od q : Addr} {s : SS} {x : Sv17.Ans} {Q : VK} (A : After OA rest H od s x Q) (h : STA OA rest H0 od s) (z0 : Same H0 H) (z : Same H H1) (nq : H q = none) (ha : AnsAt H1 q x) : Q (.ref q) H1 := by
  have t := h.trk
  refine A H1 q ((st_ok hO).frame h (Frm.of_same (z0.trans z)) fun b hb => ?_) ha (fun b hb => ?_) (fun m => ?_) fun b ys e => z _ _ e
  · obtain ⟨o, y⟩ := t b hb; exact ⟨o, z _ _ (z0 _ _ y)⟩
  · obtain ⟨o, y⟩ := t b hb; rw [z0 _ _ y]; exact z _ _ (z0 _ _ y)
  · obtain ⟨o, y⟩ := t q m; rw [z0 _ _ y] at nq; cases nq
theorem set_self {s : SS} {k : Nat} (h : k < s.length) : s.set k (s.getD k none) = s := by
  rw [List.getD_eq_getElem?_getD, List.getElem?_eq_getElem h]
  exact List.set_getElem_self h
theorem STA.l4 {OA : OAT} {rest : List Addr} {H : Hp} {od : Addr} {s : SS} (h : STA OA rest H od s) : s.length = 4 := by
  obtain ⟨kvs, m, ad, ow, h⟩ := h
  exact h.l4
/-- the state at a heap that has grown, its parts as they were -/
theorem StAt.grow {OA : OAT} (hO : ObOk OA) {rest : List Addr} {H H' : Hp} {od : Addr} {s : SS} {kvs : List (Key × V)} {m : List Addr} {ad : Nat → Addr} {ow : Nat → List Addr} (h : StAt OA rest H od s kvs m ad ow) (z : Same H H') : StAt OA rest H' od s kvs m ad ow :=
  ⟨z _ _ h.dk, h.ln, h.l4, h.om, h.rm, fun b hb => let ⟨o, y⟩ := h.tk b hb; ⟨o, z _ _ y⟩, h.or_, h.no, fun k o e => let ⟨e1, e2, e3⟩ := h.ob k o e; ⟨e1, hO.frame e2 (n := []) (fun b o e _ => z b o e) (by simp) (by simp) (fun b hb => .inl hb), e3⟩, h.dj⟩
/-! ### Host(text) -/
def spHostInit (C : Addr) : Sp := fun vs H Q _ => ∃ (p t dx : Addr), vs = [.ref p, .ref t] ∧ H p = some (.ins C dx []) ∧ ∀ (H' : Hp) (l : Addr), H' p = some (.ins C dx (hostF t l)) → H' l = some (.lst []) → H l = none → Frm [p] H H' → Q .non H'
theorem sc_si : FnScope ["self", "text"] ["self", "text"] (defScope s_Host_init) := ⟨rfl, rfl, rfl, by decide +kernel, rfl, by decide +kernel, by decide +kernel⟩
theorem ok_si {f C : Addr} {fd : FuncData} (F : Fun K "__init__" "Host.__init__" s_Host_init f fd) (T : HostTxt K C) : FnOk P w K mg base CX0 1 f fd ["self", "text"] (spHostInit C) := by
  refine F.ok sc_si (fun vs H Q E h => ?_) (fun cdv A outer s H vs Q E hr h => ?_)
  · obtain ⟨p, t, dx, rfl, _⟩ := h
    rfl
  · obtain ⟨p, t, dx, rfl, ho, q⟩ := h
    refine ⟨_, pss_cons (ps_fld (pv 0) (pv 1) rfl) (pss_one (ps_fld (pv 0) (pe_lst pa_nil) rfl)), ?_⟩
    refine ⟨_, rfl, _, rfl, p, C, dx, _, rfl, ho, T.cl, T.n1, (by show 0 < 1000; decide), ?_⟩
    refine ⟨Nat.zero_le _, fun l hl => ?_⟩
    have pl : p ≠ l := fun z => by rw [← z, upd_same] at hl; cases hl
    have hl0 : H l = none := by rw [upd_ne pl.symm] at hl; exact hl
    refine ⟨_, rfl, p, C, dx, _, rfl, (upd_ne pl).trans upd_same, T.cl, T.n2, (by show 1 < 1000; decide), ?_⟩
    refine q _ l ?_ ?_ hl0 (((Frm.upd (by simp)).trans (Frm.of_same (same_upd hl))).trans (Frm.upd (by simp)))
    · rw [upd_same]; rfl
    · rw [upd_ne pl.symm, upd_same]
/-! ### begin -/
def spBegin (OA : OAT) : Sp := fun vs H Q _ => ∃ (od t : Addr) (k : Nat) (host : Int) (tx : Bytes) (s : SS) (rest : List Addr) (H0 : Hp), vs = [.ref od, .int k, .int host, .ref t] ∧ H t = some (.lst (bv tx)) ∧ tx.length ≤ 29900 ∧ k < 4 ∧ STA OA rest H0 od s ∧ Same H0 H ∧ H0 t = none ∧
  After OA rest H od (s.set k (Sv17.does (s.getD k none) (.begin_ host tx (tx.length : Int))).1) (Sv17.does (s.getD k none) (.begin_ host tx (tx.length : Int))).2 Q
theorem sc_bg : FnScope ["objects", "number", "host", "text"] ["objects", "number", "host", "text"] (defScope s_begin) := ⟨rfl, rfl, rfl, by decide +kernel, rfl, by decide +kernel, by decide +kernel⟩
theorem ok_bg {f HC SC : Addr} {fd : FuncData} (F : Fun K "begin" "begin" s_begin f fd) (c : EdCal P w K mg base) (cH : CalI P w K mg base HC "Hand" 1 ["self", "text"] (spHandInit HC)) (cS : CalI P w K mg base SC "Host" 1 ["self", "text"] (spHostInit SC)) : FnOk P w K mg base CX0 3 f fd ["objects", "number", "host", "text"] (spBegin (OAH HC SC)) := by
  refine F.ok sc_bg (fun vs H Q E h => ?_) (fun cdv A outer st H vs Q E hr h => ?_)
  · obtain ⟨od, t, k, host, tx, s, rest, H0, rfl, _⟩ := h
    rfl
  · obtain ⟨od, t, k, host, tx, s, rest, H0, rfl, ht, hz, hk, hS, z0, nt, q⟩ := h
    have hO := oah_ok HC SC
    refine ⟨_, pss_cons (ps_if (PW.pt (pw_or (pt_val (pc_call c.btl hr (pa_cons (pv 3) pa_nil))) (pw_or1 (pt_cmpR op_notIn_seq (pv 2) (pe_tup (pa_cons pe_int (pa_cons pe_int pa_nil))) (by with_unfolding_all rfl))))) (pss_one (ps_ret (pe_lst (pa_cons (pg_glob c.gA) pa_nil)))) pss_nil)
      (pss_cons (ps_if (pt_cmpR op_eq (pv 2) pe_int (nomark _)) (pss_one (ps_dput (hu_of hr) (pv 0) (pv 1) (pi_call cS hr (pa_cons (pv 3) pa_nil)) rfl)) (pss_one (ps_dput (hu_of hr) (pv 0) (pv 1) (pi_call cH hr (pa_cons (pv 3) pa_nil)) rfl)))
      (pss_one (ps_ret (pe_lst (pa_cons pe_int pa_nil))))), ?_⟩
    refine ⟨_, rfl, t, tx, rfl, ht, by omega, _, rfl, iteF ⟨_, rfl, (by show 2 ≤ sizeLine; decide), fun u hu => ⟨u, _, rfl, .inr (SqT.of upd_same), rfl, rfl, _, rfl, ?_⟩⟩⟩
    show if (!inV (V.int host) [V.int 0, V.int 1]) = true then _ else _
    rw [inV2]
    have s1 := same_upd (o := .tup [.int 0, .int 1]) hu
    have hdoes : Sv17.does (s.getD k none) (.begin_ host tx (tx.length : Int)) = if Sv17.within host 0 1 = false then (s.getD k none, Sv17.ok (-2)) else (some (if host = 0 then .hand ⟨tx, 0, none, none⟩ else .host ⟨tx, tx, []⟩), Sv17.ok 0) := by
      show (if Sv17.within host 0 1 = false ∨ Sv17.within (tx.length : Int) 0 65536 = false then _ else _) = _
      rw [within_nat hz]
      cases Sv17.within host 0 1 <;> rfl
    rw [hdoes] at q
    have hl4 := hS.l4
    cases hw : Sv17.within host 0 1 with
    | false =>
      rw [hw, if_pos rfl, set_self (by omega)] at q
      refine iteT ⟨(by show 1 ≤ sizeLine; decide), fun p hp => ?_⟩
      exact q.pure hO hS z0 (s1.trans (same_upd hp)) (s1.free hp) ans_one
    | true =>
      rw [hw, if_neg (by decide)] at q
      have hwh : host = 0 ∨ host = 1 := by
        unfold Sv17.within at hw
        simp at hw
        omega
      obtain ⟨kvs, m, ad, ow, hA⟩ := hS
      have hA1 := hA.grow hO (z0.trans s1)
      generalize hG : upd H u (.tup [.int 0, .int 1]) = G at hA1 s1 ⊢
      have htG : G t = some (.lst (bv tx)) := s1 _ _ ht
      have ntm : t ∉ m := fresh_m (G := H0) hA.tk nt
      refine iteF ?_
      -- behind the store: the answer
      have fin : ∀ (H1 : Hp) (a : Addr) (ow' : List Addr) (o' : Sv17.Obj), Same G H1 → (∀ b ∈ ow', G b = none ∧ ∃ u, H1 b = some u) → (∀ H2 : Hp, Frm [od] H1 H2 → OAH HC SC (ow' ++ m) H2 a ow' o') → (After (OAH HC SC) rest H od (s.set k (some o')) (Sv17.ok 0) Q) → tRet (tLst (tCons (tC (V.int 0)) tNil)) { nx := fun _ H' => Q .non H', rt := Q } [some (.ref od), some (.int k), some (.int host), some (.ref t)] (upd H1 od (.dK (putK kvs (Sum.inl (k : Int)) (.ref a)))) := fun H1 a ow' o' zz hex ho hq => by
        have hN := hA1.new hO hk zz hex ho
        refine ⟨(by show 1 ≤ sizeLine; decide), fun p hp => ?_⟩
        have hNs := hN
        obtain ⟨kvs2, m2, ad2, ow2, hN2⟩ := hN
        have hp2 : p ≠ od := fun z => by rw [z, upd_same] at hp; cases hp
        refine hq _ p ⟨kvs2, m2, ad2, ow2, hN2.grow hO (same_upd hp)⟩ ans_one (fun b hb => ?_) (fun z => ?_) fun b ys e => ?_
        · obtain ⟨o, y⟩ := hA1.tk b (hA1.rm b hb)
          have bo : b ≠ od := fun z => hA1.or_ (by rw [← z]; exact hb)
          have e1 : (upd H1 od (.dK (putK kvs (Sum.inl (k : Int)) (.ref a)))) b = some o := by rw [upd_ne bo]; exact zz _ _ y
          rw [same_upd hp _ _ e1]
          obtain ⟨o', y'⟩ := hA.tk b (hA.rm b hb)
          rw [s1 _ _ (z0 _ _ y')] at y
          cases y
          exact (z0 _ _ y').symm
        · obtain ⟨o, y⟩ := hN2.tk p (hN2.rm p z)
          rw [y] at hp; cases hp
        · have eG := s1 _ _ e
          have bo : b ≠ od := ne_of eG hA1.dk (by intro z; cases z)
          exact same_upd hp _ _ (by rw [upd_ne bo]; exact zz _ _ eG)
      have hkl : kvs.length < sizeLine := by
        have := hA1.ln
        have := cnt_le s
        rw [← line_big]; omega
      rcases hwh with rfl | rfl
      · -- a hand
        refine ⟨_, rfl, rfl, _, rfl, iteF ?_⟩
        refine ⟨_, rfl, ?_⟩
        intro x dx nx ndx nex
        have sx : Same G (upd (upd G dx (.own x)) x (.ins HC dx [])) := (same_upd ndx).trans (same_upd (by rw [upd_ne nex.symm]; exact nx))
        refine ⟨x, t, dx, rfl, upd_same, fun H1 h1 f1 => ⟨rfl, _, rfl, _, rfl, od, _, rfl, DPut.k (k := Sum.inl (k : Int)) ((sx.frm f1 (by simpa using nx)) _ _ hA1.dk) hkl, ?_⟩⟩
        · have zz : Same G H1 := sx.frm f1 (by simpa using nx)
          have xt : t ≠ x := fun z => by rw [z, nx] at htG; cases htG
          have xo : x ≠ od := fun z => by have := hA1.dk; rw [← z, nx] at this; cases this
          have to : t ≠ od := ne_of htG hA1.dk (by intro z; cases z)
          refine fin H1 x [x] (.hand ⟨tx, 0, none, none⟩) zz (by simpa using ⟨nx, _, h1⟩) (fun H2 f2 => ⟨rfl, hand_new (by omega), dx, t, .non, .non, f2 _ _ h1 (by simpa using xo), wo_at (f2 _ _ (zz _ _ htG) (by simpa using to)) (by simp [xt, ntm]), rfl, rfl⟩) ?_
          rw [if_pos rfl] at q
          exact q
      · refine ⟨_, rfl, rfl, _, rfl, iteT ?_⟩
        refine ⟨_, rfl, ?_⟩
        intro x dx nx ndx nex
        have sx : Same G (upd (upd G dx (.own x)) x (.ins SC dx [])) := (same_upd ndx).trans (same_upd (by rw [upd_ne nex.symm]; exact nx))
        refine ⟨x, t, dx, rfl, upd_same, fun H1 l h1 h2 nl f1 => ⟨rfl, _, rfl, _, rfl, od, _, rfl, DPut.k (k := Sum.inl (k : Int)) ((sx.frm f1 (by simpa using nx)) _ _ hA1.dk) hkl, ?_⟩⟩
        · have zz : Same G H1 := sx.frm f1 (by simpa using nx)
          have nlG : G l = none := sx.free nl
          have xt : t ≠ x := fun z => by rw [z, nx] at htG; cases htG
          have lt : t ≠ l := fun z => by rw [z, nlG] at htG; cases htG
          have xo : x ≠ od := fun z => by have := hA1.dk; rw [← z, nx] at this; cases this
          have lo : l ≠ od := fun z => by have := hA1.dk; rw [← z, nlG] at this; cases this
          have to : t ≠ od := ne_of htG hA1.dk (by intro z; cases z)
          refine fin H1 x [x, l] (.host ⟨tx, tx, []⟩) zz (by simpa using ⟨⟨nx, _, h1⟩, nlG, _, h2⟩) (fun H2 f2 => ⟨l, rfl, host_new (by omega), dx, t, [], f2 _ _ h1 (by simpa using xo), wo_at (f2 _ _ (zz _ _ htG) (by simpa using to)) (by simp [xt, lt, ntm]), f2 _ _ h2 (by simpa using lo), .nil⟩) ?_
          rw [if_neg (by decide)] at q
          exact q
end
end My
end
section
set_option Elab.async false
set_option linter.all false
set_option maxRecDepth 100000
set_option maxHeartbeats 2000000
namespace My
open PySem PySem.Spec PyProof.Rows L2
/-- d[k] of the objects -/
theorem dget_ob {H : Hp} {od : Addr} {kvs : List (Key × V)} {k : Nat} {v : V} (h : H od = some (.dK kvs)) (hv : valV kvs (Sum.inl (k : Int)) = some v) : DGet H od (.int (k : Int)) (some v) := by
  have := DGet.k (k := Sum.inl (k : Int)) h
  rw [hv] at this
  exact this
theorem does_edit_hand {h : Sv17.Hand} {b : Bytes} (hi : HandInv h) (hz : b.length ≤ 29900) : Sv17.does (some (.hand h)) (.edit b (b.length : Int)) = match Sv17.editOf b with
    | none => (some (.hand h), Sv17.ok (-3))
    | some x => if Sv17.before x ≠ h.text.length then (some (.hand h), Sv17.ok (-4)) else (some (.hand (h.edit x).1), Sv17.ok (if (h.edit x).2 = true then 1 else 0)) := by
  show (if Sv17.size (b.length : Int) = false then _ else _) = _
  rw [size_nat hz, if_neg (by decide)]
  cases he : Sv17.editOf b with
  | none => rfl
  | some x =>
    show (if Sv17.before x ≠ h.text.length then _ else _) = _
    by_cases hf : Sv17.before x ≠ h.text.length
    · rw [if_pos hf]; show _ = (if Sv17.before x ≠ h.text.length then _ else _); rw [if_pos hf]
    · rw [if_neg hf]
      show _ = (if Sv17.before x ≠ h.text.length then _ else _)
      rw [if_neg hf]
      have hf : Sv17.before x = h.text.length := by omega
      have := (hand_edit hi (eok_of he) hf).2
      show (if (match (h.edit x).1.back with | some b => Sv17.small [b] | none => true) = false then _ else _) = _
      cases hb : (h.edit x).1.back with
      | none => rfl
      | some b2 =>
        rw [hb] at this
        have this : Sv17.small [b2] = true := this
        show (if Sv17.small [b2] = false then _ else _) = _
        rw [this, if_neg (by decide)]
theorem does_edit_host {s : Sv17.Host} {b : Bytes} (hz : b.length ≤ 29900) : Sv17.does (some (.host s)) (.edit b (b.length : Int)) = (some (.host s), match Sv17.editOf b with
    | none => Sv17.ok (-3)
    | some _ => Sv17.ok (-4)) := by
  show (some (Sv17.Obj.host s), if Sv17.size (b.length : Int) = false then _ else _) = _
  rw [size_nat hz, if_neg (by decide)]
  cases Sv17.editOf b <;> rfl
section
variable {P : Program} {w : World} {K : PySem.W.Frag} {mg : Str → Option Value} {base : Heap}
structure ObTxt (K : PySem.W.Frag) (mg : Str → Option Value) (HC SC : Addr) : Prop where
  th : HandTxt K HC
  ts : HostTxt K SC
  ih : IsTxt K HC SC false
  is : IsTxt K SC SC true
  gi : mg "isinstance" = none
  gS : Glb mg "Host" (.ref SC)
def spEdH (OA : OAT) : Sp := fun vs H Q _ => ∃ (od a : Addr) (k : Nat) (b : Bytes) (s : SS) (o : Sv17.Obj) (rest : List Addr) (H0 : Hp), vs = [.ref od, .int k, .ref a] ∧ H a = some (.lst (bv b)) ∧ Byt b ∧ b.length ≤ 29900 ∧ s[k]? = some (some o) ∧ STA OA rest H0 od s ∧ Same H0 H ∧
  After OA rest H od (s.set k (Sv17.does (some o) (.edit b (b.length : Int))).1) (Sv17.does (some o) (.edit b (b.length : Int))).2 Q
theorem sc_eh : FnScope ["objects", "number", "e", "edit", "hand"] ["objects", "number", "e"] (defScope s_edit_by_hand) := ⟨rfl, rfl, rfl, by decide +kernel, rfl, by decide +kernel, by decide +kernel⟩
theorem set_same {s : SS} {k : Nat} {o : Sv17.Obj} (h : s[k]? = some (some o)) : s.set k (some o) = s := by
  obtain ⟨h1, h2⟩ := List.getElem?_eq_some_iff.mp h
  rw [← h2]
  exact List.set_getElem_self h1
theorem ok_eh {f HC SC : Addr} {fd : FuncData} (F : Fun K "edit_by_hand" "edit_by_hand" s_edit_by_hand f fd) (c : EdCal P w K mg base) (T : ObTxt K mg HC SC) (cc : CalM P w K mg base HC "change" 5 ["self", "edit"] (spChange HC)) : FnOk P w K mg base CX0 6 f fd ["objects", "number", "e"] (spEdH (OAH HC SC)) := by
  refine F.ok sc_eh (fun vs H Q E h => ?_) (fun cdv A outer st H vs Q E hr h => ?_)
  · obtain ⟨od, a, k, b, s, o, rest, H0, rfl, _⟩ := h
    rfl
  · obtain ⟨od, a, k, b, s, o, rest, H0, rfl, ha, hb, hz, hk, hS, z0, q⟩ := h
    have hO := oah_ok HC SC
    refine ⟨_, pss_cons (ps_if (pt_val (pc_call c.bel hr (pa_cons (pv 2) pa_nil))) (pss_one (ps_ret (pe_lst (pa_cons (pg_glob c.gA) pa_nil)))) pss_nil)
      (pss_cons (ps_set (i := 3) sc_eh.nd rfl (Or.inl rfl) (pc_call c.efb hr (pa_cons (pv 2) pa_nil)))
      (pss_cons (ps_if (pt_cmp (pc_isN (pv 3))) (pss_one (ps_ret (pe_lst (pa_cons (pg_glob c.gN) pa_nil)))) pss_nil)
      (pss_cons (ps_set (i := 4) sc_eh.nd rfl (Or.inl rfl) (pe_dget (hu_of hr) (pv 0) (pv 1) (fun _ _ => rfl)))
      (pss_cons (ps_if (PW.pt (pw_or (pt_val (pe_callB (CallR.or (call_isinst T.ih) (call_isinst T.is)) rfl T.gi boot_isinst (pa_cons (pv 4) (pa_cons (pg_glob T.gS) pa_nil)))) (pw_or1 (pt_cmpR op_ne (pc_call c.lb hr (pa_cons (pv 3) pa_nil)) (pe_callB call_len_seq rfl c.gl PySem.boot_len (pa_cons (pe_fld (pv 4) rfl) pa_nil)) (nomark _))))) (pss_one (ps_ret (pe_lst (pa_cons (pg_glob c.gF) pa_nil)))) pss_nil)
      (pss_cons (ps_if (pt_val (pm_call cc T.th.cl hr (pv 4) (pa_cons (pv 3) pa_nil))) (pss_one (ps_ret (pe_lst (pa_cons pe_int pa_nil)))) pss_nil)
      (pss_one (ps_ret (pe_lst (pa_cons pe_int pa_nil))))))))), ?_⟩
    have hS0 := hS
    obtain ⟨kvs, m, ad, ow, hA⟩ := hS
    have hAH := hA.grow hO z0
    refine ⟨_, rfl, a, b, rfl, ha, by omega, _, rfl, iteF ?_⟩
    refine ⟨_, rfl, a, b, m, rfl, ha, hb, by rw [← line_big]; omega, hAH.tk, fun v H1 s1 hv => ?_⟩
    have hA1 := hAH.grow hO s1
    obtain ⟨ek1, ek2, ek3⟩ := hA1.ob k o hk
    -- a refusal
    have refuse : ∀ (H2 : Hp) (i : Int), Same H1 H2 → After (OAH HC SC) rest H od s (Sv17.ok i) Q → ∀ p, H2 p = none → Q (.ref p) (upd H2 p (.lst [.int i])) := fun H2 i z hq p hp => hq.pure hO hS0 z0 ((s1.trans z).trans (same_upd hp)) (Same.free (s1.trans z) hp) ans_one
    cases he : Sv17.editOf b with
    | none =>
      rw [he] at hv
      cases hv
      refine ⟨_, rfl, _, rfl, iteT ⟨(by show 1 ≤ sizeLine; decide), fun p hp => refuse H1 (-3) (Same.refl _) ?_ p hp⟩⟩
      cases o with
      | hand h =>
        rw [does_edit_hand ek2.2.inv hz, he] at q
        have q : After (OAH HC SC) rest H od (s.set k (some (.hand h))) (Sv17.ok (-3)) Q := q
        rw [set_same hk] at q
        exact q
      | host h =>
        rw [does_edit_host hz, he] at q
        have q : After (OAH HC SC) rest H od (s.set k (some (.host h))) (Sv17.ok (-3)) Q := q
        rw [set_same hk] at q
        exact q
    | some x =>
      rw [he] at hv
      obtain ⟨d, rfl, hE⟩ := hv
      have hx := eok_of he
      obtain ⟨_, _, hlen⟩ := edit_lim he
      refine ⟨_, rfl, _, rfl, iteF ?_⟩
      refine ⟨_, rfl, _, rfl, od, _, rfl, dget_ob hA1.dk ek1, ?_⟩
      cases o with
      | host h =>
        obtain ⟨l, eow, hH⟩ := ek2
        obtain ⟨dx, t, es, ho, _⟩ := hH.ex
        rw [does_edit_host hz, he] at q
        have q : After (OAH HC SC) rest H od (s.set k (some (.host h))) (Sv17.ok (-4)) Q := q
        rw [set_same hk] at q
        refine ⟨_, rfl, .inr ⟨ad k, dx, _, rfl, ho, _, rfl, iteT (iteT ⟨(by show 1 ≤ sizeLine; decide), fun p hp => refuse H1 (-4) (Same.refl _) q p hp⟩)⟩⟩
      | hand h =>
        obtain ⟨eow, hH⟩ := ek2
        obtain ⟨dx, t, vo, vb, ho, ht, _, _⟩ := hH.ex
        rw [does_edit_hand hH.inv hz, he] at q
        dsimp only at q
        refine ⟨_, rfl, .inl ⟨ad k, dx, _, rfl, ho, _, rfl, iteF ?_⟩⟩
        refine ⟨_, rfl, d, x, rfl, hE.same (wo_sub _ _), by rw [← line_big]; omega, fun H2 s2 => ?_⟩
        have hA2 := hA1.grow hO s2
        have ho2 := s2 _ _ ho
        have ht2 := s2 _ _ (wo_sub _ _ _ _ ht)
        refine ⟨_, rfl, ad k, HC, dx, _, _, rfl, ho2, T.th.cl, T.th.n1, handF_text .., t, _, rfl, .inl (SqL.of ht2), rfl, _, rfl, ?_⟩
        rw [bv_len]
        refine kne (fun c2 => ?_) (fun c2 => ?_)
        · rw [if_pos c2] at q
          have q : After (OAH HC SC) rest H od (s.set k (some (.hand h))) (Sv17.ok (-4)) Q := q
          rw [set_same hk] at q
          exact ⟨(by show 1 ≤ sizeLine; decide), fun p hp => refuse H2 (-4) s2 q p hp⟩
        · rw [if_neg (by rw [c2]; simp)] at q
          have q : After (OAH HC SC) rest H od (s.set k (some (.hand (h.edit x).1))) (Sv17.ok (if (h.edit x).2 = true then 1 else 0)) Q := q
          obtain ⟨_, ek22, ek32⟩ := hA2.ob k (.hand h) hk
          obtain ⟨eow2, hH2⟩ := ek22
          have am : ad k ∈ m := (ek32 (ad k) (by rw [eow2]; simp)).1
          refine ⟨_, rfl, ad k, dx, _, rfl, ho2, handF_no _ _ _ _ (by decide +kernel), _, rfl, ad k, d, x, h, m, rfl, hH2, am, hA2.tk, hE.same (wo_same (Frm.of_same s2)), hx, c2, fun H3 hH3 f3 => ⟨_, rfl, ?_⟩⟩
          have hT := hA2.turn hO hk (H' := H3) (o' := .hand (h.edit x).1) (ow' := [ad k]) (ex := []) (by rw [eow2]; exact f3) (by rw [eow2]; intro b hb; simp at hb; rw [hb]; obtain ⟨_, _, _, _, y, _⟩ := hH3.ex; exact ⟨_, y⟩) (by simp) ⟨rfl, by simpa using hH3⟩ (by rw [eow2]; intro b hb; exact .inl hb)
          have s02 := (z0.trans s1).trans s2
          have fin : ∀ (i : Int), After (OAH HC SC) rest H od (s.set k (some (.hand (h.edit x).1))) (Sv17.ok i) Q → ∀ p, H3 p = none → Q (.ref p) (upd H3 p (.lst [.int i])) := fun i hq p hp => by
            obtain ⟨kvs3, m3, ad3, ow3, hT3⟩ := hT
            refine hq _ p ⟨kvs3, m3, ad3, ow3, hT3.grow hO (same_upd hp)⟩ ans_one (fun b hb => ?_) (fun z => ?_) fun b ys e => ?_
            · obtain ⟨o, y⟩ := hA.tk b (hA.rm b hb)
              have bn : b ∉ [ad k] := fun z => (ek32 b (by rw [eow2]; exact z)).2.2 hb
              rw [same_upd hp _ _ (f3 _ _ (s02 _ _ y) bn)]
              exact (z0 _ _ y).symm
            · obtain ⟨o, y⟩ := hT3.tk p (hT3.rm p z)
              rw [y] at hp; cases hp
            · have e2 := s2 _ _ (s1 _ _ e)
              have bn : b ∉ [ad k] := by simp; exact ne_of e2 ho2 (by intro z; cases z)
              exact same_upd hp _ _ (f3 _ _ e2 bn)
          cases hb2 : (h.edit x).2 with
          | true =>
            rw [hb2, if_pos rfl] at q
            exact iteT ⟨(by show 1 ≤ sizeLine; decide), fun p hp => fin 1 q p hp⟩
          | false =>
            rw [hb2, if_neg (by decide)] at q
            exact iteF ⟨(by show 1 ≤ sizeLine; decide), fun p hp => fin 0 q p hp⟩
end
end My
end
section
set_option Elab.async false
set_option linter.all false
set_option maxRecDepth 100000
set_option maxHeartbeats 2000000
namespace My
open PySem PySem.Spec PyProof.Rows L2
/-! ### turned_past_own -/
def past (own : Option Edit) (y : Edit) : Edit := match own with
  | some x => (Sv17.turn x y).2
  | none => y
theorem EOk.len {e : Edit} (h : EOk e) : e.length ≤ sizeLine := by
  have := h.pos.len
  have := h.esz
  rw [← line_big]; omega
/-- an object has turned, its answer is laid -/
theorem After.turn {OA : OAT} (hO : ObOk OA) {rest : List Addr} {H H1 H3 : Hp} {od : Addr} {s : SS} {kvs : List (Key × V)} {m : List Addr} {ad : Nat → Addr} {ow : Nat → List Addr} {k : Nat} {o o' : Sv17.Obj} {x : Sv17.Ans} {Q : VK} {q : Addr} (A : After OA rest H od (s.set k (some o')) x Q) (hA : StAt OA rest H od s kvs m ad ow) (z : Same H H1) (hk : s[k]? = some (some o))
    (f : Frm (ow k) H1 H3) (t : ∀ b ∈ ow k, ∃ u, H3 b = some u) (nt : ∀ b ∈ ow k, ∀ ys, H1 b ≠ some (.tup ys)) (ho : OA m H3 (ad k) (ow k) o') (hq : q ∉ rest) (ha : AnsAt H3 q x) : Q (.ref q) H3 := by
  have hA1 := hA.grow hO z
  obtain ⟨k1, k2, k3⟩ := hA1.ob k o hk
  refine A H3 q (hA1.turn hO hk (ow' := ow k) (ex := []) f t (by simp) (by simpa using ho) (fun b hb => .inl hb)) ha (fun b hb => ?_) hq (fun b ys e => ?_)
  · obtain ⟨o, y⟩ := hA.tk b (hA.rm b hb)
    rw [y]; exact f _ _ (z _ _ y) (fun h => (k3 b h).2.2 hb)
  · have e1 := z _ _ e
    exact f _ _ e1 (fun h => nt b h ys e1)
theorem StAt.fresh {OA : OAT} {rest : List Addr} {H : Hp} {od : Addr} {s : SS} {kvs : List (Key × V)} {m : List Addr} {ad : Nat → Addr} {ow : Nat → List Addr} (h : StAt OA rest H od s kvs m ad ow) {q : Addr} (hq : H q = none) : q ∉ rest := fun z => by
  obtain ⟨o, y⟩ := h.tk q (h.rm q z)
  rw [hq] at y; cases y
section
variable {P : Program} {w : World} {K : PySem.W.Frag} {mg : Str → Option Value} {base : Heap}
def spTPO : Sp := fun vs H Q _ => ∃ (v : V) (b : Addr) (own : Option Edit) (y : Edit) (m : List Addr), vs = [v, .ref b] ∧ (∀ c ∈ m, ∃ o, H c = some o) ∧ OptEdit (wo H m) v own ∧ EditAt (wo H m) b y ∧ PosE y ∧ (∀ x, own = some x → PosE x ∧ Sv17.before x = Sv17.before y ∧ esz x + esz y + 3 ≤ sizeLine) ∧
  ∀ (t : Addr) (v' : V) (b' : Addr) (H' : Hp), Same H H' → H' t = some (.tup [v', .ref b']) → OptEdit (wo H' m) v' (own.map fun x => (Sv17.turn x y).1) → EditAt (wo H' m) b' (past own y) → Q (.ref t) H'
theorem sc_tpo : FnScope ["own", "edit"] ["own", "edit"] (defScope s_turned_past_own) := ⟨rfl, rfl, rfl, by decide +kernel, rfl, by decide +kernel, by decide +kernel⟩
theorem ok_tpo {f : Addr} {fd : FuncData} (F : Fun K "turned_past_own" "turned_past_own" s_turned_past_own f fd) (ct : Cal P w K mg base "turned" 4 ["a", "b"] spTrn) : FnOk P w K mg base CX0 5 f fd ["own", "edit"] spTPO := by
  refine F.ok sc_tpo (fun vs H Q E h => ?_) (fun cdv A outer s H vs Q E hr h => ?_)
  · obtain ⟨v, b, own, y, m, rfl, _⟩ := h
    rfl
  · obtain ⟨v, b, own, y, m, rfl, tm, hv, hE, py, hx, q⟩ := h
    refine ⟨_, pss_cons (ps_if (pt_cmp (pc_isN (pv 0))) (pss_one (ps_ret (pe_tup (pa_cons pe_non (pa_cons (pv 1) pa_nil))))) pss_nil)
      (pss_one (ps_ret (pc_call ct hr (pa_cons (pv 0) (pa_cons (pv 1) pa_nil))))), ?_⟩
    cases own with
    | none =>
      cases hv
      refine ⟨_, rfl, _, rfl, iteT ⟨_, rfl, (by show 2 ≤ sizeLine; decide), fun t ht => ?_⟩⟩
      exact q t .non b _ (same_upd ht) upd_same rfl (hE.same (wo_same (Frm.of_same (same_upd ht))))
    | some x =>
      obtain ⟨a, rfl, hX⟩ := hv
      obtain ⟨px, hb, hz⟩ := hx x rfl
      refine ⟨_, rfl, _, rfl, iteF ⟨_, rfl, _, rfl, a, b, x, y, m, rfl, tm, hX.same (wo_sub _ _), hE.same (wo_sub _ _), px, py, hb, hz, fun t u v' H' s1 ht hu hv' => ?_⟩⟩
      exact q t (.ref u) v' H' s1 ht ⟨u, rfl, hu⟩ hv'
/-! ### a hand's other calls -/
def spLwo (HC : Addr) : Sp := fun vs H Q _ => ∃ (p : Addr) (h : Sv17.Hand) (m : List Addr), vs = [.ref p] ∧ HandAt HC m H p h ∧ ∀ H' : Hp, Same H H' → Q (.int ((h.base : Nat) : Int)) H'
theorem sc_lwo : FnScope ["self"] ["self"] (defScope s_Hand_length_without_own) := ⟨rfl, rfl, rfl, by decide +kernel, rfl, by decide +kernel, by decide +kernel⟩
theorem ok_lwo {f C : Addr} {fd : FuncData} (F : Fun K "length_without_own" "Hand.length_without_own" s_Hand_length_without_own f fd) (T : HandTxt K C) (gl : mg "len" = none) (clb : Cal P w K mg base "length_before" 1 ["edit"] (spLen Sv17.before)) : FnOk P w K mg base CX0 2 f fd ["self"] (spLwo C) := by
  refine F.ok sc_lwo (fun vs H Q E h => ?_) (fun cdv A outer s H vs Q E hr h => ?_)
  · obtain ⟨p, h, m, rfl, _⟩ := h
    rfl
  · obtain ⟨p, h, m, rfl, hA, q⟩ := h
    obtain ⟨dx, t, vo, vb, ho, ht, hvo, hvb⟩ := hA.ex
    refine ⟨_, pss_cons (ps_if (pt_cmp (pc_isN (pe_fld (pv 0) rfl))) (pss_one (ps_ret (pe_callB call_len_seq rfl gl PySem.boot_len (pa_cons (pe_fld (pv 0) rfl) pa_nil)))) pss_nil)
      (pss_one (ps_ret (pc_call clb hr (pa_cons (pe_fld (pv 0) rfl) pa_nil)))), ?_⟩
    cases hout : h.out with
    | none =>
      rw [hout] at hvo
      cases hvo
      refine ⟨_, rfl, p, C, dx, _, _, rfl, ho, T.cl, T.n3, handF_out .., _, rfl, iteT ?_⟩
      refine ⟨_, rfl, p, C, dx, _, _, rfl, ho, T.cl, T.n1, handF_text .., t, _, rfl, .inl (SqL.of (wo_sub _ _ _ _ ht)), ?_⟩
      have e : h.base = h.text.length := by unfold Sv17.Hand.base; rw [hout]
      rw [e] at q
      rw [bv_len]
      exact q H (Same.refl _)
    | some eo =>
      rw [hout] at hvo
      obtain ⟨ao, rfl, hEo⟩ := hvo
      have e : h.base = Sv17.before eo := by unfold Sv17.Hand.base; rw [hout]
      rw [e] at q
      refine ⟨_, rfl, p, C, dx, _, _, rfl, ho, T.cl, T.n3, handF_out .., _, rfl, iteF ?_⟩
      exact ⟨_, rfl, p, C, dx, _, _, rfl, ho, T.cl, T.n3, handF_out .., ao, eo, rfl, hEo.same (wo_sub _ _), (hA.inv.og eo hout).len, fun H' s1 => q H' s1⟩
def spFollow (HC : Addr) : Sp := fun vs H Q _ => ∃ (p a : Addr) (vo vb : V) (y : Edit) (out back : Option Edit) (h : Sv17.Hand) (m : List Addr), vs = [.ref p, vo, vb, .ref a] ∧ HandAt HC m H p h ∧ p ∈ m ∧ (∀ b ∈ m, ∃ o, H b = some o) ∧ OptEdit (wo H m) vo out ∧ OptEdit (wo H m) vb back ∧ EditAt (wo H m) a y ∧ (Sv17.apply y h.text).length ≤ sizeLine ∧ HandInv ⟨Sv17.apply y h.text, h.revision + 1, out, back⟩ ∧
  ∀ H' : Hp, HandAt HC m H' p ⟨Sv17.apply y h.text, h.revision + 1, out, back⟩ → Frm [p] H H' → Q .non H'
theorem sc_hf : FnScope ["self", "out", "kept_back", "edit"] ["self", "out", "kept_back", "edit"] (defScope s_Hand_follow) := ⟨rfl, rfl, rfl, by decide +kernel, rfl, by decide +kernel, by decide +kernel⟩
theorem handF_inc (t : Addr) (r : Nat) (o b : V) : putF "revision" (V.int ((r : Int) + 1)) (handF t r o b) = handF t (r + 1) o b := handF_srev t r o b (r + 1)
theorem ok_hf {f C : Addr} {fd : FuncData} (F : Fun K "follow" "Hand.follow" s_Hand_follow f fd) (T : HandTxt K C) (ca : Cal P w K mg base "applied" 1 ["edit", "text"] spApp) : FnOk P w K mg base CX0 2 f fd ["self", "out", "kept_back", "edit"] (spFollow C) := by
  refine F.ok sc_hf (fun vs H Q E h => ?_) (fun cdv A outer s H vs Q E hr h => ?_)
  · obtain ⟨p, a, vo, vb, y, out, back, h, m, rfl, _⟩ := h
    rfl
  · obtain ⟨p, a, vo, vb, y, out, back, h, m, rfl, hA, pm, tm, ho2, hb2, hE, hz, inv, q⟩ := h
    obtain ⟨dx, t, vo0, vb0, ho, ht, _, _⟩ := hA.ex
    refine ⟨_, pss_cons (ps_fld (pv 0) (pc_call ca hr (pa_cons (pv 3) (pa_cons (pe_fld (pv 0) rfl) pa_nil))) rfl) (pss_cons (ps_fld (pv 0) (pv 1) rfl) (pss_cons (ps_fld (pv 0) (pv 2) rfl) (pss_one (ps_fldaug (pv 0) pe_int in_add)))), ?_⟩
    refine ⟨_, rfl, _, rfl, p, C, dx, _, _, rfl, ho, T.cl, T.n1, handF_text .., a, t, y, h.text, rfl, hE.same (wo_sub _ _), wo_sub _ _ _ _ ht, hz, fun t1 H1 s1 nt1 ht1 => ?_⟩
    have ho1 := s1 _ _ ho
    refine ⟨_, rfl, p, C, dx, _, rfl, ho1, T.cl, T.n1, (by show 4 < 1000; decide), ?_⟩
    rw [handF_stext]
    refine ⟨_, rfl, _, rfl, p, C, dx, _, rfl, upd_same, T.cl, T.n3, (by show 4 < 1000; decide), ?_⟩
    rw [handF_sout]
    refine ⟨_, rfl, _, rfl, p, C, dx, _, rfl, upd_same, T.cl, T.n4, (by show 4 < 1000; decide), ?_⟩
    rw [handF_sback]
    refine ⟨_, rfl, p, C, dx, _, _, rfl, upd_same, T.cl, T.n2, handF_rev .., _, _, rfl, rfl, dx, _, upd_same, (by show 4 < 1000; decide), ?_⟩
    rw [handF_inc]
    have n1 := fresh_m (G := H) tm nt1
    have np : t1 ≠ p := fun z => n1 (by rw [z]; exact pm)
    have fm : Frm [p] H (upd (upd (upd (upd H1 p (.ins C dx (handF t1 h.revision vo0 vb0))) p (.ins C dx (handF t1 h.revision vo vb0))) p (.ins C dx (handF t1 h.revision vo vb))) p (.ins C dx (handF t1 (h.revision + 1) vo vb))) := ((((Frm.of_same s1).trans (Frm.upd (by simp))).trans (Frm.upd (by simp))).trans (Frm.upd (by simp))).trans (Frm.upd (by simp))
    have fw := wo_same (fm.mono (m' := m) (by simpa using pm))
    refine q _ ⟨inv, dx, t1, vo, vb, upd_same, ?_, ho2.same fw, hb2.same fw⟩ fm
    exact wo_at (by rw [upd_ne np, upd_ne np, upd_ne np, upd_ne np]; exact ht1) n1
def spConfirm (HC : Addr) : Sp := fun vs H Q _ => ∃ (p : Addr) (h : Sv17.Hand) (m : List Addr), vs = [.ref p] ∧ HandAt HC m H p h ∧ p ∈ m ∧ h.out ≠ none ∧ h.revision < 2147483647 ∧ ∀ H' : Hp, HandAt HC m H' p h.confirmed → Frm [p] H H' → Q .non H'
theorem sc_hcf : FnScope ["self"] ["self"] (defScope s_Hand_confirm) := ⟨rfl, rfl, rfl, by decide +kernel, rfl, by decide +kernel, by decide +kernel⟩
theorem ok_hcf {f C : Addr} {fd : FuncData} (F : Fun K "confirm" "Hand.confirm" s_Hand_confirm f fd) (T : HandTxt K C) : FnOk P w K mg base CX0 1 f fd ["self"] (spConfirm C) := by
  refine F.ok sc_hcf (fun vs H Q E h => ?_) (fun cdv A outer s H vs Q E hr h => ?_)
  · obtain ⟨p, h, m, rfl, _⟩ := h
    rfl
  · obtain ⟨p, h, m, rfl, hA, pm, hn, hrv, q⟩ := h
    obtain ⟨dx, t, vo, vb, ho, ht, hvo, hvb⟩ := hA.ex
    refine ⟨_, pss_cons (ps_fld (pv 0) (pe_fld (pv 0) rfl) rfl) (pss_cons (ps_fld (pv 0) pe_non rfl) (pss_one (ps_fldaug (pv 0) pe_int in_add))), ?_⟩
    refine ⟨_, rfl, p, C, dx, _, _, rfl, ho, T.cl, T.n4, handF_back .., _, rfl, p, C, dx, _, rfl, ho, T.cl, T.n3, (by show 4 < 1000; decide), ?_⟩
    rw [handF_sout]
    refine ⟨_, rfl, p, C, dx, _, rfl, upd_same, T.cl, T.n4, (by show 4 < 1000; decide), ?_⟩
    rw [handF_sback]
    refine ⟨_, rfl, p, C, dx, _, _, rfl, upd_same, T.cl, T.n2, handF_rev .., _, _, rfl, rfl, dx, _, upd_same, (by show 4 < 1000; decide), ?_⟩
    rw [handF_inc]
    have fm : Frm [p] H (upd (upd (upd H p (.ins C dx (handF t h.revision vb vb))) p (.ins C dx (handF t h.revision vb .non))) p (.ins C dx (handF t (h.revision + 1) vb .non))) := ((Frm.upd (by simp)).trans (Frm.upd (by simp))).trans (Frm.upd (by simp))
    have fw := wo_same (fm.mono (m' := m) (by simpa using pm))
    exact q _ ⟨hand_confirmed hA.inv hn hrv, dx, t, vb, .non, upd_same, fw _ _ ht, hvb.same fw, rfl⟩ fm
end
end My
end
section
set_option Elab.async false
set_option linter.all false
set_option maxRecDepth 100000
set_option maxHeartbeats 2000000
namespace My
open PySem PySem.Spec PyProof.Rows L2
/-! ### the host's calls -/
theorem cut_from (xs : List V) (i : Nat) : cutV xs (some (i : Int)) none = xs.drop i := by
  unfold cutV
  rw [HT.sIx_nat, HT.sIx_none]
  by_cases h : i ≤ xs.length
  · rw [Nat.min_eq_left h, List.take_of_length_le (by rw [List.length_drop]; omega)]
  · rw [Nat.min_eq_right (show xs.length ≤ i by omega), List.drop_eq_nil_of_le (Nat.le_refl _), List.drop_eq_nil_of_le (by omega), List.take_nil]
theorem Paired.drop {α β : Type} {F : α → β → Prop} : ∀ {l : List α} {m : List β} (i : Nat), Paired F l m → Paired F (l.drop i) (m.drop i)
  | _, _, 0, h => h
  | _, _, _ + 1, .nil => .nil
  | _, _, i + 1, .cons _ t => Paired.drop i t
section
variable {P : Program} {w : World} {K : PySem.W.Frag} {mg : Str → Option Value} {base : Heap}
def spLao (SC : Addr) : Sp := fun vs H Q _ => ∃ (p l : Addr) (s : Sv17.Host) (m : List Addr) (r : Nat), vs = [.ref p, .int r] ∧ HostAt SC m H p l s ∧ r ≤ s.edits.length ∧ ∀ H' : Hp, Same H H' → Q (.int ((s.long r : Nat) : Int)) H'
theorem sc_lao : FnScope ["self", "revision"] ["self", "revision"] (defScope s_Host_length_as_of) := ⟨rfl, rfl, rfl, by decide +kernel, rfl, by decide +kernel, by decide +kernel⟩
theorem ok_lao {f C : Addr} {fd : FuncData} (F : Fun K "length_as_of" "Host.length_as_of" s_Host_length_as_of f fd) (T : HostTxt K C) (gl : mg "len" = none) (clb : Cal P w K mg base "length_before" 1 ["edit"] (spLen Sv17.before)) : FnOk P w K mg base CX0 2 f fd ["self", "revision"] (spLao C) := by
  refine F.ok sc_lao (fun vs H Q E h => ?_) (fun cdv A outer st H vs Q E hr h => ?_)
  · obtain ⟨p, l, s, m, r, rfl, _⟩ := h
    rfl
  · obtain ⟨p, l, s, m, r, rfl, hA, hle, q⟩ := h
    obtain ⟨dx, t, es, ho, ht, hl, hp⟩ := hA.ex
    have hlen : es.length = s.edits.length := Paired.length hp
    have hch := host_long hA.inv hle
    refine ⟨_, pss_cons (ps_if (pt_cmpR op_eq (pv 1) (pe_callB call_len_seq rfl gl PySem.boot_len (pa_cons (pe_fld (pv 0) rfl) pa_nil)) (nomark _)) (pss_one (ps_ret (pe_callB call_len_seq rfl gl PySem.boot_len (pa_cons (pe_fld (pv 0) rfl) pa_nil)))) pss_nil)
      (pss_one (ps_ret (pc_call clb hr (pa_cons (pe_ix ix_list (pe_fld (pv 0) rfl) (pv 1) (fun _ _ => rfl)) pa_nil)))), ?_⟩
    refine ⟨_, rfl, _, rfl, p, C, dx, _, _, rfl, ho, T.cl, T.n2, hostF_edits .., l, _, rfl, .inl (SqL.of hl), rfl, _, rfl, keq (fun c => ?_) (fun c => ?_)⟩
    · rw [List.length_map, hlen] at c
      refine ⟨_, rfl, p, C, dx, _, _, rfl, ho, T.cl, T.n1, hostF_text .., t, _, rfl, .inl (SqL.of (wo_sub _ _ _ _ ht)), ?_⟩
      rw [List.drop_eq_nil_of_le (by omega)] at hch
      have hch : s.long r = s.text.length := hch
      rw [hch] at q
      rw [bv_len]
      exact q H (Same.refl _)
    · rw [List.length_map, hlen] at c
      have hlt : r < s.edits.length := by omega
      obtain ⟨a, ha, hE⟩ := Paired.get hp (List.getElem?_eq_getElem hlt)
      rw [List.drop_eq_getElem_cons hlt] at hch
      have hb : Sv17.before s.edits[r] = s.long r := hch.2.1
      rw [← hb] at q
      exact ⟨_, rfl, p, C, dx, _, _, rfl, ho, T.cl, T.n2, hostF_edits .., _, rfl, l, _, _, _, rfl, rfl, SqL.of hl, atI_nat (by rw [List.getElem?_map, ha]; rfl), a, _, rfl, hE.same (wo_sub _ _), hch.1.len, fun H' s1 => q H' s1⟩
def since (s : Sv17.Host) (r : Nat) (x : Edit) : Option Edit := if Sv17.small (parts x (s.edits.drop r)) = true then some (s.turned r x) else none
def spTs (SC : Addr) : Sp := fun vs H Q _ => ∃ (p l a : Addr) (s : Sv17.Host) (m : List Addr) (r : Nat) (x : Edit), vs = [.ref p, .ref a, .int r] ∧ HostAt SC m H p l s ∧ (∀ b ∈ m, ∃ o, H b = some o) ∧ r ≤ s.edits.length ∧ EditAt (wo H m) a x ∧ EOk x ∧ Sv17.before x = s.long r ∧ ∀ (v : V) (H' : Hp), Same H H' → OptEdit (wo H' m) v (since s r x) → Q v H'
theorem sc_ts : FnScope ["self", "edit", "revision", "earlier"] ["self", "edit", "revision"] (defScope s_Host_turned_since) := ⟨rfl, rfl, rfl, by decide +kernel, rfl, by decide +kernel, by decide +kernel⟩
theorem ok_ts {f C : Addr} {fd : FuncData} (F : Fun K "turned_since" "Host.turned_since" s_Host_turned_since f fd) (T : HostTxt K C) (gT : Glb mg "LONGEST_TEXT" (.int 65536)) (ct : Cal P w K mg base "turned" 4 ["a", "b"] spTrn) (cla : Cal P w K mg base "length_after" 1 ["edit"] (spLen Sv17.behind)) : FnOk P w K mg base CX0 5 f fd ["self", "edit", "revision"] (spTs C) := by
  refine F.ok sc_ts (fun vs H Q E h => ?_) (fun cdv A outer st H vs Q E hr h => ?_)
  · obtain ⟨p, l, a, s, m, r, x, rfl, _⟩ := h
    rfl
  · obtain ⟨p, l, a, s, m, r, x, rfl, hA, tm, hle, hE, hx, hb, q⟩ := h
    obtain ⟨dx, t, es, ho, ht, hl, hp⟩ := hA.ex
    have hch := host_long hA.inv hle
    refine ⟨_, pss_cons (ps_for PassesOwn.never rfl (pi_list (pe_slice sl_list (pe_fld (pv 0) rfl) (po_some (pv 2)) po_none)) (pg_name (i := 3) sc_ts.nd rfl (Or.inl rfl))
        (pss_cons (ps_set (i := 1) sc_ts.nd rfl (Or.inl rfl) (pe_ix ix_tup (pc_call ct hr (pa_cons (pv 1) (pa_cons (pv 3) pa_nil))) pe_int (fun _ _ => rfl)))
        (pss_one (ps_if (pt_cmpR op_gt (pc_call cla hr (pa_cons (pv 1) pa_nil)) (pg_glob gT) (nomark _)) (pss_one (ps_ret pe_non)) pss_nil))))
      (pss_one (ps_ret (pv 1))), ?_⟩
    refine ⟨_, rfl, p, C, dx, _, _, rfl, ho, T.cl, T.n2, hostF_edits .., _, rfl, (r : Int), rfl, l, _, rfl, SqL.of hl, fun sl hsl => ?_⟩
    rw [cut_from, ← List.map_drop]
    have hpd := Paired.drop r hp
    generalize hG : upd H sl (.lst ((es.drop r).map V.ref)) = G
    have sG : Same H G := by rw [← hG]; exact same_upd hsl
    have hslG : G sl = some (.lst ((es.drop r).map V.ref)) := by rw [← hG]; exact upd_same
    have hpG : Paired (EditAt (wo G m)) (es.drop r) (s.edits.drop r) := Paired.mapP hpd fun _ _ z => z.same (wo_same (Frm.of_same sG))
    have hlen : (es.drop r).length = (s.edits.drop r).length := Paired.length hpG
    have tmG : ∀ b ∈ m, ∃ o, G b = some o := fun b hb => let ⟨o, y⟩ := tm b hb; ⟨o, sG _ _ y⟩
    have hsi : since s r x = if Sv17.small (parts x (s.edits.drop r)) = true then some ((s.edits.drop r).foldl (fun a b => (Sv17.turn a b).1) x) else none := rfl
    rw [hsi] at q
    generalize s.edits.drop r = D at hch hpG hlen q hpd
    generalize es.drop r = ds at hslG hpG hlen hpd
    refine ⟨sl, rfl, ⟨_, SqL.of hslG⟩, for_list (K := K) (a := sl) (xs := ds.map V.ref) (fun i σ H' => ∃ (b : Addr) (x3 : Option V) (y : Edit), σ = [some (.ref p), some (.ref b), some (.int (r : Int)), x3] ∧ Same G H' ∧ EditAt (wo H' m) b y ∧ EOk y ∧ chain (Sv17.before y) (D.drop i) s.text.length ∧ Sv17.small (parts y (D.drop i)) = Sv17.small (parts x D) ∧ (D.drop i).foldl (fun a b => (Sv17.turn a b).1) y = D.foldl (fun a b => (Sv17.turn a b).1) x)
      ⟨a, none, x, rfl, Same.refl _, hE.same (wo_same (Frm.of_same sG)), hx, by rw [hb]; exact hch, rfl, rfl⟩ (fun i σ H' _ ⟨_, _, _, _, s1, _⟩ => SqL.of (s1 _ _ hslG)) ?_ ?_⟩
    · rintro i v σ H' hi ⟨b, x3, y, rfl, s1, hEy, hy, hc, hs, hf⟩
      obtain ⟨d, hd, rfl⟩ := ref_at hi
      obtain ⟨z, hz, hEz⟩ := Paired.getL hpG hd
      obtain ⟨hil, hzi⟩ := List.getElem?_eq_some_iff.mp hz
      rw [List.drop_eq_getElem_cons hil, hzi] at hc hs hf
      have pS := parts_small hc hy.pos rfl
      have cT := chain_turn hc hy.pos rfl
      have tm' : ∀ b ∈ m, ∃ o, H' b = some o := fun b hb => let ⟨o, w⟩ := tmG b hb; ⟨o, s1 _ _ w⟩
      have zy := hy.esz
      have zz := hc.1.esz
      refine ⟨_, rfl, _, rfl, b, d, y, z, m, rfl, tm', hEy.same (wo_sub _ _), (hEz.same (wo_same (Frm.of_same s1))).same (wo_sub _ _), hy.pos, hc.1.pos, hc.2.1.symm, by rw [← line_big]; omega, fun tt u v H2 s2 htt hu hv => ?_⟩
      refine ⟨tt, _, _, _, rfl, rfl, SqT.of htt, atI_nat (j := 0) rfl, ?_⟩
      have pt := good_pos cT.1
      have lt : (Sv17.turn y z).1.length ≤ sizeLine := by
        have := pt.len
        have := cT.2.2
        rw [← line_big]; omega
      refine ⟨_, rfl, u, _, rfl, hu.same (wo_sub _ _), lt, fun H3 s3 => ⟨_, _, rfl, rfl, _, rfl, ite2 (fun c => ?_) (fun c => ?_)⟩⟩
      · have c : 65536 < Sv17.behind (Sv17.turn y z).1 := by simp at c; omega
        rw [pS, decide_eq_false (by omega), Bool.false_and] at hs
        rw [if_neg (by rw [← hs]; decide)] at q
        exact q .non H3 (((sG.trans s1).trans s2).trans s3) rfl
      · have c : Sv17.behind (Sv17.turn y z).1 ≤ 65536 := by simp at c; omega
        rw [pS, decide_eq_true c, Bool.true_and] at hs
        have hbz := hc.1.beh
        refine ⟨u, some (.ref d), (Sv17.turn y z).1, rfl, (s1.trans s2).trans s3, hu.same (wo_same (Frm.of_same s3)), ⟨cT.1, by rw [cT.2.1]; exact hbz, c⟩, by rw [cT.2.1]; exact hc.2.2, hs, hf⟩
    · rintro σ H' ⟨b, x3, y, rfl, s1, hEy, hy, hc, hs, hf⟩
      rw [List.length_map, hlen, List.drop_eq_nil_of_le (Nat.le_refl _)] at hs hf
      have hs : true = Sv17.small (parts x D) := hs
      rw [if_pos hs.symm] at q
      have hf : y = D.foldl (fun a b => (Sv17.turn a b).1) x := hf
      rw [← hf] at q
      exact ⟨_, rfl, q (.ref b) H' (sG.trans s1) ⟨b, rfl, hEy⟩⟩
def spPio (SC : Addr) : Sp := fun vs H Q _ => ∃ (p l a : Addr) (s : Sv17.Host) (m : List Addr) (y : Edit), vs = [.ref p, .ref a] ∧ HostAt SC m H p l s ∧ p ∈ m ∧ l ∈ m ∧ (∀ b ∈ m, ∃ o, H b = some o) ∧ EditAt (wo H m) a y ∧ (Sv17.apply y s.text).length ≤ sizeLine ∧ HostInv ⟨s.first, Sv17.apply y s.text, s.edits ++ [y]⟩ ∧
  ∀ H' : Hp, HostAt SC m H' p l ⟨s.first, Sv17.apply y s.text, s.edits ++ [y]⟩ → Frm [p, l] H H' → Q .non H'
theorem sc_pio : FnScope ["self", "edit"] ["self", "edit"] (defScope s_Host_put_in_order) := ⟨rfl, rfl, rfl, by decide +kernel, rfl, by decide +kernel, by decide +kernel⟩
theorem ok_pio {f C : Addr} {fd : FuncData} (F : Fun K "put_in_order" "Host.put_in_order" s_Host_put_in_order f fd) (T : HostTxt K C) (ca : Cal P w K mg base "applied" 1 ["edit", "text"] spApp) : FnOk P w K mg base CX0 2 f fd ["self", "edit"] (spPio C) := by
  refine F.ok sc_pio (fun vs H Q E h => ?_) (fun cdv A outer st H vs Q E hr h => ?_)
  · obtain ⟨p, l, a, s, m, y, rfl, _⟩ := h
    rfl
  · obtain ⟨p, l, a, s, m, y, rfl, hA, pm, lm, tm, hE, hz, inv, q⟩ := h
    obtain ⟨dx, t, es, ho, ht, hl, hp⟩ := hA.ex
    have hlen : es.length = s.edits.length := Paired.length hp
    refine ⟨_, pss_cons (ps_fld (pv 0) (pc_call ca hr (pa_cons (pv 1) (pa_cons (pe_fld (pv 0) rfl) pa_nil))) rfl)
      (pss_one (ps_expr (pe_bm PySem.F.plainAttrs_list PySem.F.slot_list_append PySem.F.type_list_append mt_append (pe_fld (pv 0) rfl) (pa_cons (pv 1) pa_nil)))), ?_⟩
    refine ⟨_, rfl, _, rfl, p, C, dx, _, _, rfl, ho, T.cl, T.n1, hostF_text .., a, t, y, s.text, rfl, hE.same (wo_sub _ _), wo_sub _ _ _ _ ht, hz, fun t1 H1 s1 nt1 ht1 => ?_⟩
    have ho1 := s1 _ _ ho
    have lp : l ≠ p := ne_of hl ho (by intro z; cases z)
    refine ⟨_, rfl, p, C, dx, _, rfl, ho1, T.cl, T.n1, (by show 2 < 1000; decide), ?_⟩
    rw [hostF_stext]
    have hl1 : (upd H1 p (.ins C dx (hostF t1 l))) l = some (.lst (es.map V.ref)) := (upd_ne lp).trans (s1 _ _ hl)
    have ct := hA.inv.ct
    refine ⟨_, rfl, p, C, dx, _, _, rfl, upd_same, T.cl, T.n2, hostF_edits .., .inl ⟨rfl, _, SqL.of hl1⟩, _, rfl, l, _, _, rfl, rfl, hl1, (by rw [List.length_map, hlen, ← line_big]; omega), ?_⟩
    have n1 := fresh_m (G := H) tm nt1
    have np : t1 ≠ p := fun z => n1 (by rw [z]; exact pm)
    have nl : t1 ≠ l := fun z => n1 (by rw [z]; exact lm)
    have fm : Frm [p, l] H (upd (upd H1 p (.ins C dx (hostF t1 l))) l (.lst (es.map V.ref ++ [V.ref a]))) := ((Frm.of_same s1).trans (Frm.upd (by simp))).trans (Frm.upd (by simp))
    have fw := wo_same (fm.mono (m' := m) (by simp [pm, lm]))
    refine q _ ⟨inv, dx, t1, es ++ [a], (upd_ne lp.symm).trans upd_same, wo_at (by rw [upd_ne nl, upd_ne np]; exact ht1) n1, ?_, Paired.snoc (Paired.mapP hp fun _ _ z => z.same fw) (hE.same fw)⟩ fm
    rw [upd_same, List.map_append]
    rfl
end
end My
end
section
set_option Elab.async false
set_option linter.all false
set_option maxRecDepth 100000
set_option maxHeartbeats 2000000
namespace My
open PySem PySem.Spec PyProof.Rows L2
/-! ### et_remote, in mathematics -/
theorem remote_eq (h : Sv17.Hand) (x : Edit) : h.remote x = (⟨Sv17.apply (past h.back (past h.out x)) h.text, h.revision + 1, h.out.map fun a => (Sv17.turn a x).1, h.back.map fun b => (Sv17.turn b (past h.out x)).1⟩, past h.back (past h.out x)) := by
  obtain ⟨t, r, out, back⟩ := h
  cases out <;> cases back <;> rfl
structure RemM (h : Sv17.Hand) (x : Edit) : Prop where
  p1 : PosE (past h.out x)
  z1 : esz (past h.out x) ≤ 262144
  fo : ∀ a, h.out = some a → PosE a ∧ Sv17.before a = Sv17.before x ∧ esz a + esz x ≤ 262144
  fb : ∀ b, h.back = some b → PosE b ∧ Sv17.before b = Sv17.before (past h.out x) ∧ esz b + esz (past h.out x) ≤ 393216
  p2 : PosE (past h.back (past h.out x))
  z2 : esz (past h.back (past h.out x)) ≤ 393216
  b2 : Sv17.before (past h.back (past h.out x)) = h.text.length
  sm : Sv17.small ((h.remote x).2 :: ((h.remote x).1.out.toList ++ (h.remote x).1.back.toList)) = true ↔ Sv17.behind (past h.out x) ≤ 65536 ∧ Sv17.behind (past h.back (past h.out x)) ≤ 65536
  inv : h.revision < 2147483647 → Sv17.behind (past h.out x) ≤ 65536 → Sv17.behind (past h.back (past h.out x)) ≤ 65536 → HandInv (h.remote x).1
theorem rem_m {h : Sv17.Hand} {x : Edit} (hi : HandInv h) (hx : EOk x) (hf : Sv17.before x = h.base) : RemM h x := by
  obtain ⟨R, I⟩ := hand_remote hi hx hf
  have e2 : (h.remote x).2 = past h.back (past h.out x) := by rw [remote_eq]
  have hp2 := R.pos
  have hz2 := R.sz
  have hb2 := R.bef
  have hsm := R.small
  rw [e2] at hp2 hz2 hb2 I
  rw [e2] at hsm
  obtain ⟨t, r, out, back⟩ := h
  have zx := hx.esz
  cases out with
  | none =>
    have hb : back = none := hi.oi rfl
    subst hb
    refine ⟨hx.pos, by show esz x ≤ _; omega, (fun _ z => nomatch z), (fun _ z => nomatch z), hp2, hz2, hb2, ?_, fun hr _ h2 => I hr (fun _ z => nomatch z) (fun _ z => nomatch z) h2⟩
    refine ⟨fun hs => ⟨hx.beh, hx.beh⟩, fun _ => hsm.mpr ⟨(fun _ z => nomatch z), (fun _ z => nomatch z), hx.beh⟩⟩
  | some a =>
    have ha := hi.og a rfl
    have za := ha.esz
    have hf : Sv17.before x = Sv17.before a := hf
    have T := turn_f ha.pos hx.pos hf.symm
    have Tz2 := T.z2
    have Teh := T.eh
    cases back with
    | none =>
      refine ⟨good_pos T.g2, by show esz (Sv17.turn a x).2 ≤ _; omega, fun a' z => ?_, (fun _ z => nomatch z), hp2, hz2, hb2, ?_, fun hr h1 h2 => I hr (fun a' z => ?_) (fun _ z => nomatch z) h2⟩
      · cases z; exact ⟨ha.pos, hf.symm, by omega⟩
      · refine ⟨fun hs => ⟨?_, (hsm.mp hs).2.2⟩, fun hs => hsm.mpr ⟨fun a' z => ?_, (fun _ z => nomatch z), hs.2⟩⟩
        · exact (hsm.mp hs).2.2
        · cases z; have h1 : Sv17.behind (Sv17.turn a x).2 ≤ 65536 := hs.1; omega
      · cases z; have h1 : Sv17.behind (Sv17.turn a x).2 ≤ 65536 := h1; omega
    | some b =>
      have hb := hi.bg b rfl
      have zb := hb.esz
      have hab : Sv17.behind a = Sv17.before b := hi.fb a b rfl rfl
      have Tb2 := T.b2
      have U := turn_f (x := b) (y := (Sv17.turn a x).2) hb.pos (good_pos T.g2) (by omega)
      have Ueh := U.eh
      refine ⟨good_pos T.g2, by show esz (Sv17.turn a x).2 ≤ _; omega, fun a' z => ?_, fun b' z => ?_, hp2, hz2, hb2, ?_, fun hr h1 h2 => I hr (fun a' z => ?_) (fun b' z => ?_) h2⟩
      · cases z; exact ⟨ha.pos, hf.symm, by omega⟩
      · cases z
        refine ⟨hb.pos, ?_, ?_⟩
        · show Sv17.before b = Sv17.before (Sv17.turn a x).2; omega
        · show esz b + esz (Sv17.turn a x).2 ≤ _; omega
      · refine ⟨fun hs => ⟨?_, (hsm.mp hs).2.2⟩, fun hs => hsm.mpr ⟨fun a' z => ?_, fun b' z => ?_, hs.2⟩⟩
        · have h1 : Sv17.behind (Sv17.turn a x).1 ≤ 65536 := (hsm.mp hs).1 _ rfl
          show Sv17.behind (Sv17.turn a x).2 ≤ 65536; omega
        · cases z; have h1 : Sv17.behind (Sv17.turn a x).2 ≤ 65536 := hs.1; omega
        · cases z; have h1 : Sv17.behind (Sv17.turn b (Sv17.turn a x).2).2 ≤ 65536 := hs.2
          show Sv17.behind (Sv17.turn b (Sv17.turn a x).2).1 ≤ 65536; omega
      · cases z; have h1 : Sv17.behind (Sv17.turn a x).2 ≤ 65536 := h1; omega
      · cases z; have h1 : Sv17.behind (Sv17.turn b (Sv17.turn a x).2).2 ≤ 65536 := h2
        show Sv17.behind (Sv17.turn b (Sv17.turn a x).2).1 ≤ 65536; omega
def frOf (h : Sv17.Hand) (x : Edit) (most : Int) : Sv17.Hand × Sv17.Ans := if 2147483647 ≤ h.revision ∨ Sv17.small ((h.remote x).2 :: ((h.remote x).1.out.toList ++ (h.remote x).1.back.toList)) = false then (h, Sv17.ok (-6)) else if most < ((Sv17.bytes (h.remote x).2).length : Int) then (h, Sv17.ok (-7)) else ((h.remote x).1, ⟨(Sv17.bytes (h.remote x).2).length, Sv17.bytes (h.remote x).2⟩)
theorem HandAt.same {HC : Addr} {m : List Addr} {H H' : Hp} {a : Addr} {h : Sv17.Hand} (x : HandAt HC m H a h) (z : Same H H') : HandAt HC m H' a h := x.frame (n := []) (Frm.of_same z) (by simp) (by simp) (fun b hb => .inl hb)
section
variable {P : Program} {w : World} {K : PySem.W.Frag} {mg : Str → Option Value} {base : Heap}
def spFR (HC : Addr) : Sp := fun vs H Q _ => ∃ (p a : Addr) (most : Int) (h : Sv17.Hand) (x : Edit) (m : List Addr), vs = [.ref p, .int most, .ref a] ∧ HandAt HC m H p h ∧ p ∈ m ∧ (∀ b ∈ m, ∃ o, H b = some o) ∧ EditAt (wo H m) a x ∧ EOk x ∧ Sv17.before x = h.base ∧
  ∀ (H' : Hp) (q : Addr), HandAt HC m H' p (frOf h x most).1 → Frm [p] H H' → H q = none → AnsAt H' q (frOf h x most).2 → Q (.ref q) H'
theorem sc_fr : FnScope ["hand", "most", "edit", "past_out", "past_both", "longest", "answered"] ["hand", "most", "edit"] (defScope s_follow_remote) := ⟨rfl, rfl, rfl, by decide +kernel, rfl, by decide +kernel, by decide +kernel⟩
theorem ok_fr {f HC : Addr} {fd : FuncData} (F : Fun K "follow_remote" "follow_remote" s_follow_remote f fd) (c : EdCal P w K mg base) (T : HandTxt K HC) (gx : mg "max" = none) (gR : Glb mg "LAST_REVISION" (.int 2147483647)) (cT : Cal P w K mg base "turned_past_own" 5 ["own", "edit"] spTPO) (cF : CalM P w K mg base HC "follow" 2 ["self", "out", "kept_back", "edit"] (spFollow HC)) : FnOk P w K mg base CX0 6 f fd ["hand", "most", "edit"] (spFR HC) := by
  refine F.ok sc_fr (fun vs H Q E h => ?_) (fun cdv A outer st H vs Q E hr h => ?_)
  · obtain ⟨p, a, most, h, x, m, rfl, _⟩ := h
    rfl
  · obtain ⟨p, a, most, h, x, m, rfl, hA, pm, tm, hE, hx, hf, k⟩ := h
    have M := rem_m hA.inv hx hf
    obtain ⟨dx, t, vo, vb, ho, ht, hvo, hvb⟩ := hA.ex
    refine ⟨_, pss_cons (ps_set (i := 3) sc_fr.nd rfl (Or.inl rfl) (pc_call cT hr (pa_cons (pe_fld (pv 0) rfl) (pa_cons (pv 2) pa_nil))))
      (pss_cons (ps_set (i := 4) sc_fr.nd rfl (Or.inl rfl) (pc_call cT hr (pa_cons (pe_fld (pv 0) rfl) (pa_cons (pe_ix ix_tup (pv 3) pe_int (fun _ _ => rfl)) pa_nil))))
      (pss_cons (ps_set (i := 5) sc_fr.nd rfl (Or.inl rfl) (pe_callB (call_max2 rfl) rfl gx boot_max (pa_cons (pc_call c.la hr (pa_cons (pe_ix ix_tup (pv 3) pe_int (fun _ _ => rfl)) pa_nil)) (pa_cons (pc_call c.la hr (pa_cons (pe_ix ix_tup (pv 4) pe_int (fun _ _ => rfl)) pa_nil)) pa_nil))))
      (pss_cons (ps_if (PW.pt (pw_or (pt_cmpR op_eq (pe_fld (pv 0) rfl) (pg_glob gR) (nomark _)) (pw_or1 (pt_cmpR op_gt (pv 5) (pg_glob c.gT) (nomark _))))) (pss_one (ps_ret (pe_lst (pa_cons (pg_glob c.gL) pa_nil)))) pss_nil)
      (pss_cons (ps_set (i := 6) sc_fr.nd rfl (Or.inl rfl) (pc_call c.cnt hr (pa_cons (pc_call c.boe hr (pa_cons (pe_ix ix_tup (pv 4) pe_int (fun _ _ => rfl)) pa_nil)) (pa_cons (pv 1) pa_nil))))
      (pss_cons (ps_if (pt_cmpR op_ge (pe_ix ix_list (pv 6) pe_int (fun _ _ => rfl)) pe_int (nomark _)) (pss_one (ps_expr (pm_call cF T.cl hr (pv 0) (pa_cons (pe_ix ix_tup (pv 3) pe_int (fun _ _ => rfl)) (pa_cons (pe_ix ix_tup (pv 4) pe_int (fun _ _ => rfl)) (pa_cons (pe_ix ix_tup (pv 4) pe_int (fun _ _ => rfl)) pa_nil)))))) pss_nil)
      (pss_one (ps_ret (pv 6)))))))), ?_⟩
    have l1 : (past h.out x).length ≤ sizeLine := by
      have := M.p1.len
      have := M.z1
      rw [← line_big]; omega
    have l2 : (past h.back (past h.out x)).length ≤ sizeLine := by
      have := M.p2.len
      have := M.z2
      rw [← line_big]; omega
    have z2 := M.z2
    have hbl := bytes_lim M.p2 (by omega)
    refine ⟨_, rfl, p, HC, dx, _, _, rfl, ho, T.cl, T.n3, handF_out .., _, rfl, vo, a, h.out, x, m, rfl, tm, hvo, hE, hx.pos, fun a' ha' => ?_, fun t1 v1 b1 H1 s1 ht1 hv1 hb1 => ?_⟩
    · obtain ⟨g1, g2, g3⟩ := M.fo a' ha'
      exact ⟨g1, g2, by rw [← line_big]; omega⟩
    have tm1 := tm_same tm s1
    refine ⟨_, rfl, p, HC, dx, _, _, rfl, s1 _ _ ho, T.cl, T.n4, handF_back .., _, rfl, t1, _, _, _, rfl, rfl, SqT.of ht1, atI_nat (j := 1) rfl, vb, b1, h.back, past h.out x, m, rfl, tm1, hvb.same (wo_same (Frm.of_same s1)), hb1, M.p1, fun b' hb' => ?_, fun t2 v2 b2 H2 s2 ht2 hv2 hb2 => ?_⟩
    · obtain ⟨g1, g2, g3⟩ := M.fb b' hb'
      exact ⟨g1, g2, by rw [← line_big]; omega⟩
    refine ⟨_, rfl, t1, _, _, _, rfl, rfl, SqT.of (s2 _ _ ht1), atI_nat (j := 1) rfl, b1, _, rfl, (hb1.same (wo_same (Frm.of_same s2))).same (wo_sub _ _), l1, fun H3 s3 => ?_⟩
    refine ⟨_, rfl, t2, _, _, _, rfl, rfl, SqT.of (s3 _ _ ht2), atI_nat (j := 1) rfl, b2, _, rfl, (hb2.same (wo_same (Frm.of_same s3))).same (wo_sub _ _), l2, fun H4 s4 => ⟨_, _, rfl, ?_⟩⟩
    have s14 := ((s1.trans s2).trans s3).trans s4
    have s24 := s3.trans s4
    have refuse : ∀ (i : Int), frOf h x most = (h, Sv17.ok i) → ∀ (H5 : Hp), Same H4 H5 → ∀ q, H5 q = none → Q (.ref q) (upd H5 q (.lst [.int i])) := fun i e H5 s5 q hq => by
      rw [e] at k
      have z := (s14.trans s5).trans (same_upd (o := .lst [.int i]) hq)
      exact k _ q (hA.same z) (Frm.of_same z) (Same.free (s14.trans s5) hq) ans_one
    refine ⟨_, rfl, p, HC, dx, _, _, rfl, s14 _ _ ho, T.cl, T.n2, handF_rev .., rfl, _, rfl, ite2 (fun c1 => ?_) (fun c1 => ?_)⟩
    · have c1 : h.revision = 2147483647 := by
        have c1 := of_decide_eq_true c1
        injection c1 with c1
        omega
      exact iteT ⟨(by show 1 ≤ sizeLine; decide), fun q hq => refuse (-6) (by unfold frOf; rw [if_pos (.inl (by omega))]) H4 (Same.refl _) q hq⟩
    have c1 : h.revision < 2147483647 := by
      have hrv := hA.inv.rv
      have c1 : h.revision ≠ 2147483647 := fun z => c1 (by rw [z]; rfl)
      omega
    refine ⟨_, rfl, _, _, rfl, rfl, _, rfl, ite2 (fun c2 => ?_) (fun c2 => ?_)⟩
    · have c2 : ¬ (Sv17.behind (past h.out x) ≤ 65536 ∧ Sv17.behind (past h.back (past h.out x)) ≤ 65536) := by
        have c2 := of_decide_eq_true c2
        split at c2 <;> omega
      refine ⟨(by show 1 ≤ sizeLine; decide), fun q hq => refuse (-6) ?_ H4 (Same.refl _) q hq⟩
      unfold frOf
      refine if_pos (.inr ?_)
      cases hs : Sv17.small ((h.remote x).2 :: ((h.remote x).1.out.toList ++ (h.remote x).1.back.toList)) with
      | false => rfl
      | true => exact absurd (M.sm.mp hs) c2
    have c2 : Sv17.behind (past h.out x) ≤ 65536 ∧ Sv17.behind (past h.back (past h.out x)) ≤ 65536 := by
      have c2 : ¬ ((65536 : Int) < _) := fun z => c2 (decide_eq_true z)
      split at c2 <;> omega
    have hsm := M.sm.mpr c2
    have inv2 := M.inv c1 c2.1 c2.2
    have hfr : frOf h x most = if most < ((Sv17.bytes (h.remote x).2).length : Int) then (h, Sv17.ok (-7)) else ((h.remote x).1, ⟨(Sv17.bytes (h.remote x).2).length, Sv17.bytes (h.remote x).2⟩) := by
      unfold frOf
      rw [if_neg (by rw [hsm]; simp; omega)]
    rw [remote_eq] at hfr inv2
    dsimp only at hfr inv2
    refine ⟨_, rfl, t2, _, _, _, rfl, rfl, SqT.of (s24 _ _ ht2), atI_nat (j := 1) rfl, b2, _, rfl, (hb2.same (wo_same (Frm.of_same s24))).same (wo_sub _ _), Nat.le_of_lt hbl, sizes_lim (by omega), fun p5 H5 s5 h5 => ⟨_, rfl, p5, _, most, rfl, h5, hbl, fun q H6 s6 nq hq => ?_⟩⟩
    have s16 := (s14.trans s5).trans s6
    have s26 := (s24.trans s5).trans s6
    have nqH : H q = none := Same.free (s14.trans s5) nq
    unfold Sv17.fits at hq
    by_cases c3 : most < ((Sv17.bytes (past h.back (past h.out x))).length : Int)
    · rw [if_pos c3] at hq hfr
      refine ⟨_, rfl, q, _, _, _, rfl, rfl, SqL.of hq, atI_nat (j := 0) rfl, _, _, rfl, rfl, _, rfl, iteF ⟨_, rfl, ?_⟩⟩
      rw [hfr] at k
      exact k _ q (hA.same s16) (Frm.of_same s16) nqH hq
    · rw [if_neg c3] at hq hfr
      refine ⟨_, rfl, q, _, _, _, rfl, rfl, SqL.of hq, atI_nat (j := 0) rfl, _, _, rfl, rfl, _, rfl, ?_⟩
      rw [show decide ((0 : Int) ≤ ((Sv17.bytes (past h.back (past h.out x))).length : Int)) = true from decide_eq_true (by omega)]
      refine iteT ?_
      have s2w := wo_same (m := m) (Frm.of_same s26)
      have s1w := wo_same (m := m) (Frm.of_same (s2.trans s26))
      have hal : (Sv17.apply (past h.back (past h.out x)) h.text).length = Sv17.behind (past h.back (past h.out x)) := apply_len (Nat.le_of_eq M.b2)
      refine ⟨_, rfl, p, dx, _, rfl, s16 _ _ ho, handF_no _ _ _ _ (by decide +kernel), _, rfl, t1, _, _, _, rfl, rfl, SqT.of ((s2.trans s26) _ _ ht1), atI_nat (j := 0) rfl, _, rfl, t2, _, _, _, rfl, rfl, SqT.of (s26 _ _ ht2), atI_nat (j := 0) rfl, _, rfl, t2, _, _, _, rfl, rfl, SqT.of (s26 _ _ ht2), atI_nat (j := 1) rfl, p, b2, v1, v2, _, _, _, h, m, rfl, hA.same s16, pm, tm_same tm s16, hv1.same s1w, hv2.same s2w, hb2.same s2w, by rw [hal, ← line_big]; omega, inv2, fun H7 hA7 f7 => ⟨_, rfl, ?_⟩⟩
      rw [hfr] at k
      have qp : q ≠ p := fun z => by
        have := tm p pm
        obtain ⟨o, y⟩ := this
        rw [← z, nqH] at y; cases y
      exact k _ q hA7 ((Frm.of_same s16).trans f7) nqH (f7 _ _ hq (by simpa using qp))
end
end My
end
section
set_option Elab.async false
set_option linter.all false
set_option maxRecDepth 100000
set_option maxHeartbeats 2000000
namespace My
open PySem PySem.Spec PyProof.Rows L2
/-! ### et_remote -/
theorem does_remote_pre {o : Sv17.Obj} {b : Bytes} {most : Int} (hz : b.length ≤ 29900) : (most < 0 → Sv17.does (some o) (.remote b (b.length : Int) most) = (some o, Sv17.ok (-2))) ∧ (¬ most < 0 → Sv17.editOf b = none → Sv17.does (some o) (.remote b (b.length : Int) most) = (some o, Sv17.ok (-3))) := by
  cases o with
  | hand h =>
    refine ⟨fun c => ?_, fun c e => ?_⟩
    · show (if Sv17.size (b.length : Int) = false ∨ most < 0 then _ else _) = _
      rw [if_pos (.inr c)]
    · show (if Sv17.size (b.length : Int) = false ∨ most < 0 then _ else _) = _
      rw [size_nat hz, if_neg (by simp [c]), e]
  | host s =>
    refine ⟨fun c => ?_, fun c e => ?_⟩
    · show (some (Sv17.Obj.host s), if Sv17.size (b.length : Int) = false ∨ most < 0 then _ else _) = _
      rw [if_pos (.inr c)]
    · show (some (Sv17.Obj.host s), if Sv17.size (b.length : Int) = false ∨ most < 0 then _ else _) = _
      rw [size_nat hz, if_neg (by simp [c]), e]
theorem does_remote_host {s : Sv17.Host} {b : Bytes} {most : Int} {x : Edit} (hz : b.length ≤ 29900) (c : ¬ most < 0) (e : Sv17.editOf b = some x) : Sv17.does (some (.host s)) (.remote b (b.length : Int) most) = (some (.host s), Sv17.ok (-4)) := by
  show (some (Sv17.Obj.host s), if Sv17.size (b.length : Int) = false ∨ most < 0 then _ else _) = _
  rw [size_nat hz, if_neg (by simp [c]), e]
theorem does_remote_hand {h : Sv17.Hand} {b : Bytes} {most : Int} {x : Edit} (hz : b.length ≤ 29900) (c : ¬ most < 0) (e : Sv17.editOf b = some x) : Sv17.does (some (.hand h)) (.remote b (b.length : Int) most) = if Sv17.before x ≠ h.base then (some (.hand h), Sv17.ok (-4)) else (some (.hand (frOf h x most).1), (frOf h x most).2) := by
  show (if Sv17.size (b.length : Int) = false ∨ most < 0 then _ else _) = _
  rw [size_nat hz, if_neg (by simp [c]), e]
  show (if Sv17.before x ≠ h.base then _ else _) = _
  by_cases hf : Sv17.before x ≠ h.base
  · rw [if_pos hf, if_pos hf]
  · rw [if_neg hf, if_neg hf]
    show (if 2147483647 ≤ h.revision ∨ Sv17.small ((h.remote x).2 :: ((h.remote x).1.out.toList ++ (h.remote x).1.back.toList)) = false then _ else Sv17.told _ _ _ _) = _
    unfold frOf Sv17.told
    by_cases h1 : 2147483647 ≤ h.revision ∨ Sv17.small ((h.remote x).2 :: ((h.remote x).1.out.toList ++ (h.remote x).1.back.toList)) = false
    · rw [if_pos h1, if_pos h1]
    · rw [if_neg h1, if_neg h1]
      by_cases h2 : most < ((Sv17.bytes (h.remote x).2).length : Int)
      · rw [if_pos h2, if_pos h2]
      · rw [if_neg h2, if_neg h2]
section
variable {P : Program} {w : World} {K : PySem.W.Frag} {mg : Str → Option Value} {base : Heap}
/-- a refusal of a call on an object -/
theorem After.refuse {HC SC : Addr} {rest : List Addr} {H0 H H2 : Hp} {od p : Addr} {s : SS} {k : Nat} {o : Sv17.Obj} {Q : VK} {r : Sv17.Abs × Sv17.Ans} {i : Int} (q : After (OAH HC SC) rest H od (s.set k r.1) r.2 Q) (e : r = (some o, Sv17.ok i)) (hk : s[k]? = some (some o)) (hS : STA (OAH HC SC) rest H0 od s) (z0 : Same H0 H) (z : Same H H2) (hp : H2 p = none) : Q (.ref p) (upd H2 p (.lst [.int i])) := by
  rw [e] at q
  dsimp only at q
  rw [set_same hk] at q
  exact q.pure (oah_ok HC SC) hS z0 (z.trans (same_upd hp)) (Same.free z hp) ans_one
def spRem (OA : OAT) : Sp := fun vs H Q _ => ∃ (od a : Addr) (k : Nat) (most : Int) (b : Bytes) (s : SS) (o : Sv17.Obj) (rest : List Addr) (H0 : Hp), vs = [.ref od, .int k, .int most, .ref a] ∧ H a = some (.lst (bv b)) ∧ Byt b ∧ b.length ≤ 29900 ∧ s[k]? = some (some o) ∧ STA OA rest H0 od s ∧ Same H0 H ∧
  After OA rest H od (s.set k (Sv17.does (some o) (.remote b (b.length : Int) most)).1) (Sv17.does (some o) (.remote b (b.length : Int) most)).2 Q
theorem sc_rem : FnScope ["objects", "number", "most", "e", "edit", "hand"] ["objects", "number", "most", "e"] (defScope s_remote) := ⟨rfl, rfl, rfl, by decide +kernel, rfl, by decide +kernel, by decide +kernel⟩
theorem ok_rem {f HC SC : Addr} {fd : FuncData} (F : Fun K "remote" "remote" s_remote f fd) (c : EdCal P w K mg base) (T : ObTxt K mg HC SC) (cl : CalM P w K mg base HC "length_without_own" 2 ["self"] (spLwo HC)) (cf : Cal P w K mg base "follow_remote" 6 ["hand", "most", "edit"] (spFR HC)) : FnOk P w K mg base CX0 7 f fd ["objects", "number", "most", "e"] (spRem (OAH HC SC)) := by
  refine F.ok sc_rem (fun vs H Q E h => ?_) (fun cdv A outer st H vs Q E hr h => ?_)
  · obtain ⟨od, a, k, most, b, s, o, rest, H0, rfl, _⟩ := h
    rfl
  · obtain ⟨od, a, k, most, b, s, o, rest, H0, rfl, ha, hb, hz, hk, hS, z0, q⟩ := h
    have hO := oah_ok HC SC
    refine ⟨_, pss_cons (ps_if (PW.pt (pw_or (pt_val (pc_call c.bel hr (pa_cons (pv 3) pa_nil))) (pw_or1 (pt_cmpR op_lt (pv 2) pe_int (nomark _))))) (pss_one (ps_ret (pe_lst (pa_cons (pg_glob c.gA) pa_nil)))) pss_nil)
      (pss_cons (ps_set (i := 4) sc_rem.nd rfl (Or.inl rfl) (pc_call c.efb hr (pa_cons (pv 3) pa_nil)))
      (pss_cons (ps_if (pt_cmp (pc_isN (pv 4))) (pss_one (ps_ret (pe_lst (pa_cons (pg_glob c.gN) pa_nil)))) pss_nil)
      (pss_cons (ps_set (i := 5) sc_rem.nd rfl (Or.inl rfl) (pe_dget (hu_of hr) (pv 0) (pv 1) (fun _ _ => rfl)))
      (pss_cons (ps_if (PW.pt (pw_or (pt_val (pe_callB (CallR.or (call_isinst T.ih) (call_isinst T.is)) rfl T.gi boot_isinst (pa_cons (pv 5) (pa_cons (pg_glob T.gS) pa_nil)))) (pw_or1 (pt_cmpR op_ne (pc_call c.lb hr (pa_cons (pv 4) pa_nil)) (pm_call0 cl T.th.cl hr (pv 5)) (nomark _))))) (pss_one (ps_ret (pe_lst (pa_cons (pg_glob c.gF) pa_nil)))) pss_nil)
      (pss_one (ps_ret (pc_call cf hr (pa_cons (pv 5) (pa_cons (pv 2) (pa_cons (pv 4) pa_nil)))))))))), ?_⟩
    have hS0 := hS
    obtain ⟨kvs, m, ad, ow, hA⟩ := hS
    have hAH := hA.grow hO z0
    obtain ⟨dp1, dp2⟩ := does_remote_pre (o := o) (b := b) (most := most) hz
    refine ⟨_, rfl, a, b, rfl, ha, by omega, _, rfl, iteF ⟨_, rfl, _, _, rfl, rfl, _, rfl, ite2 (fun c1 => ?_) (fun c1 => ?_)⟩⟩
    · have c1 : most < 0 := by simpa using c1
      exact ⟨(by show 1 ≤ sizeLine; decide), fun p hp => q.refuse (dp1 c1) hk hS0 z0 (Same.refl _) hp⟩
    have c1 : ¬ most < 0 := by simpa using c1
    refine ⟨_, rfl, a, b, m, rfl, ha, hb, by rw [← line_big]; omega, hAH.tk, fun v H1 s1 hv => ?_⟩
    have hA1 := hAH.grow hO s1
    obtain ⟨ek1, ek2, ek3⟩ := hA1.ob k o hk
    cases he : Sv17.editOf b with
    | none =>
      rw [he] at hv
      cases hv
      exact ⟨_, rfl, _, rfl, iteT ⟨(by show 1 ≤ sizeLine; decide), fun p hp => q.refuse (dp2 c1 he) hk hS0 z0 s1 hp⟩⟩
    | some x =>
      rw [he] at hv
      obtain ⟨d, rfl, hE⟩ := hv
      have hx := eok_of he
      refine ⟨_, rfl, _, rfl, iteF ?_⟩
      refine ⟨_, rfl, _, rfl, od, _, rfl, dget_ob hA1.dk ek1, ?_⟩
      cases o with
      | host h =>
        obtain ⟨l, eow, hH⟩ := ek2
        obtain ⟨dx, t, es, ho, _⟩ := hH.ex
        exact ⟨_, rfl, .inr ⟨ad k, dx, _, rfl, ho, _, rfl, iteT (iteT ⟨(by show 1 ≤ sizeLine; decide), fun p hp => q.refuse (does_remote_host hz c1 he) hk hS0 z0 s1 hp⟩)⟩⟩
      | hand h =>
        obtain ⟨eow, hH⟩ := ek2
        obtain ⟨dx, t, vo, vb, ho, ht, _, _⟩ := hH.ex
        have hdo := does_remote_hand (h := h) hz c1 he
        refine ⟨_, rfl, .inl ⟨ad k, dx, _, rfl, ho, _, rfl, iteF ?_⟩⟩
        refine ⟨_, rfl, d, x, rfl, hE.same (wo_sub _ _), hx.len, fun H2 s2 => ?_⟩
        refine ⟨_, rfl, ad k, dx, _, rfl, s2 _ _ ho, handF_no _ _ _ _ (by decide +kernel), ad k, h, m, rfl, hH.same s2, fun H3 s3 => ⟨rfl, _, rfl, ?_⟩⟩
        have s13 := (s1.trans s2).trans s3
        refine kne (fun c2 => ?_) (fun c2 => ?_)
        · rw [if_pos c2] at hdo
          exact ⟨(by show 1 ≤ sizeLine; decide), fun p hp => q.refuse hdo hk hS0 z0 s13 hp⟩
        · rw [if_neg (by rw [c2]; simp)] at hdo
          rw [hdo] at q
          dsimp only at q
          have hA3 := hAH.grow hO s13
          have am : ad k ∈ m := (ek3 (ad k) (by rw [eow]; simp)).1
          refine ⟨_, rfl, _, rfl, _, rfl, ad k, d, most, h, x, m, rfl, hH.same (s2.trans s3), am, hA3.tk, hE.same (wo_same (Frm.of_same (s2.trans s3))), hx, c2, fun H4 p4 hH4 f4 np4 ha4 => ?_⟩
          refine q.turn hO hAH s13 hk (by rw [eow]; exact f4) (by rw [eow]; intro b hb; simp at hb; rw [hb]; obtain ⟨_, _, _, _, y, _⟩ := hH4.ex; exact ⟨_, y⟩) (by rw [eow]; intro b hb ys e; simp at hb; rw [hb, (s2.trans s3) _ _ ho] at e; cases e) ⟨eow, hH4⟩ (hA3.fresh np4) ha4
/-! ### et_confirmed -/
def spCfd (OA : OAT) : Sp := fun vs H Q _ => ∃ (od : Addr) (k : Nat) (most : Int) (s : SS) (o : Sv17.Obj) (rest : List Addr) (H0 : Hp), vs = [.ref od, .int k, .int most] ∧ s[k]? = some (some o) ∧ STA OA rest H0 od s ∧ Same H0 H ∧
  After OA rest H od (s.set k (Sv17.does (some o) (.confirmed most)).1) (Sv17.does (some o) (.confirmed most)).2 Q
theorem sc_cfd : FnScope ["objects", "number", "most", "hand", "answered"] ["objects", "number", "most"] (defScope s_confirmed) := ⟨rfl, rfl, rfl, by decide +kernel, rfl, by decide +kernel, by decide +kernel⟩
theorem ok_cfd {f HC SC : Addr} {fd : FuncData} (F : Fun K "confirmed" "confirmed" s_confirmed f fd) (c : EdCal P w K mg base) (T : ObTxt K mg HC SC) (gR : Glb mg "LAST_REVISION" (.int 2147483647)) (cc : CalM P w K mg base HC "confirm" 1 ["self"] (spConfirm HC)) : FnOk P w K mg base CX0 3 f fd ["objects", "number", "most"] (spCfd (OAH HC SC)) := by
  refine F.ok sc_cfd (fun vs H Q E h => ?_) (fun cdv A outer st H vs Q E hr h => ?_)
  · obtain ⟨od, k, most, s, o, rest, H0, rfl, _⟩ := h
    rfl
  · obtain ⟨od, k, most, s, o, rest, H0, rfl, hk, hS, z0, q⟩ := h
    have hO := oah_ok HC SC
    refine ⟨_, pss_cons (ps_if (pt_cmpR op_lt (pv 2) pe_int (nomark _)) (pss_one (ps_ret (pe_lst (pa_cons (pg_glob c.gA) pa_nil)))) pss_nil)
      (pss_cons (ps_set (i := 3) sc_cfd.nd rfl (Or.inl rfl) (pe_dget (hu_of hr) (pv 0) (pv 1) (fun _ _ => rfl)))
      (pss_cons (ps_if (PW.pt (pw_or (pt_val (pe_callB (CallR.or (call_isinst T.ih) (call_isinst T.is)) rfl T.gi boot_isinst (pa_cons (pv 3) (pa_cons (pg_glob T.gS) pa_nil)))) (pw_or1 (pt_cmp (pc_isN (pe_fld (pv 3) rfl)))))) (pss_one (ps_ret (pe_lst (pa_cons (pg_glob c.gF) pa_nil)))) pss_nil)
      (pss_cons (ps_if (pt_cmpR op_eq (pe_fld (pv 3) rfl) (pg_glob gR) (nomark _)) (pss_one (ps_ret (pe_lst (pa_cons (pg_glob c.gL) pa_nil)))) pss_nil)
      (pss_cons (ps_set (i := 4) sc_cfd.nd rfl (Or.inl rfl) (pe_lst (pa_cons pe_int pa_nil)))
      (pss_cons (ps_if (pt_cmp (pc_notN (pe_fld (pv 3) rfl))) (pss_one (ps_set (i := 4) sc_cfd.nd rfl (Or.inl rfl) (pc_call c.cnt hr (pa_cons (pc_call c.boe hr (pa_cons (pe_fld (pv 3) rfl) pa_nil)) (pa_cons (pv 2) pa_nil))))) pss_nil)
      (pss_cons (ps_if (pt_cmpR op_ge (pe_ix ix_list (pv 4) pe_int (fun _ _ => rfl)) pe_int (nomark _)) (pss_one (ps_expr (pm_call0 cc T.th.cl hr (pv 3)))) pss_nil)
      (pss_one (ps_ret (pv 4))))))))), ?_⟩
    have hS0 := hS
    obtain ⟨kvs, m, ad, ow, hA⟩ := hS
    have hAH := hA.grow hO z0
    obtain ⟨ek1, ek2, ek3⟩ := hAH.ob k o hk
    refine ⟨_, rfl, _, _, rfl, rfl, _, rfl, ite2 (fun c1 => ?_) (fun c1 => ?_)⟩
    · have c1 : most < 0 := by simpa using c1
      have e : Sv17.does (some o) (.confirmed most) = (some o, Sv17.ok (-2)) := by
        cases o with
        | hand h =>
          show (if most < 0 then _ else _) = _
          rw [if_pos c1]
        | host h =>
          show (some (Sv17.Obj.host h), if most < 0 then _ else _) = _
          rw [if_pos c1]
      exact ⟨(by show 1 ≤ sizeLine; decide), fun p hp => q.refuse e hk hS0 z0 (Same.refl _) hp⟩
    have c1 : ¬ most < 0 := by simpa using c1
    refine ⟨_, rfl, _, rfl, od, _, rfl, dget_ob hAH.dk ek1, ?_⟩
    cases o with
    | host h =>
      obtain ⟨l, eow, hH⟩ := ek2
      obtain ⟨dx, t, es, ho, _⟩ := hH.ex
      have e : Sv17.does (some (.host h)) (.confirmed most) = (some (.host h), Sv17.ok (-4)) := by
        show (some (Sv17.Obj.host h), if most < 0 then _ else _) = _
        rw [if_neg c1]
      exact ⟨_, rfl, .inr ⟨ad k, dx, _, rfl, ho, _, rfl, iteT (iteT ⟨(by show 1 ≤ sizeLine; decide), fun p hp => q.refuse e hk hS0 z0 (Same.refl _) hp⟩)⟩⟩
    | hand h =>
      obtain ⟨eow, hH⟩ := ek2
      obtain ⟨dx, t, vo, vb, ho, ht, hvo, hvb⟩ := hH.ex
      have am : ad k ∈ m := (ek3 (ad k) (by rw [eow]; simp)).1
      have hdo : Sv17.does (some (.hand h)) (.confirmed most) = if h.out = none then (some (.hand h), Sv17.ok (-4)) else if 2147483647 ≤ h.revision then (some (.hand h), Sv17.ok (-6)) else Sv17.told (.hand h) (.hand h.confirmed) most (match h.back with
        | some b => Sv17.bytes b
        | none => []) := by
        show (if most < 0 then _ else _) = _
        rw [if_neg c1]
        rfl
      refine ⟨_, rfl, .inl ⟨ad k, dx, _, rfl, ho, _, rfl, iteF ?_⟩⟩
      cases hout : h.out with
      | none =>
        rw [hout] at hvo
        cases hvo
        rw [if_pos hout] at hdo
        exact ⟨_, rfl, ad k, HC, dx, _, _, rfl, ho, T.th.cl, T.th.n3, handF_out .., _, rfl, iteT ⟨(by show 1 ≤ sizeLine; decide), fun p hp => q.refuse hdo hk hS0 z0 (Same.refl _) hp⟩⟩
      | some eo =>
        rw [hout] at hvo
        obtain ⟨ao, rfl, hEo⟩ := hvo
        rw [if_neg (by rw [hout]; simp)] at hdo
        refine ⟨_, rfl, ad k, HC, dx, _, _, rfl, ho, T.th.cl, T.th.n3, handF_out .., _, rfl, iteF ?_⟩
        refine ⟨_, rfl, ad k, HC, dx, _, _, rfl, ho, T.th.cl, T.th.n2, handF_rev .., rfl, _, rfl, ite2 (fun c2 => ?_) (fun c2 => ?_)⟩
        · have c2 : h.revision = 2147483647 := by
            have c2 := of_decide_eq_true c2
            injection c2 with c2
            omega
          rw [if_pos (by omega)] at hdo
          exact ⟨(by show 1 ≤ sizeLine; decide), fun p hp => q.refuse hdo hk hS0 z0 (Same.refl _) hp⟩
        have c2 : h.revision < 2147483647 := by
          have hrv := hH.inv.rv
          have c2 : h.revision ≠ 2147483647 := fun z => c2 (by rw [z]; rfl)
          omega
        rw [if_neg (by omega)] at hdo
        unfold Sv17.told at hdo
        refine ⟨(by show 1 ≤ sizeLine; decide), fun p0 hp0 => ?_⟩
        have s1 := same_upd (o := .lst [.int 0]) hp0
        -- the hand turns
        have fin : ∀ (H2 : Hp) (qa : Addr) (x : Sv17.Ans), Same H H2 → H qa = none → AnsAt H2 qa x → Sv17.does (some (.hand h)) (.confirmed most) = (some (.hand h.confirmed), x) → ∀ H3 : Hp, HandAt HC m H3 (ad k) h.confirmed → Frm [ad k] H2 H3 → Q (.ref qa) H3 := fun H2 qa x s2 nq hq e H3 hH3 f3 => by
          rw [e] at q
          dsimp only at q
          have ho2 := s2 _ _ ho
          have qn : qa ≠ ad k := fun z => by rw [z, ho] at nq; cases nq
          exact q.turn hO hAH s2 hk (by rw [eow]; exact f3) (by rw [eow]; intro b hb; simp at hb; rw [hb]; obtain ⟨_, _, _, _, y, _⟩ := hH3.ex; exact ⟨_, y⟩) (by rw [eow]; intro b hb ys e; simp at hb; rw [hb, ho2] at e; cases e) ⟨eow, hH3⟩ (hAH.fresh nq) (f3 _ _ hq (by simpa using qn))
        cases hback : h.back with
        | none =>
          rw [hback] at hvb
          cases hvb
          rw [hback] at hdo
          dsimp only at hdo
          rw [if_neg (show ¬ most < ((([] : Sv17.Bytes).length : Nat) : Int) from by simpa using c1)] at hdo
          refine ⟨_, rfl, ad k, HC, dx, _, _, rfl, s1 _ _ ho, T.th.cl, T.th.n4, handF_back .., _, rfl, iteF ?_⟩
          refine ⟨_, rfl, p0, _, _, _, rfl, rfl, SqL.of upd_same, atI_nat (j := 0) rfl, _, _, rfl, rfl, _, rfl, iteT ?_⟩
          refine ⟨_, rfl, ad k, dx, _, rfl, s1 _ _ ho, handF_no _ _ _ _ (by decide +kernel), ad k, h, m, rfl, hH.same s1, am, by rw [hout]; simp, c2, fun H3 hH3 f3 => ⟨_, rfl, ?_⟩⟩
          exact fin _ p0 ⟨((([] : Sv17.Bytes).length : Nat) : Int), []⟩ s1 hp0 (show (upd H p0 (.lst [.int 0])) p0 = _ from upd_same) hdo H3 hH3 f3
        | some eb =>
          rw [hback] at hvb
          obtain ⟨ab, rfl, hEb⟩ := hvb
          rw [hback] at hdo
          dsimp only at hdo
          have hb := hH.inv.bg eb hback
          have zb := hb.esz
          have hbl := bytes_lim hb.pos (by omega)
          refine ⟨_, rfl, ad k, HC, dx, _, _, rfl, s1 _ _ ho, T.th.cl, T.th.n4, handF_back .., _, rfl, iteT ?_⟩
          refine ⟨_, rfl, ad k, HC, dx, _, _, rfl, s1 _ _ ho, T.th.cl, T.th.n4, handF_back .., ab, eb, rfl, (hEb.same (wo_same (Frm.of_same s1))).same (wo_sub _ _), Nat.le_of_lt hbl, sizes_lim (by omega), fun p5 H5 s5 h5 => ⟨_, rfl, p5, _, most, rfl, h5, hbl, fun qa H6 s6 nq hq => ?_⟩⟩
          have s16 := (s1.trans s5).trans s6
          have nqH : H qa = none := Same.free (s1.trans s5) nq
          unfold Sv17.fits at hq
          by_cases c3 : most < ((Sv17.bytes eb).length : Int)
          · rw [if_pos c3] at hq hdo
            refine ⟨_, rfl, qa, _, _, _, rfl, rfl, SqL.of hq, atI_nat (j := 0) rfl, _, _, rfl, rfl, _, rfl, iteF ⟨_, rfl, ?_⟩⟩
            rw [hdo] at q
            dsimp only at q
            rw [set_same hk] at q
            exact q.pure hO hS0 z0 s16 nqH hq
          · rw [if_neg c3] at hq hdo
            refine ⟨_, rfl, qa, _, _, _, rfl, rfl, SqL.of hq, atI_nat (j := 0) rfl, _, _, rfl, rfl, _, rfl, ?_⟩
            rw [show decide ((0 : Int) ≤ ((Sv17.bytes eb).length : Int)) = true from decide_eq_true (by omega)]
            refine iteT ⟨_, rfl, ad k, dx, _, rfl, s16 _ _ ho, handF_no _ _ _ _ (by decide +kernel), ad k, h, m, rfl, hH.same s16, am, by rw [hout]; simp, c2, fun H3 hH3 f3 => ⟨_, rfl, ?_⟩⟩
            exact fin _ qa _ s16 nqH hq hdo H3 hH3 f3
/-! ### et_text, et_revision, et_state -/
def spTxt (OA : OAT) : Sp := fun vs H Q _ => ∃ (od : Addr) (k : Nat) (most : Int) (s : SS) (o : Sv17.Obj) (rest : List Addr) (H0 : Hp), vs = [.ref od, .int k, .int most] ∧ s[k]? = some (some o) ∧ STA OA rest H0 od s ∧ Same H0 H ∧
  After OA rest H od (s.set k (Sv17.does (some o) (.text most)).1) (Sv17.does (some o) (.text most)).2 Q
theorem sc_txt : FnScope ["objects", "number", "most"] ["objects", "number", "most"] (defScope s_text_of) := ⟨rfl, rfl, rfl, by decide +kernel, rfl, by decide +kernel, by decide +kernel⟩
theorem ok_txt {f HC SC : Addr} {fd : FuncData} (F : Fun K "text_of" "text_of" s_text_of f fd) (c : EdCal P w K mg base) (T : ObTxt K mg HC SC) : FnOk P w K mg base CX0 2 f fd ["objects", "number", "most"] (spTxt (OAH HC SC)) := by
  refine F.ok sc_txt (fun vs H Q E h => ?_) (fun cdv A outer st H vs Q E hr h => ?_)
  · obtain ⟨od, k, most, s, o, rest, H0, rfl, _⟩ := h
    rfl
  · obtain ⟨od, k, most, s, o, rest, H0, rfl, hk, hS, z0, q⟩ := h
    have hO := oah_ok HC SC
    refine ⟨_, pss_cons (ps_if (pt_cmpR op_lt (pv 2) pe_int (nomark _)) (pss_one (ps_ret (pe_lst (pa_cons (pg_glob c.gA) pa_nil)))) pss_nil)
      (pss_one (ps_ret (pc_call c.cnt hr (pa_cons (pe_fld (pe_dget (hu_of hr) (pv 0) (pv 1) (fun _ _ => rfl)) rfl) (pa_cons (pv 2) pa_nil))))), ?_⟩
    have hS0 := hS
    obtain ⟨kvs, m, ad, ow, hA⟩ := hS
    have hAH := hA.grow hO z0
    obtain ⟨ek1, ek2, ek3⟩ := hAH.ob k o hk
    refine ⟨_, rfl, _, _, rfl, rfl, _, rfl, ite2 (fun c1 => ?_) (fun c1 => ?_)⟩
    · have c1 : most < 0 := by simpa using c1
      have e : Sv17.does (some o) (.text most) = (some o, Sv17.ok (-2)) := by
        cases o with
        | hand h =>
          show (some (Sv17.Obj.hand h), if most < 0 then _ else _) = _
          rw [if_pos c1]
        | host h =>
          show (some (Sv17.Obj.host h), if most < 0 then _ else _) = _
          rw [if_pos c1]
      exact ⟨(by show 1 ≤ sizeLine; decide), fun p hp => q.refuse e hk hS0 z0 (Same.refl _) hp⟩
    have c1 : ¬ most < 0 := by simpa using c1
    refine ⟨_, rfl, _, rfl, od, _, rfl, dget_ob hAH.dk ek1, ?_⟩
    cases o with
    | hand h =>
      obtain ⟨eow, hH⟩ := ek2
      obtain ⟨dx, t, vo, vb, ho, ht, _, _⟩ := hH.ex
      have e : Sv17.does (some (.hand h)) (.text most) = (some (.hand h), Sv17.fits most h.text) := by
        show (some (Sv17.Obj.hand h), if most < 0 then _ else _) = _
        rw [if_neg c1]
      rw [e] at q
      dsimp only at q
      rw [set_same hk] at q
      have tl := hH.inv.tl
      exact ⟨ad k, HC, dx, _, _, rfl, ho, T.th.cl, T.th.n1, handF_text .., _, rfl, t, h.text, most, rfl, wo_sub _ _ _ _ ht, by rw [← line_big]; omega, fun p H' s1 np hp => q.pure hO hS0 z0 s1 np hp⟩
    | host h =>
      obtain ⟨l, eow, hH⟩ := ek2
      obtain ⟨dx, t, es, ho, ht, _, _⟩ := hH.ex
      have e : Sv17.does (some (.host h)) (.text most) = (some (.host h), Sv17.fits most h.text) := by
        show (some (Sv17.Obj.host h), if most < 0 then _ else _) = _
        rw [if_neg c1]
      rw [e] at q
      dsimp only at q
      rw [set_same hk] at q
      have tl := host_tl hH.inv
      exact ⟨ad k, SC, dx, _, _, rfl, ho, T.ts.cl, T.ts.n1, hostF_text .., _, rfl, t, h.text, most, rfl, wo_sub _ _ _ _ ht, by rw [← line_big]; omega, fun p H' s1 np hp => q.pure hO hS0 z0 s1 np hp⟩
def spTell (OA : OAT) (call : Sv17.Call) : Sp := fun vs H Q _ => ∃ (od : Addr) (k : Nat) (s : SS) (o : Sv17.Obj) (rest : List Addr) (H0 : Hp), vs = [.ref od, .int k] ∧ s[k]? = some (some o) ∧ STA OA rest H0 od s ∧ Same H0 H ∧
  After OA rest H od (s.set k (Sv17.does (some o) call).1) (Sv17.does (some o) call).2 Q
theorem sc_rev : FnScope ["objects", "number", "asked"] ["objects", "number"] (defScope s_revision_of) := ⟨rfl, rfl, rfl, by decide +kernel, rfl, by decide +kernel, by decide +kernel⟩
theorem ok_rev {f HC SC : Addr} {fd : FuncData} (F : Fun K "revision_of" "revision_of" s_revision_of f fd) (gl : mg "len" = none) (T : ObTxt K mg HC SC) : FnOk P w K mg base CX0 1 f fd ["objects", "number"] (spTell (OAH HC SC) .revision) := by
  refine F.ok sc_rev (fun vs H Q E h => ?_) (fun cdv A outer st H vs Q E hr h => ?_)
  · obtain ⟨od, k, s, o, rest, H0, rfl, _⟩ := h
    rfl
  · obtain ⟨od, k, s, o, rest, H0, rfl, hk, hS, z0, q⟩ := h
    have hO := oah_ok HC SC
    refine ⟨_, pss_cons (ps_set (i := 2) sc_rev.nd rfl (Or.inl rfl) (pe_dget (hu_of hr) (pv 0) (pv 1) (fun _ _ => rfl)))
      (pss_cons (ps_if (pt_val (pe_callB (CallR.or (call_isinst T.ih) (call_isinst T.is)) rfl T.gi boot_isinst (pa_cons (pv 2) (pa_cons (pg_glob T.gS) pa_nil)))) (pss_one (ps_ret (pe_lst (pa_cons (pe_callB call_len_seq rfl gl PySem.boot_len (pa_cons (pe_fld (pv 2) rfl) pa_nil)) pa_nil)))) pss_nil)
      (pss_one (ps_ret (pe_lst (pa_cons (pe_fld (pv 2) rfl) pa_nil))))), ?_⟩
    have hS0 := hS
    obtain ⟨kvs, m, ad, ow, hA⟩ := hS
    have hAH := hA.grow hO z0
    obtain ⟨ek1, ek2, ek3⟩ := hAH.ob k o hk
    refine ⟨_, rfl, _, rfl, od, _, rfl, dget_ob hAH.dk ek1, ?_⟩
    cases o with
    | hand h =>
      obtain ⟨eow, hH⟩ := ek2
      obtain ⟨dx, t, vo, vb, ho, ht, _, _⟩ := hH.ex
      refine ⟨_, rfl, .inl ⟨ad k, dx, _, rfl, ho, _, rfl, iteF ?_⟩⟩
      exact ⟨_, rfl, ad k, HC, dx, _, _, rfl, ho, T.th.cl, T.th.n2, handF_rev .., (by show 1 ≤ sizeLine; decide), fun p hp => q.refuse rfl hk hS0 z0 (Same.refl _) hp⟩
    | host h =>
      obtain ⟨l, eow, hH⟩ := ek2
      obtain ⟨dx, t, es, ho, ht, hl, hp2⟩ := hH.ex
      have hlen : es.length = h.edits.length := Paired.length hp2
      refine ⟨_, rfl, .inr ⟨ad k, dx, _, rfl, ho, _, rfl, iteT ?_⟩⟩
      refine ⟨_, rfl, ad k, SC, dx, _, _, rfl, ho, T.ts.cl, T.ts.n2, hostF_edits .., l, _, rfl, .inl (SqL.of hl), (by show 1 ≤ sizeLine; decide), fun p hp => ?_⟩
      rw [List.length_map, hlen]
      exact q.refuse rfl hk hS0 z0 (Same.refl _) hp
theorem sc_sta : FnScope ["objects", "number", "asked"] ["objects", "number"] (defScope s_state_of) := ⟨rfl, rfl, rfl, by decide +kernel, rfl, by decide +kernel, by decide +kernel⟩
theorem ok_sta {f HC SC : Addr} {fd : FuncData} (F : Fun K "state_of" "state_of" s_state_of f fd) (T : ObTxt K mg HC SC) (g0 : Glb mg "NOTHING_OUT" (.int 0)) (g1 : Glb mg "ONE_OUT" (.int 1)) (g2 : Glb mg "ONE_KEPT_BACK" (.int 2)) (g3 : Glb mg "THE_HOST" (.int 3)) : FnOk P w K mg base CX0 1 f fd ["objects", "number"] (spTell (OAH HC SC) .state) := by
  refine F.ok sc_sta (fun vs H Q E h => ?_) (fun cdv A outer st H vs Q E hr h => ?_)
  · obtain ⟨od, k, s, o, rest, H0, rfl, _⟩ := h
    rfl
  · obtain ⟨od, k, s, o, rest, H0, rfl, hk, hS, z0, q⟩ := h
    have hO := oah_ok HC SC
    refine ⟨_, pss_cons (ps_set (i := 2) sc_sta.nd rfl (Or.inl rfl) (pe_dget (hu_of hr) (pv 0) (pv 1) (fun _ _ => rfl)))
      (pss_cons (ps_if (pt_val (pe_callB (CallR.or (call_isinst T.ih) (call_isinst T.is)) rfl T.gi boot_isinst (pa_cons (pv 2) (pa_cons (pg_glob T.gS) pa_nil)))) (pss_one (ps_ret (pe_lst (pa_cons (pg_glob g3) pa_nil)))) pss_nil)
      (pss_cons (ps_if (pt_cmp (pc_isN (pe_fld (pv 2) rfl))) (pss_one (ps_ret (pe_lst (pa_cons (pg_glob g0) pa_nil)))) pss_nil)
      (pss_cons (ps_if (pt_cmp (pc_isN (pe_fld (pv 2) rfl))) (pss_one (ps_ret (pe_lst (pa_cons (pg_glob g1) pa_nil)))) pss_nil)
      (pss_one (ps_ret (pe_lst (pa_cons (pg_glob g2) pa_nil))))))), ?_⟩
    have hS0 := hS
    obtain ⟨kvs, m, ad, ow, hA⟩ := hS
    have hAH := hA.grow hO z0
    obtain ⟨ek1, ek2, ek3⟩ := hAH.ob k o hk
    refine ⟨_, rfl, _, rfl, od, _, rfl, dget_ob hAH.dk ek1, ?_⟩
    cases o with
    | host h =>
      obtain ⟨l, eow, hH⟩ := ek2
      obtain ⟨dx, t, es, ho, _⟩ := hH.ex
      exact ⟨_, rfl, .inr ⟨ad k, dx, _, rfl, ho, _, rfl, iteT ⟨(by show 1 ≤ sizeLine; decide), fun p hp => q.refuse rfl hk hS0 z0 (Same.refl _) hp⟩⟩⟩
    | hand h =>
      obtain ⟨eow, hH⟩ := ek2
      obtain ⟨dx, t, vo, vb, ho, ht, hvo, hvb⟩ := hH.ex
      refine ⟨_, rfl, .inl ⟨ad k, dx, _, rfl, ho, _, rfl, iteF ?_⟩⟩
      have hdo : Sv17.does (some (.hand h)) .state = (some (.hand h), Sv17.ok (if h.out = none then 0 else if h.back = none then 1 else 2)) := rfl
      cases hout : h.out with
      | none =>
        rw [hout] at hvo
        cases hvo
        rw [if_pos hout] at hdo
        exact ⟨_, rfl, ad k, HC, dx, _, _, rfl, ho, T.th.cl, T.th.n3, handF_out .., _, rfl, iteT ⟨(by show 1 ≤ sizeLine; decide), fun p hp => q.refuse hdo hk hS0 z0 (Same.refl _) hp⟩⟩
      | some eo =>
        rw [hout] at hvo
        obtain ⟨ao, rfl, _⟩ := hvo
        rw [if_neg (by rw [hout]; simp)] at hdo
        refine ⟨_, rfl, ad k, HC, dx, _, _, rfl, ho, T.th.cl, T.th.n3, handF_out .., _, rfl, iteF ?_⟩
        cases hback : h.back with
        | none =>
          rw [hback] at hvb
          cases hvb
          rw [if_pos hback] at hdo
          exact ⟨_, rfl, ad k, HC, dx, _, _, rfl, ho, T.th.cl, T.th.n4, handF_back .., _, rfl, iteT ⟨(by show 1 ≤ sizeLine; decide), fun p hp => q.refuse hdo hk hS0 z0 (Same.refl _) hp⟩⟩
        | some eb =>
          rw [hback] at hvb
          obtain ⟨ab, rfl, _⟩ := hvb
          rw [if_neg (by rw [hback]; simp)] at hdo
          exact ⟨_, rfl, ad k, HC, dx, _, _, rfl, ho, T.th.cl, T.th.n4, handF_back .., _, rfl, iteF ⟨(by show 1 ≤ sizeLine; decide), fun p hp => q.refuse hdo hk hS0 z0 (Same.refl _) hp⟩⟩
end
end My
end
section
set_option Elab.async false
set_option linter.all false
set_option maxRecDepth 100000
set_option maxHeartbeats 2000000
namespace My
open PySem PySem.Spec PyProof.Rows L2
/-! ### et_receive -/
theorem does_receive_pre {o : Sv17.Obj} {b : Bytes} {r most : Int} (hz : b.length ≤ 29900) : (r < 0 ∨ most < 0 → Sv17.does (some o) (.receive r b (b.length : Int) most) = (some o, Sv17.ok (-2))) ∧ (¬ (r < 0 ∨ most < 0) → Sv17.editOf b = none → Sv17.does (some o) (.receive r b (b.length : Int) most) = (some o, Sv17.ok (-3))) := by
  have sz := size_nat hz
  cases o with
  | hand h =>
    refine ⟨fun c => ?_, fun c e => ?_⟩
    · show (some (Sv17.Obj.hand h), if r < 0 ∨ Sv17.size (b.length : Int) = false ∨ most < 0 then _ else _) = _
      rw [if_pos (by rcases c with c | c <;> simp [c])]
    · show (some (Sv17.Obj.hand h), if r < 0 ∨ Sv17.size (b.length : Int) = false ∨ most < 0 then _ else _) = _
      rw [if_neg (by rw [sz]; simp; omega), e]
  | host s =>
    refine ⟨fun c => ?_, fun c e => ?_⟩
    · show (if r < 0 ∨ Sv17.size (b.length : Int) = false ∨ most < 0 then _ else _) = _
      rw [if_pos (by rcases c with c | c <;> simp [c])]
    · show (if r < 0 ∨ Sv17.size (b.length : Int) = false ∨ most < 0 then _ else _) = _
      rw [if_neg (by rw [sz]; simp; omega), e]
theorem does_receive_hand {h : Sv17.Hand} {b : Bytes} {r most : Int} {x : Edit} (hz : b.length ≤ 29900) (c : ¬ (r < 0 ∨ most < 0)) (e : Sv17.editOf b = some x) : Sv17.does (some (.hand h)) (.receive r b (b.length : Int) most) = (some (.hand h), Sv17.ok (-4)) := by
  have sz := size_nat hz
  show (some (Sv17.Obj.hand h), if r < 0 ∨ Sv17.size (b.length : Int) = false ∨ most < 0 then _ else _) = _
  rw [if_neg (by rw [sz]; simp; omega), e]
theorem does_receive_host {s : Sv17.Host} {b : Bytes} {n : Nat} {most : Int} {x : Edit} (hz : b.length ≤ 29900) (c : ¬ most < 0) (e : Sv17.editOf b = some x) : Sv17.does (some (.host s)) (.receive (n : Int) b (b.length : Int) most) = if s.edits.length < n ∨ Sv17.before x ≠ s.long n then (some (.host s), Sv17.ok (-4)) else if 64 ≤ s.edits.length ∨ Sv17.small (parts x (s.edits.drop n)) = false then (some (.host s), Sv17.ok (-6)) else if most < ((Sv17.bytes (s.receive n x).2).length : Int) then (some (.host s), Sv17.ok (-7)) else (some (.host (s.receive n x).1), ⟨(Sv17.bytes (s.receive n x).2).length, Sv17.bytes (s.receive n x).2⟩) := by
  have sz := size_nat hz
  show (if (n : Int) < 0 ∨ Sv17.size (b.length : Int) = false ∨ most < 0 then _ else _) = _
  rw [if_neg (by rw [sz]; simp; omega), e]
  show (if s.edits.length < (n : Int).toNat ∨ Sv17.before x ≠ s.long (n : Int).toNat then _ else if 64 ≤ s.edits.length ∨ Sv17.small ((s.edits.drop (n : Int).toNat).zipIdx.map fun p => (((s.edits.drop (n : Int).toNat).take (p.2 + 1)).foldl (fun a b => (Sv17.turn a b).1) x)) = false then _ else Sv17.told (.host s) (.host (s.receive (n : Int).toNat x).1) most (Sv17.bytes (s.receive (n : Int).toNat x).2)) = _
  rw [Int.toNat_natCast, parts_eq]
  rfl
theorem HostAt.same {SC : Addr} {m : List Addr} {H H' : Hp} {a l : Addr} {h : Sv17.Host} (x : HostAt SC m H a l h) (z : Same H H') : HostAt SC m H' a l h := x.frame (n := []) (Frm.of_same z) (by simp) (by simp) (by simp) (fun b hb => .inl hb)
section
variable {P : Program} {w : World} {K : PySem.W.Frag} {mg : Str → Option Value} {base : Heap}
structure ObH (K : PySem.W.Frag) (mg : Str → Option Value) (HC SC : Addr) : Prop where
  hh : IsTxt K HC HC true
  sh : IsTxt K SC HC false
  gH : Glb mg "Hand" (.ref HC)
def spRec (OA : OAT) : Sp := fun vs H Q _ => ∃ (od a : Addr) (k : Nat) (rv most : Int) (b : Bytes) (s : SS) (o : Sv17.Obj) (rest : List Addr) (H0 : Hp), vs = [.ref od, .int k, .int rv, .int most, .ref a] ∧ H a = some (.lst (bv b)) ∧ Byt b ∧ b.length ≤ 29900 ∧ s[k]? = some (some o) ∧ STA OA rest H0 od s ∧ Same H0 H ∧
  After OA rest H od (s.set k (Sv17.does (some o) (.receive rv b (b.length : Int) most)).1) (Sv17.does (some o) (.receive rv b (b.length : Int) most)).2 Q
theorem sc_rec : FnScope ["objects", "number", "revision", "most", "e", "edit", "host", "answered"] ["objects", "number", "revision", "most", "e"] (defScope s_receive) := ⟨rfl, rfl, rfl, by decide +kernel, rfl, by decide +kernel, by decide +kernel⟩
theorem ok_rec {f HC SC : Addr} {fd : FuncData} (F : Fun K "receive" "receive" s_receive f fd) (c : EdCal P w K mg base) (T : ObTxt K mg HC SC) (TH : ObH K mg HC SC) (gM : Glb mg "MOST_EDITS" (.int 64)) (cl : CalM P w K mg base SC "length_as_of" 2 ["self", "revision"] (spLao SC)) (ct : CalM P w K mg base SC "turned_since" 5 ["self", "edit", "revision"] (spTs SC)) (cp : CalM P w K mg base SC "put_in_order" 2 ["self", "edit"] (spPio SC)) : FnOk P w K mg base CX0 6 f fd ["objects", "number", "revision", "most", "e"] (spRec (OAH HC SC)) := by
  refine F.ok sc_rec (fun vs H Q E h => ?_) (fun cdv A outer st H vs Q E hr h => ?_)
  · obtain ⟨od, a, k, rv, most, b, s, o, rest, H0, rfl, _⟩ := h
    rfl
  · obtain ⟨od, a, k, rv, most, b, s, o, rest, H0, rfl, ha, hb, hz, hk, hS, z0, q⟩ := h
    have hO := oah_ok HC SC
    refine ⟨_, pss_cons (ps_if (PW.pt (pw_or (pt_val (pc_call c.bel hr (pa_cons (pv 4) pa_nil))) (pw_or (pt_cmpR op_lt (pv 2) pe_int (nomark _)) (pw_or1 (pt_cmpR op_lt (pv 3) pe_int (nomark _)))))) (pss_one (ps_ret (pe_lst (pa_cons (pg_glob c.gA) pa_nil)))) pss_nil)
      (pss_cons (ps_set (i := 5) sc_rec.nd rfl (Or.inl rfl) (pc_call c.efb hr (pa_cons (pv 4) pa_nil)))
      (pss_cons (ps_if (pt_cmp (pc_isN (pv 5))) (pss_one (ps_ret (pe_lst (pa_cons (pg_glob c.gN) pa_nil)))) pss_nil)
      (pss_cons (ps_set (i := 6) sc_rec.nd rfl (Or.inl rfl) (pe_dget (hu_of hr) (pv 0) (pv 1) (fun _ _ => rfl)))
      (pss_cons (ps_if (PW.pt (pw_or (pt_val (pe_callB (CallR.or (call_isinst TH.hh) (call_isinst TH.sh)) rfl T.gi boot_isinst (pa_cons (pv 6) (pa_cons (pg_glob TH.gH) pa_nil)))) (pw_or (pt_cmpR op_gt (pv 2) (pe_callB call_len_seq rfl c.gl PySem.boot_len (pa_cons (pe_fld (pv 6) rfl) pa_nil)) (nomark _)) (pw_or1 (pt_cmpR op_ne (pc_call c.lb hr (pa_cons (pv 5) pa_nil)) (pm_call cl T.ts.cl hr (pv 6) (pa_cons (pv 2) pa_nil)) (nomark _)))))) (pss_one (ps_ret (pe_lst (pa_cons (pg_glob c.gF) pa_nil)))) pss_nil)
      (pss_cons (ps_if (pt_cmpR op_eq (pe_callB call_len_seq rfl c.gl PySem.boot_len (pa_cons (pe_fld (pv 6) rfl) pa_nil)) (pg_glob gM) (nomark _)) (pss_one (ps_ret (pe_lst (pa_cons (pg_glob c.gL) pa_nil)))) pss_nil)
      (pss_cons (ps_set (i := 5) sc_rec.nd rfl (Or.inl rfl) (pm_call ct T.ts.cl hr (pv 6) (pa_cons (pv 5) (pa_cons (pv 2) pa_nil))))
      (pss_cons (ps_if (pt_cmp (pc_isN (pv 5))) (pss_one (ps_ret (pe_lst (pa_cons (pg_glob c.gL) pa_nil)))) pss_nil)
      (pss_cons (ps_set (i := 7) sc_rec.nd rfl (Or.inl rfl) (pc_call c.cnt hr (pa_cons (pc_call c.boe hr (pa_cons (pv 5) pa_nil)) (pa_cons (pv 3) pa_nil))))
      (pss_cons (ps_if (pt_cmpR op_ge (pe_ix ix_list (pv 7) pe_int (fun _ _ => rfl)) pe_int (nomark _)) (pss_one (ps_expr (pm_call cp T.ts.cl hr (pv 6) (pa_cons (pv 5) pa_nil)))) pss_nil)
      (pss_one (ps_ret (pv 7)))))))))))), ?_⟩
    have hS0 := hS
    obtain ⟨kvs, m, ad, ow, hA⟩ := hS
    have hAH := hA.grow hO z0
    obtain ⟨dp1, dp2⟩ := does_receive_pre (o := o) (b := b) (r := rv) (most := most) hz
    refine ⟨_, rfl, a, b, rfl, ha, by omega, _, rfl, iteF ⟨_, rfl, _, _, rfl, rfl, _, rfl, ite2 (fun c0 => ?_) (fun c0 => ?_)⟩⟩
    · have c0 : rv < 0 := by simpa using c0
      exact iteT ⟨(by show 1 ≤ sizeLine; decide), fun p hp => q.refuse (dp1 (.inl c0)) hk hS0 z0 (Same.refl _) hp⟩
    have c0 : ¬ rv < 0 := by simpa using c0
    refine ⟨_, rfl, _, _, rfl, rfl, _, rfl, ite2 (fun c1 => ?_) (fun c1 => ?_)⟩
    · have c1 : most < 0 := by simpa using c1
      exact ⟨(by show 1 ≤ sizeLine; decide), fun p hp => q.refuse (dp1 (.inr c1)) hk hS0 z0 (Same.refl _) hp⟩
    have c1 : ¬ most < 0 := by simpa using c1
    have c01 : ¬ (rv < 0 ∨ most < 0) := by omega
    obtain ⟨n, rfl⟩ : ∃ n : Nat, rv = (n : Int) := ⟨rv.toNat, by omega⟩
    refine ⟨_, rfl, a, b, m, rfl, ha, hb, by rw [← line_big]; omega, hAH.tk, fun v H1 s1 hv => ?_⟩
    have hA1 := hAH.grow hO s1
    obtain ⟨ek1, ek2, ek3⟩ := hA1.ob k o hk
    cases he : Sv17.editOf b with
    | none =>
      rw [he] at hv
      cases hv
      exact ⟨_, rfl, _, rfl, iteT ⟨(by show 1 ≤ sizeLine; decide), fun p hp => q.refuse (dp2 c01 he) hk hS0 z0 s1 hp⟩⟩
    | some x =>
      rw [he] at hv
      obtain ⟨d, rfl, hE⟩ := hv
      have hx := eok_of he
      refine ⟨_, rfl, _, rfl, iteF ?_⟩
      refine ⟨_, rfl, _, rfl, od, _, rfl, dget_ob hA1.dk ek1, ?_⟩
      cases o with
      | hand h =>
        obtain ⟨eow, hH⟩ := ek2
        obtain ⟨dx, t, vo, vb, ho, _⟩ := hH.ex
        exact ⟨_, rfl, .inl ⟨ad k, dx, _, rfl, ho, _, rfl, iteT (iteT ⟨(by show 1 ≤ sizeLine; decide), fun p hp => q.refuse (does_receive_hand hz c01 he) hk hS0 z0 s1 hp⟩)⟩⟩
      | host h =>
        obtain ⟨l, eow, hH⟩ := ek2
        obtain ⟨dx, t, es, ho, ht, hl, hpp⟩ := hH.ex
        have hlen : es.length = h.edits.length := Paired.length hpp
        have hdo := does_receive_host (s := h) (n := n) hz c1 he
        refine ⟨_, rfl, .inr ⟨ad k, dx, _, rfl, ho, _, rfl, iteF ?_⟩⟩
        refine ⟨_, rfl, _, rfl, ad k, SC, dx, _, _, rfl, ho, T.ts.cl, T.ts.n2, hostF_edits .., l, _, rfl, .inl (SqL.of hl), _, _, rfl, rfl, _, rfl, ite2 (fun c2 => ?_) (fun c2 => ?_)⟩
        · have c2 : h.edits.length < n := by
            have c2 := of_decide_eq_true c2
            rw [List.length_map, hlen] at c2
            omega
          rw [if_pos (.inl c2)] at hdo
          exact iteT ⟨(by show 1 ≤ sizeLine; decide), fun p hp => q.refuse hdo hk hS0 z0 s1 hp⟩
        have c2 : n ≤ h.edits.length := by
          have c2 : ¬ (((es.map V.ref).length : Int) < (n : Int)) := fun z => c2 (decide_eq_true z)
          rw [List.length_map, hlen] at c2
          omega
        refine ⟨_, rfl, d, x, rfl, hE.same (wo_sub _ _), hx.len, fun H2 s2 => ?_⟩
        refine ⟨_, rfl, ad k, dx, _, rfl, s2 _ _ ho, hostF_no _ _ (by decide +kernel), _, rfl, ad k, l, h, m, n, rfl, hH.same s2, c2, fun H3 s3 => ⟨rfl, _, rfl, ?_⟩⟩
        have s23 := s2.trans s3
        have s13 := s1.trans s23
        refine kne (fun c3 => ?_) (fun c3 => ?_)
        · rw [if_pos (.inr c3)] at hdo
          exact ⟨(by show 1 ≤ sizeLine; decide), fun p hp => q.refuse hdo hk hS0 z0 s13 hp⟩
        rw [if_neg (by rw [c3]; simp; omega)] at hdo
        have hc64 := hH.inv.ct
        refine ⟨_, rfl, ad k, SC, dx, _, _, rfl, s23 _ _ ho, T.ts.cl, T.ts.n2, hostF_edits .., l, _, rfl, .inl (SqL.of (s23 _ _ hl)), rfl, _, rfl, ite2 (fun c4 => ?_) (fun c4 => ?_)⟩
        · have c4 : h.edits.length = 64 := by
            have c4 := of_decide_eq_true c4
            rw [List.length_map, hlen] at c4
            injection c4 with c4
            omega
          rw [if_pos (.inl (by omega))] at hdo
          exact ⟨(by show 1 ≤ sizeLine; decide), fun p hp => q.refuse hdo hk hS0 z0 s13 hp⟩
        have c4 : h.edits.length < 64 := by
          have c4 : h.edits.length ≠ 64 := fun z => c4 (by rw [List.length_map, hlen, z]; rfl)
          omega
        have hA3 := hAH.grow hO s13
        have am : ad k ∈ m := (ek3 (ad k) (by rw [eow]; simp)).1
        have lm : l ∈ m := (ek3 l (by rw [eow]; simp)).1
        refine ⟨_, rfl, ad k, dx, _, rfl, s23 _ _ ho, hostF_no _ _ (by decide +kernel), _, rfl, _, rfl, ad k, l, d, h, m, n, x, rfl, hH.same s23, hA3.tk, c2, hE.same (wo_same (Frm.of_same s23)), hx, c3, fun v H4 s4 hv => ?_⟩
        have s14 := s13.trans s4
        have s24 := s23.trans s4
        unfold since at hv
        cases hsm : Sv17.small (parts x (h.edits.drop n)) with
        | false =>
          rw [hsm, if_neg (by decide)] at hv
          cases hv
          rw [if_pos (.inr hsm)] at hdo
          exact ⟨_, rfl, _, rfl, iteT ⟨(by show 1 ≤ sizeLine; decide), fun p hp => q.refuse hdo hk hS0 z0 s14 hp⟩⟩
        | true =>
          rw [hsm, if_pos rfl] at hv
          obtain ⟨d2, rfl, hE2⟩ := hv
          rw [if_neg (by rw [hsm]; simp; omega)] at hdo
          obtain ⟨inv2, hy, hyb⟩ := host_receive hH.inv c2 hx c3 c4 hsm
          have hE2 : EditAt (wo H4 m) d2 (h.receive n x).2 := hE2
          have e1 : (h.receive n x).1 = ⟨h.first, Sv17.apply (h.receive n x).2 h.text, h.edits ++ [(h.receive n x).2]⟩ := rfl
          rw [e1] at inv2 hdo
          generalize (h.receive n x).2 = y at hy hyb hE2 inv2 hdo
          have zy := hy.esz
          have hbl := bytes_lim hy.pos (by omega)
          refine ⟨_, rfl, _, rfl, iteF ?_⟩
          refine ⟨_, rfl, d2, y, rfl, hE2.same (wo_sub _ _), Nat.le_of_lt hbl, sizes_lim (by omega), fun p5 H5 s5 h5 => ⟨_, rfl, p5, _, most, rfl, h5, hbl, fun qa H6 s6 nq hq => ?_⟩⟩
          have s46 := s5.trans s6
          have s16 := s14.trans s46
          have nqH : H qa = none := Same.free (s14.trans s5) nq
          unfold Sv17.fits at hq
          by_cases c5 : most < ((Sv17.bytes y).length : Int)
          · rw [if_pos c5] at hq hdo
            refine ⟨_, rfl, qa, _, _, _, rfl, rfl, SqL.of hq, atI_nat (j := 0) rfl, _, _, rfl, rfl, _, rfl, iteF ⟨_, rfl, ?_⟩⟩
            rw [hdo] at q
            dsimp only at q
            rw [set_same hk] at q
            exact q.pure hO hS0 z0 s16 nqH hq
          · rw [if_neg c5] at hq hdo
            refine ⟨_, rfl, qa, _, _, _, rfl, rfl, SqL.of hq, atI_nat (j := 0) rfl, _, _, rfl, rfl, _, rfl, ?_⟩
            rw [show decide ((0 : Int) ≤ ((Sv17.bytes y).length : Int)) = true from decide_eq_true (by omega)]
            have hal : (Sv17.apply y h.text).length = Sv17.behind y := apply_len (Nat.le_of_eq hyb)
            have hyh := hy.beh
            have hA6 := hAH.grow hO s16
            have s26 := s24.trans s46
            refine iteT ⟨_, rfl, ad k, dx, _, rfl, s26 _ _ ho, hostF_no _ _ (by decide +kernel), _, rfl, ad k, l, d2, h, m, y, rfl, hH.same s26, am, lm, hA6.tk, hE2.same (wo_same (Frm.of_same s46)), by rw [hal, ← line_big]; omega, inv2, fun H7 hH7 f7 => ⟨_, rfl, ?_⟩⟩
            rw [hdo] at q
            dsimp only at q
            have hl1 := hA1.tk l lm
            have ho6 := s26 _ _ ho
            have hl6 := s26 _ _ hl
            have qn : qa ∉ [ad k, l] := fun z => by
              have := hAH.tk qa (by
                rcases List.mem_cons.mp z with z | z
                · rw [z]; exact am
                · rw [List.mem_singleton.mp z]; exact lm)
              obtain ⟨u, w⟩ := this
              rw [nqH] at w; cases w
            refine q.turn hO hAH s16 hk (by rw [eow]; exact f7) (by
              rw [eow]; intro b hb
              obtain ⟨_, _, _, y1, _, y2, _⟩ := hH7.ex
              rcases List.mem_cons.mp hb with z | z
              · rw [z]; exact ⟨_, y1⟩
              · rw [List.mem_singleton.mp z]; exact ⟨_, y2⟩) (by
              rw [eow]; intro b hb ys e
              rcases List.mem_cons.mp hb with z | z
              · rw [z, ho6] at e; cases e
              · rw [List.mem_singleton.mp z, hl6] at e; cases e) ⟨l, eow, hH7⟩ (hAH.fresh nqH) (f7 _ _ hq qn)
end
end My
end
section
set_option Elab.async false
set_option linter.all false
set_option maxRecDepth 100000
set_option maxHeartbeats 2000000
namespace My
open PySem PySem.Spec PyProof.Rows L2
/-! ### what each call is, by its number -/
def ansl (x : Sv17.Ans) : List Int := x.v :: Sv17Neutral.ints x.l
theorem ints_iv (b : Bytes) : iv (Sv17Neutral.ints b) = bv b := by
  unfold iv Sv17Neutral.ints bv
  rw [List.map_map]
  rfl
theorem ansl_at {H : Hp} {q : Addr} {x : Sv17.Ans} (h : AnsAt H q x) : IntsAt H q (ansl x) := by
  unfold IntsAt ansl
  rw [show iv (x.v :: Sv17Neutral.ints x.l) = V.int x.v :: iv (Sv17Neutral.ints x.l) from rfl, ints_iv]
  exact h
theorem nats_ints (b : Bytes) : Sv17Neutral.nats (Sv17Neutral.ints b) = b := by
  unfold Sv17Neutral.nats Sv17Neutral.ints
  rw [List.map_map]
  conv => rhs; rw [← List.map_id b]
  exact List.map_congr_left fun x _ => Int.toNat_natCast x
theorem ints_len (b : Bytes) : (Sv17Neutral.ints b).length = b.length := List.length_map ..
theorem bytes_of {r : List Int} (h : r.all (PyInside.within 0 255) = true) : ∃ b : Bytes, r = Sv17Neutral.ints b ∧ Byt b := by
  have hx : ∀ x ∈ r, 0 ≤ x ∧ x ≤ 255 := fun x hx => by
    have := List.all_eq_true.mp h x hx
    unfold PyInside.within at this
    simpa using this
  refine ⟨Sv17Neutral.nats r, ?_, fun y hy => ?_⟩
  · unfold Sv17Neutral.ints Sv17Neutral.nats
    rw [List.map_map]
    conv => lhs; rw [← List.map_id r]
    exact List.map_congr_left fun x m => (Int.toNat_of_nonneg (hx x m).1).symm
  · obtain ⟨x, m, e⟩ := List.mem_map.mp hy
    have := hx x m
    omega
theorem len0 {α : Type} {l : List α} (h : l.length = 0) : l = [] := List.length_eq_zero_iff.mp h
theorem len1 {α : Type} {l : List α} (h : l.length = 1) : ∃ a, l = [a] := List.length_eq_one_iff.mp h
theorem len2 {α : Type} {l : List α} (h : l.length = 2) : ∃ a b, l = [a, b] := by
  match l, h with
  | [a, b], _ => exact ⟨a, b, rfl⟩
theorem len3 {α : Type} {l : List α} (h : l.length = 3) : ∃ a b c, l = [a, b, c] := by
  match l, h with
  | [a, b, c], _ => exact ⟨a, b, c, rfl⟩
/-- a list of bytes as it is handed in -/
theorem row_of {r : List Int} (h : (decide (0 ≤ r.length) && decide (r.length ≤ 29900) && r.all (PyInside.within 0 255)) = true) : ∃ b : Bytes, r = Sv17Neutral.ints b ∧ Byt b ∧ b.length ≤ 29900 := by
  simp only [Bool.and_eq_true, decide_eq_true_eq] at h
  obtain ⟨b, e, hb⟩ := bytes_of h.2
  refine ⟨b, e, hb, ?_⟩
  have := h.1.2
  rw [e, ints_len] at this
  exact this
theorem obj_of {x : Int} (h : PyInside.within 0 3 x = true) : ∃ k : Nat, x = (k : Int) ∧ k < 4 := by
  unfold PyInside.within at h
  simp only [Bool.and_eq_true, decide_eq_true_eq] at h
  exact ⟨x.toNat, (Int.toNat_of_nonneg h.1).symm, by omega⟩
def stepOf (s : SS) (k : Nat) (c : Sv17.Call) : SS × List Int := (s.set k (Sv17.does (s.getD k none) c).1, ansl (Sv17.does (s.getD k none) c).2)
theorem begun_of {s : SS} {k : Nat} (h : (s.getD k none).isSome = true) : ∃ o, s[k]? = some (some o) := by
  rw [List.getD_eq_getElem?_getD] at h
  cases e : s[k]? with
  | none => rw [e] at h; cases h
  | some x =>
    rw [e] at h
    cases x with
    | none => cases h
    | some o => exact ⟨o, rfl⟩
theorem getD_some {s : SS} {k : Nat} {o : Sv17.Obj} (h : s[k]? = some (some o)) : s.getD k none = some o := by
  rw [List.getD_eq_getElem?_getD, h]
  rfl
section
variable {s : SS} {nums : List Int} {xs : List (List Int)}
/-- calls by themselves leave the objects -/
theorem step_alone {c : Sv17.Call} (hl : s.length = 4) (h : ∀ o, Sv17.does o c = (o, Sv17.alone c)) : stepOf s 0 c = (s, ansl (Sv17.alone c)) := by
  unfold stepOf
  rw [h]
  simp only []
  rw [set_self (by omega)]
theorem co0 (hl : s.length = 4) (h : CallOk s 0 nums xs) : ∃ e : Bytes, nums = [] ∧ xs = [Sv17Neutral.ints e] ∧ Byt e ∧ e.length ≤ 29900 ∧ Sv17Neutral.step s (PySv17.whole ((0 :: nums) :: xs)) = (s, ansl (Sv17.alone (.check e (e.length : Int)))) := by
  obtain ⟨n, k, e1, e2, e3⟩ := h.shape
  have e1 : some (0, 1) = some (n, k) := e1
  cases e1
  have hn := len0 e2
  obtain ⟨r, rfl⟩ := len1 e3
  subst hn
  have hi := h.inside
  have hi : (PyInside.each [] [] && (decide (0 ≤ r.length) && decide (r.length ≤ 29900) && r.all (PyInside.within 0 255) && true)) = true := hi
  simp only [PyInside.each, Bool.true_and, Bool.and_true] at hi
  obtain ⟨b, rfl, hb, hz⟩ := row_of hi
  refine ⟨b, rfl, rfl, hb, hz, ?_⟩
  have := step_alone (s := s) (c := .check b (b.length : Int)) hl (fun _ => rfl)
  rw [← this]
  show stepOf s 0 (.check (Sv17Neutral.nats (Sv17Neutral.ints b)) (((Sv17Neutral.ints b).length : Nat) : Int)) = _
  rw [nats_ints, ints_len]
/-- calls 1 to 3: most, two rows -/
theorem co123 {p : Int} (hp : PySv17.shape p = some (1, 2)) (hb : PySv17.bound p = ([(-2147483648, 2147483647)], [(0, 255, 0, 29900), (0, 255, 0, 29900)])) (h : CallOk s p nums xs) : ∃ (most : Int) (e t : Bytes), nums = [most] ∧ xs = [Sv17Neutral.ints e, Sv17Neutral.ints t] ∧ Byt e ∧ Byt t ∧ e.length ≤ 29900 ∧ t.length ≤ 29900 := by
  obtain ⟨n, k, e1, e2, e3⟩ := h.shape
  rw [hp] at e1
  cases e1
  obtain ⟨most, rfl⟩ := len1 e2
  obtain ⟨r1, r2, rfl⟩ := len2 e3
  have hi := h.inside
  have hi : (PyInside.each (PySv17.bound p).1 [most] && PyInside.lists (PySv17.bound p).2 [r1, r2]) = true := hi
  rw [hb] at hi
  have hi : ((PyInside.within (-2147483648) 2147483647 most && true) && ((decide (0 ≤ r1.length) && decide (r1.length ≤ 29900) && r1.all (PyInside.within 0 255)) && ((decide (0 ≤ r2.length) && decide (r2.length ≤ 29900) && r2.all (PyInside.within 0 255)) && true))) = true := hi
  rw [Bool.and_eq_true, Bool.and_eq_true, Bool.and_eq_true] at hi
  obtain ⟨e, rfl, he, ze⟩ := row_of hi.2.1
  obtain ⟨t, rfl, ht, zt⟩ := row_of (Bool.and_eq_true_iff.mp hi.2.2).1
  exact ⟨most, e, t, rfl, rfl, he, ht, ze, zt⟩
theorem co1 (hl : s.length = 4) (h : CallOk s 1 nums xs) : ∃ (most : Int) (e t : Bytes), nums = [most] ∧ xs = [Sv17Neutral.ints e, Sv17Neutral.ints t] ∧ Byt e ∧ Byt t ∧ e.length ≤ 29900 ∧ t.length ≤ 29900 ∧ Sv17Neutral.step s (PySv17.whole ((1 :: nums) :: xs)) = (s, ansl (Sv17.alone (.apply e (e.length : Int) t (t.length : Int) most))) := by
  obtain ⟨most, e, t, rfl, rfl, he, ht, ze, zt⟩ := co123 rfl rfl h
  refine ⟨most, e, t, rfl, rfl, he, ht, ze, zt, ?_⟩
  have := step_alone (s := s) (c := .apply e (e.length : Int) t (t.length : Int) most) hl (fun _ => rfl)
  rw [← this]
  show stepOf s 0 (.apply (Sv17Neutral.nats (Sv17Neutral.ints e)) (((Sv17Neutral.ints e).length : Nat) : Int) (Sv17Neutral.nats (Sv17Neutral.ints t)) (((Sv17Neutral.ints t).length : Nat) : Int) most) = _
  rw [nats_ints, ints_len, nats_ints, ints_len]
theorem co2 (hl : s.length = 4) (h : CallOk s 2 nums xs) : ∃ (most : Int) (e t : Bytes), nums = [most] ∧ xs = [Sv17Neutral.ints e, Sv17Neutral.ints t] ∧ Byt e ∧ Byt t ∧ e.length ≤ 29900 ∧ t.length ≤ 29900 ∧ Sv17Neutral.step s (PySv17.whole ((2 :: nums) :: xs)) = (s, ansl (Sv17.alone (.undo e (e.length : Int) t (t.length : Int) most))) := by
  obtain ⟨most, e, t, rfl, rfl, he, ht, ze, zt⟩ := co123 rfl rfl h
  refine ⟨most, e, t, rfl, rfl, he, ht, ze, zt, ?_⟩
  have := step_alone (s := s) (c := .undo e (e.length : Int) t (t.length : Int) most) hl (fun _ => rfl)
  rw [← this]
  show stepOf s 0 (.undo (Sv17Neutral.nats (Sv17Neutral.ints e)) (((Sv17Neutral.ints e).length : Nat) : Int) (Sv17Neutral.nats (Sv17Neutral.ints t)) (((Sv17Neutral.ints t).length : Nat) : Int) most) = _
  rw [nats_ints, ints_len, nats_ints, ints_len]
theorem co3 (hl : s.length = 4) (h : CallOk s 3 nums xs) : ∃ (most : Int) (e t : Bytes), nums = [most] ∧ xs = [Sv17Neutral.ints e, Sv17Neutral.ints t] ∧ Byt e ∧ Byt t ∧ e.length ≤ 29900 ∧ t.length ≤ 29900 ∧ Sv17Neutral.step s (PySv17.whole ((3 :: nums) :: xs)) = (s, ansl (Sv17.alone (.compose e (e.length : Int) t (t.length : Int) most))) := by
  obtain ⟨most, e, t, rfl, rfl, he, ht, ze, zt⟩ := co123 rfl rfl h
  refine ⟨most, e, t, rfl, rfl, he, ht, ze, zt, ?_⟩
  have := step_alone (s := s) (c := .compose e (e.length : Int) t (t.length : Int) most) hl (fun _ => rfl)
  rw [← this]
  show stepOf s 0 (.compose (Sv17Neutral.nats (Sv17Neutral.ints e)) (((Sv17Neutral.ints e).length : Nat) : Int) (Sv17Neutral.nats (Sv17Neutral.ints t)) (((Sv17Neutral.ints t).length : Nat) : Int) most) = _
  rw [nats_ints, ints_len, nats_ints, ints_len]
theorem co4 (hl : s.length = 4) (h : CallOk s 4 nums xs) : ∃ (which most : Int) (e t : Bytes), nums = [which, most] ∧ xs = [Sv17Neutral.ints e, Sv17Neutral.ints t] ∧ Byt e ∧ Byt t ∧ e.length ≤ 29900 ∧ t.length ≤ 29900 ∧ Sv17Neutral.step s (PySv17.whole ((4 :: nums) :: xs)) = (s, ansl (Sv17.alone (.turn e (e.length : Int) t (t.length : Int) which most))) := by
  obtain ⟨n, k, e1, e2, e3⟩ := h.shape
  have e1 : some (2, 2) = some (n, k) := e1
  cases e1
  obtain ⟨which, most, rfl⟩ := len2 e2
  obtain ⟨r1, r2, rfl⟩ := len2 e3
  have hi := h.inside
  have hi : ((PyInside.within (-2147483648) 2147483647 which && (PyInside.within (-2147483648) 2147483647 most && true)) && ((decide (0 ≤ r1.length) && decide (r1.length ≤ 29900) && r1.all (PyInside.within 0 255)) && ((decide (0 ≤ r2.length) && decide (r2.length ≤ 29900) && r2.all (PyInside.within 0 255)) && true))) = true := hi
  rw [Bool.and_eq_true, Bool.and_eq_true, Bool.and_eq_true, Bool.and_eq_true] at hi
  obtain ⟨e, rfl, he, ze⟩ := row_of hi.2.1
  obtain ⟨t, rfl, ht, zt⟩ := row_of (Bool.and_eq_true_iff.mp hi.2.2).1
  refine ⟨which, most, e, t, rfl, rfl, he, ht, ze, zt, ?_⟩
  have := step_alone (s := s) (c := .turn e (e.length : Int) t (t.length : Int) which most) hl (fun _ => rfl)
  rw [← this]
  show stepOf s 0 (.turn (Sv17Neutral.nats (Sv17Neutral.ints e)) (((Sv17Neutral.ints e).length : Nat) : Int) (Sv17Neutral.nats (Sv17Neutral.ints t)) (((Sv17Neutral.ints t).length : Nat) : Int) which most) = _
  rw [nats_ints, ints_len, nats_ints, ints_len]
theorem co5 (h : CallOk s 5 nums xs) : ∃ (k : Nat) (host : Int) (t : Bytes), nums = [(k : Int), host] ∧ xs = [Sv17Neutral.ints t] ∧ k < 4 ∧ Byt t ∧ t.length ≤ 29900 ∧ Sv17Neutral.step s (PySv17.whole ((5 :: nums) :: xs)) = stepOf s k (.begin_ host t (t.length : Int)) := by
  obtain ⟨n, k, e1, e2, e3⟩ := h.shape
  have e1 : some (2, 1) = some (n, k) := e1
  cases e1
  obtain ⟨o, host, rfl⟩ := len2 e2
  obtain ⟨r1, rfl⟩ := len1 e3
  have hi := h.inside
  have hi : ((PyInside.within 0 3 o && (PyInside.within (-2147483648) 2147483647 host && true)) && ((decide (0 ≤ r1.length) && decide (r1.length ≤ 29900) && r1.all (PyInside.within 0 255)) && true)) = true := hi
  have hi := Bool.and_eq_true_iff.mp hi
  obtain ⟨t, rfl, ht, zt⟩ := row_of (Bool.and_eq_true_iff.mp hi.2).1
  obtain ⟨k, rfl, hk⟩ := obj_of (Bool.and_eq_true_iff.mp hi.1).1
  refine ⟨k, host, t, rfl, rfl, hk, ht, zt, ?_⟩
  show stepOf s ((k : Int).toNat) (.begin_ host (Sv17Neutral.nats (Sv17Neutral.ints t)) (((Sv17Neutral.ints t).length : Nat) : Int)) = _
  rw [nats_ints, ints_len, Int.toNat_natCast]
theorem co6 (h : CallOk s 6 nums xs) : ∃ (k : Nat) (e : Bytes) (o : Sv17.Obj), nums = [(k : Int)] ∧ xs = [Sv17Neutral.ints e] ∧ s[k]? = some (some o) ∧ Byt e ∧ e.length ≤ 29900 ∧ Sv17Neutral.step s (PySv17.whole ((6 :: nums) :: xs)) = stepOf s k (.edit e (e.length : Int)) := by
  obtain ⟨n, k, e1, e2, e3⟩ := h.shape
  have e1 : some (1, 1) = some (n, k) := e1
  cases e1
  obtain ⟨o, rfl⟩ := len1 e2
  obtain ⟨r1, rfl⟩ := len1 e3
  have hi := h.inside
  have hi : ((PyInside.within 0 3 o && true) && ((decide (0 ≤ r1.length) && decide (r1.length ≤ 29900) && r1.all (PyInside.within 0 255)) && true)) = true := hi
  have hi := Bool.and_eq_true_iff.mp hi
  obtain ⟨t, rfl, ht, zt⟩ := row_of (Bool.and_eq_true_iff.mp hi.2).1
  obtain ⟨k, rfl, hk⟩ := obj_of (Bool.and_eq_true_iff.mp hi.1).1
  have hbg : (decide ((6 : Int) ≤ 5) || (s.getD ((k : Int).toNat) none).isSome) = true := h.begun
  rw [show decide ((6 : Int) ≤ 5) = false from rfl, Bool.false_or, Int.toNat_natCast] at hbg
  obtain ⟨ob, hob⟩ := begun_of hbg
  refine ⟨k, t, ob, rfl, rfl, hob, ht, zt, ?_⟩
  show stepOf s ((k : Int).toNat) (.edit (Sv17Neutral.nats (Sv17Neutral.ints t)) (((Sv17Neutral.ints t).length : Nat) : Int)) = _
  rw [nats_ints, ints_len, Int.toNat_natCast]
theorem co7 (h : CallOk s 7 nums xs) : ∃ (k : Nat) (most : Int) (e : Bytes) (o : Sv17.Obj), nums = [(k : Int), most] ∧ xs = [Sv17Neutral.ints e] ∧ s[k]? = some (some o) ∧ Byt e ∧ e.length ≤ 29900 ∧ Sv17Neutral.step s (PySv17.whole ((7 :: nums) :: xs)) = stepOf s k (.remote e (e.length : Int) most) := by
  obtain ⟨n, k, e1, e2, e3⟩ := h.shape
  have e1 : some (2, 1) = some (n, k) := e1
  cases e1
  obtain ⟨o, most, rfl⟩ := len2 e2
  obtain ⟨r1, rfl⟩ := len1 e3
  have hi := h.inside
  have hi : ((PyInside.within 0 3 o && (PyInside.within (-2147483648) 2147483647 most && true)) && ((decide (0 ≤ r1.length) && decide (r1.length ≤ 29900) && r1.all (PyInside.within 0 255)) && true)) = true := hi
  have hi := Bool.and_eq_true_iff.mp hi
  obtain ⟨t, rfl, ht, zt⟩ := row_of (Bool.and_eq_true_iff.mp hi.2).1
  obtain ⟨k, rfl, hk⟩ := obj_of (Bool.and_eq_true_iff.mp hi.1).1
  have hbg : (decide ((7 : Int) ≤ 5) || (s.getD ((k : Int).toNat) none).isSome) = true := h.begun
  rw [show decide ((7 : Int) ≤ 5) = false from rfl, Bool.false_or, Int.toNat_natCast] at hbg
  obtain ⟨ob, hob⟩ := begun_of hbg
  refine ⟨k, most, t, ob, rfl, rfl, hob, ht, zt, ?_⟩
  show stepOf s ((k : Int).toNat) (.remote (Sv17Neutral.nats (Sv17Neutral.ints t)) (((Sv17Neutral.ints t).length : Nat) : Int) most) = _
  rw [nats_ints, ints_len, Int.toNat_natCast]
/-- calls 8 and 10: the object, most -/
theorem co8 (h : CallOk s 8 nums xs) : ∃ (k : Nat) (most : Int) (o : Sv17.Obj), nums = [(k : Int), most] ∧ xs = [] ∧ s[k]? = some (some o) ∧ Sv17Neutral.step s (PySv17.whole ((8 :: nums) :: xs)) = stepOf s k (.confirmed most) := by
  obtain ⟨n, k, e1, e2, e3⟩ := h.shape
  have e1 : some (2, 0) = some (n, k) := e1
  cases e1
  obtain ⟨o, most, rfl⟩ := len2 e2
  have hx := len0 e3
  subst hx
  have hi := h.inside
  have hi : ((PyInside.within 0 3 o && (PyInside.within (-2147483648) 2147483647 most && true)) && true) = true := hi
  have hi := Bool.and_eq_true_iff.mp hi
  obtain ⟨k, rfl, hk⟩ := obj_of (Bool.and_eq_true_iff.mp hi.1).1
  have hbg : (decide ((8 : Int) ≤ 5) || (s.getD ((k : Int).toNat) none).isSome) = true := h.begun
  rw [show decide ((8 : Int) ≤ 5) = false from rfl, Bool.false_or, Int.toNat_natCast] at hbg
  obtain ⟨ob, hob⟩ := begun_of hbg
  refine ⟨k, most, ob, rfl, rfl, hob, ?_⟩
  show stepOf s ((k : Int).toNat) (.confirmed most) = _
  rw [Int.toNat_natCast]
theorem co10 (h : CallOk s 10 nums xs) : ∃ (k : Nat) (most : Int) (o : Sv17.Obj), nums = [(k : Int), most] ∧ xs = [] ∧ s[k]? = some (some o) ∧ Sv17Neutral.step s (PySv17.whole ((10 :: nums) :: xs)) = stepOf s k (.text most) := by
  obtain ⟨n, k, e1, e2, e3⟩ := h.shape
  have e1 : some (2, 0) = some (n, k) := e1
  cases e1
  obtain ⟨o, most, rfl⟩ := len2 e2
  have hx := len0 e3
  subst hx
  have hi := h.inside
  have hi : ((PyInside.within 0 3 o && (PyInside.within (-2147483648) 2147483647 most && true)) && true) = true := hi
  have hi := Bool.and_eq_true_iff.mp hi
  obtain ⟨k, rfl, hk⟩ := obj_of (Bool.and_eq_true_iff.mp hi.1).1
  have hbg : (decide ((10 : Int) ≤ 5) || (s.getD ((k : Int).toNat) none).isSome) = true := h.begun
  rw [show decide ((10 : Int) ≤ 5) = false from rfl, Bool.false_or, Int.toNat_natCast] at hbg
  obtain ⟨ob, hob⟩ := begun_of hbg
  refine ⟨k, most, ob, rfl, rfl, hob, ?_⟩
  show stepOf s ((k : Int).toNat) (.text most) = _
  rw [Int.toNat_natCast]
theorem co9 (h : CallOk s 9 nums xs) : ∃ (k : Nat) (rev most : Int) (e : Bytes) (o : Sv17.Obj), nums = [(k : Int), rev, most] ∧ xs = [Sv17Neutral.ints e] ∧ s[k]? = some (some o) ∧ Byt e ∧ e.length ≤ 29900 ∧ Sv17Neutral.step s (PySv17.whole ((9 :: nums) :: xs)) = stepOf s k (.receive rev e (e.length : Int) most) := by
  obtain ⟨n, k, e1, e2, e3⟩ := h.shape
  have e1 : some (3, 1) = some (n, k) := e1
  cases e1
  obtain ⟨o, rev, most, rfl⟩ := len3 e2
  obtain ⟨r1, rfl⟩ := len1 e3
  have hi := h.inside
  have hi : ((PyInside.within 0 3 o && (PyInside.within (-2147483648) 2147483647 rev && (PyInside.within (-2147483648) 2147483647 most && true))) && ((decide (0 ≤ r1.length) && decide (r1.length ≤ 29900) && r1.all (PyInside.within 0 255)) && true)) = true := hi
  have hi := Bool.and_eq_true_iff.mp hi
  obtain ⟨t, rfl, ht, zt⟩ := row_of (Bool.and_eq_true_iff.mp hi.2).1
  obtain ⟨k, rfl, hk⟩ := obj_of (Bool.and_eq_true_iff.mp hi.1).1
  have hbg : (decide ((9 : Int) ≤ 5) || (s.getD ((k : Int).toNat) none).isSome) = true := h.begun
  rw [show decide ((9 : Int) ≤ 5) = false from rfl, Bool.false_or, Int.toNat_natCast] at hbg
  obtain ⟨ob, hob⟩ := begun_of hbg
  refine ⟨k, rev, most, t, ob, rfl, rfl, hob, ht, zt, ?_⟩
  show stepOf s ((k : Int).toNat) (.receive rev (Sv17Neutral.nats (Sv17Neutral.ints t)) (((Sv17Neutral.ints t).length : Nat) : Int) most) = _
  rw [nats_ints, ints_len, Int.toNat_natCast]
theorem co11 (h : CallOk s 11 nums xs) : ∃ (k : Nat) (o : Sv17.Obj), nums = [(k : Int)] ∧ xs = [] ∧ s[k]? = some (some o) ∧ Sv17Neutral.step s (PySv17.whole ((11 :: nums) :: xs)) = stepOf s k .revision := by
  obtain ⟨n, k, e1, e2, e3⟩ := h.shape
  have e1 : some (1, 0) = some (n, k) := e1
  cases e1
  obtain ⟨o, rfl⟩ := len1 e2
  have hx := len0 e3
  subst hx
  have hi := h.inside
  have hi : ((PyInside.within 0 3 o && true) && true) = true := hi
  have hi := Bool.and_eq_true_iff.mp hi
  obtain ⟨k, rfl, hk⟩ := obj_of (Bool.and_eq_true_iff.mp hi.1).1
  have hbg : (decide ((11 : Int) ≤ 5) || (s.getD ((k : Int).toNat) none).isSome) = true := h.begun
  rw [show decide ((11 : Int) ≤ 5) = false from rfl, Bool.false_or, Int.toNat_natCast] at hbg
  obtain ⟨ob, hob⟩ := begun_of hbg
  refine ⟨k, ob, rfl, rfl, hob, ?_⟩
  show stepOf s ((k : Int).toNat) .revision = _
  rw [Int.toNat_natCast]
theorem co12 (h : CallOk s 12 nums xs) : ∃ (k : Nat) (o : Sv17.Obj), nums = [(k : Int)] ∧ xs = [] ∧ s[k]? = some (some o) ∧ Sv17Neutral.step s (PySv17.whole ((12 :: nums) :: xs)) = stepOf s k .state := by
  obtain ⟨n, k, e1, e2, e3⟩ := h.shape
  have e1 : some (1, 0) = some (n, k) := e1
  cases e1
  obtain ⟨o, rfl⟩ := len1 e2
  have hx := len0 e3
  subst hx
  have hi := h.inside
  have hi : ((PyInside.within 0 3 o && true) && true) = true := hi
  have hi := Bool.and_eq_true_iff.mp hi
  obtain ⟨k, rfl, hk⟩ := obj_of (Bool.and_eq_true_iff.mp hi.1).1
  have hbg : (decide ((12 : Int) ≤ 5) || (s.getD ((k : Int).toNat) none).isSome) = true := h.begun
  rw [show decide ((12 : Int) ≤ 5) = false from rfl, Bool.false_or, Int.toNat_natCast] at hbg
  obtain ⟨ob, hob⟩ := begun_of hbg
  refine ⟨k, ob, rfl, rfl, hob, ?_⟩
  show stepOf s ((k : Int).toNat) .state = _
  rw [Int.toNat_natCast]
theorem co_p {p : Int} (h : CallOk s p nums xs) : p = 0 ∨ p = 1 ∨ p = 2 ∨ p = 3 ∨ p = 4 ∨ p = 5 ∨ p = 6 ∨ p = 7 ∨ p = 8 ∨ p = 9 ∨ p = 10 ∨ p = 11 ∨ p = 12 := by
  obtain ⟨n, k, e1, _⟩ := h.shape
  by_cases h0 : 0 ≤ p ∧ p ≤ 12
  · omega
  · unfold PySv17.shape at e1
    rw [if_neg (by omega), if_neg (by omega), if_neg (by omega), if_neg (by omega), if_neg (by omega), if_neg (by omega), if_neg (by omega), if_neg (by omega), if_neg (by omega), if_neg (by omega), if_neg (by omega), if_neg (by omega), if_neg (by omega)] at e1
    cases e1
end
end My
end
section
set_option Elab.async false
set_option linter.all false
set_option maxRecDepth 100000
set_option maxHeartbeats 2000000
namespace My
open PySem PySem.Spec PyProof.Rows L2
/-! ### the text as it stands behind the top -/
abbrev KOf {K : PySem.W.Frag} {h : Heap} (_ : K.In h) : PySem.W.Frag := K
structure Fn (K : PySem.W.Frag) (x : Str) (st : Stmt) : Prop where
  ex : ∃ (f : Addr) (fd : FuncData), Fun K x x st f fd ∧ PySem.W.nsIn K mainGlobals x = some (some (.ref f))
theorem fn_mk {K : PySem.W.Frag} {x : Str} {st : Stmt} {f : Addr} {oc : Value} {od an : Option Addr} {sl : Array (Option Value)} {kV doc pm cd ct : Value} (a : PySem.W.nsIn K mainGlobals x = some (some (.ref f)))
    (l : K.lookup f = some ⟨oc, od, .func (PySem.W.fnOf x x (defArgs st) (defBody st) (defScope st) .none kV doc pm an cd ct), sl⟩) (c : PySem.W.codeIn K cd x = true) (k : PySem.W.keepIn K (.ref f) = true) : Fn K x st := ⟨f, _, fun_mk l c k, a⟩
structure Gc (K : PySem.W.Frag) (x : Str) (v : V) : Prop where
  ex : ∃ u, PySem.W.nsIn K mainGlobals x = some (some u) ∧ RelV v u
theorem gc_int {K : PySem.W.Frag} {x : Str} {i : Int} {t : Tok} (a : PySem.W.nsIn K mainGlobals x = some (some (.int i t))) : Gc K x (.int i) := ⟨_, a, t, rfl⟩
/-- a class and its address -/
structure Kl (K : PySem.W.Frag) (x : Str) (C : Addr) : Prop where
  ns : PySem.W.nsIn K mainGlobals x = some (some (.ref C))
  cl : Cls K C
  makes : PySem.W.makesIn K C = true
  kp : PySem.W.keepIn K (.ref C) = true
theorem kl_mk {K : PySem.W.Frag} {x : Str} {C : Addr} (a : PySem.W.nsIn K mainGlobals x = some (some (.ref C))) (pg : PySem.W.plainGet K C Str.empty = true) (hd : PySem.W.hasDictIn K C = true) (po : PySem.W.plainOver K C = true) (sa : PySem.W.findIn K (.ref C) "__setattr__" = some (some (.builtin "object.__setattr__"))) (mk : PySem.W.makesIn K C = true) (kc : PySem.W.keepIn K (.ref C) = true) : Kl K x C := ⟨a, ⟨pg, hd, po, sa⟩, mk, kc⟩
structure FnM (K : PySem.W.Frag) (C : Addr) (m q : Str) (st : Stmt) : Prop where
  ex : ∃ (f : Addr) (fd : FuncData), Fun K m q st f fd ∧ Meth K C m f
theorem fnm_mk {K : PySem.W.Frag} {C : Addr} {m q : Str} {st : Stmt} {f : Addr} {oc : Value} {od an : Option Addr} {sl : Array (Option Value)} {kV doc pm cd ct : Value} (a : PySem.W.findIn K (.ref C) m = some (some (.ref f))) (i : PySem.W.isFn K (.ref f) = true)
    (l : K.lookup f = some ⟨oc, od, .func (PySem.W.fnOf m q (defArgs st) (defBody st) (defScope st) .none kV doc pm an cd ct), sl⟩) (c : PySem.W.codeIn K cd q = true) (k : PySem.W.keepIn K (.ref f) = true) : FnM K C m q st := ⟨f, _, fun_mk l c k, ⟨a, i, k⟩⟩
section
variable {P : Program} {w : World} {K : PySem.W.Frag} {mg : Str → Option Value} {base : Heap}
/-- what the module's names are -/
def Nm (K : PySem.W.Frag) (mg : Str → Option Value) : Prop := ∀ (x : Str) (v : Option Value), PySem.W.nsIn K mainGlobals x = some v → mg x = v
theorem Gc.glb {x : Str} {v : V} (h : Gc K x v) (n : Nm K mg) : Glb mg x v := let ⟨u, e, r⟩ := h.ex; ⟨u, n x _ e, r⟩
/-- how the arguments bind -/
def BindOk (x q : Str) (st : Stmt) (ps : List Str) : Prop := ∀ (kV doc pm : Value) (an : Option Addr) (cdv ct : Value) (us : List Value), us.length = ps.length → bindArgs (PySem.W.fnOf x q (defArgs st) (defBody st) (defScope st) .none kV doc pm an cdv ct) ⟨us, []⟩ = pure (ps.zip us)
theorem cal_of {x : Str} {st : Stmt} {k : Nat} {ps : List Str} {sp : Sp} (h : Fn K x st) (n : Nm K mg) (hb : BindOk x x st ps) (ok : ∀ f fd, Fun K x x st f fd → FnOk P w K mg base CX0 k f fd ps sp) : Cal P w K mg base x k ps sp := by
  obtain ⟨f, fd, F, a⟩ := h.ex
  exact ⟨f, fd, ok f fd F, n x _ a, F.kp, F.binds hb⟩
theorem calm_of {C : Addr} {m q : Str} {st : Stmt} {k : Nat} {ps : List Str} {sp : Sp} (h : FnM K C m q st) (hb : BindOk m q st ps) (ok : ∀ f fd, Fun K m q st f fd → FnOk P w K mg base CX0 k f fd ps sp) : CalM P w K mg base C m k ps sp := by
  obtain ⟨f, fd, F, M⟩ := h.ex
  exact ⟨f, fd, ok f fd F, M, F.binds hb⟩
theorem cali_of {C : Addr} {x q : Str} {st : Stmt} {k : Nat} {ps : List Str} {sp : Sp} (c : Kl K x C) (h : FnM K C "__init__" q st) (n : Nm K mg) (hb : BindOk "__init__" q st ps) (ok : ∀ f fd, Fun K "__init__" q st f fd → FnOk P w K mg base CX0 k f fd ps sp) : CalI P w K mg base C x k ps sp := by
  obtain ⟨f, fd, F, M⟩ := h.ex
  exact ⟨f, fd, ok f fd F, ⟨c.makes, M.at_, M.fn, c.kp⟩, n x _ c.ns, F.binds hb⟩
structure Txt (K : PySem.W.Frag) (R C HC SC : Addr) : Prop where
  c1 : Gc K "KEEP" (.int 1)
  c2 : Gc K "PUT_IN" (.int 2)
  c3 : Gc K "TAKE_OUT" (.int 3)
  c0 : Gc K "NO_STEP" (.int 0)
  cT : Gc K "LONGEST_TEXT" (.int 65536)
  c5 : Gc K "HEAD_LENGTH" (.int 5)
  cA : Gc K "ARGUMENTS" (.int (-2))
  cN : Gc K "NO_EDIT" (.int (-3))
  cF : Gc K "DOES_NOT_FIT" (.int (-4))
  cL : Gc K "TOO_LONG" (.int (-6))
  cM : Gc K "MORE_THAN_MOST" (.int (-7))
  cE : Gc K "LONGEST_EDIT_BYTES" (.int 1048576)
  cR : Gc K "LAST_REVISION" (.int 2147483647)
  cX : Gc K "MOST_EDITS" (.int 64)
  o0 : Gc K "NOTHING_OUT" (.int 0)
  o1 : Gc K "ONE_OUT" (.int 1)
  o2 : Gc K "ONE_KEPT_BACK" (.int 2)
  o3 : Gc K "THE_HOST" (.int 3)
  e0 : Gc K "ET_CHECK" (.int 0)
  e1 : Gc K "ET_APPLY" (.int 1)
  e2 : Gc K "ET_UNDO" (.int 2)
  e3 : Gc K "ET_COMPOSE" (.int 3)
  e5 : Gc K "ET_BEGIN" (.int 5)
  e6 : Gc K "ET_EDIT" (.int 6)
  e7 : Gc K "ET_REMOTE" (.int 7)
  e8 : Gc K "ET_CONFIRMED" (.int 8)
  e9 : Gc K "ET_RECEIVE" (.int 9)
  e10 : Gc K "ET_TEXT" (.int 10)
  e11 : Gc K "ET_REVISION" (.int 11)
  blen : PySem.W.nsIn K mainGlobals "len" = some none
  bmin : PySem.W.nsIn K mainGlobals "min" = some none
  bmax : PySem.W.nsIn K mainGlobals "max" = some none
  bsum : PySem.W.nsIn K mainGlobals "sum" = some none
  bisi : PySem.W.nsIn K mainGlobals "isinstance" = some none
  f_lb : Fn K "length_before" s_length_before
  f_la : Fn K "length_after" s_length_after
  f_num : Fn K "number_at" s_number_at
  f_bon : Fn K "bytes_of_number" s_bytes_of_number
  f_step : Fn K "step_at" s_step_at
  f_may : Fn K "may_follow" s_may_follow
  f_efb : Fn K "edit_from_bytes" s_edit_from_bytes
  f_boe : Fn K "bytes_of_edit" s_bytes_of_edit
  kR : Kl K "Row" R
  r1 : NoAttr K R "closed"
  r2 : NoAttr K R "kept"
  r3 : NoAttr K R "put"
  r4 : NoAttr K R "taken"
  m_ri : FnM K R "__init__" "Row.__init__" s_Row_init
  m_rk : FnM K R "keep" "Row.keep" s_Row_keep
  m_rp : FnM K R "put_in" "Row.put_in" s_Row_put_in
  m_rd : FnM K R "take_out" "Row.take_out" s_Row_take_out
  m_rc : FnM K R "close" "Row.close" s_Row_close
  m_rf : FnM K R "finished" "Row.finished" s_Row_finished
  kC : Kl K "Cursor" C
  u1 : NoAttr K C "edit"
  u2 : NoAttr K C "place"
  u3 : NoAttr K C "kind"
  u4 : NoAttr K C "left"
  m_ci : FnM K C "__init__" "Cursor.__init__" s_Cursor_init
  m_ce : FnM K C "enter_step" "Cursor.enter_step" s_Cursor_enter_step
  m_cg : FnM K C "go_on" "Cursor.go_on" s_Cursor_go_on
  f_app : Fn K "applied" s_applied
  f_und : Fn K "undone" s_undone
  f_cc : Fn K "compose_common" s_compose_common
  f_cmp : Fn K "composed" s_composed
  f_tp : Fn K "turn_putting_in" s_turn_putting_in
  f_tc : Fn K "turn_common" s_turn_common
  f_trn : Fn K "turned" s_turned
  f_bel : Fn K "bad_edit_length" s_bad_edit_length
  f_btl : Fn K "bad_text_length" s_bad_text_length
  f_cnt : Fn K "counted" s_counted
  f_chk : Fn K "check" s_check
  f_ref : Fn K "refused_on_text" s_refused_on_text
  f_att : Fn K "apply_to_text" s_apply_to_text
  f_uot : Fn K "undo_on_text" s_undo_on_text
  f_com : Fn K "compose" s_compose
  f_tur : Fn K "turn" s_turn
  f_tpo : Fn K "turned_past_own" s_turned_past_own
  kH : Kl K "Hand" HC
  h1 : NoAttr K HC "text"
  h2 : NoAttr K HC "revision"
  h3 : NoAttr K HC "out"
  h4 : NoAttr K HC "kept_back"
  m_hi : FnM K HC "__init__" "Hand.__init__" s_Hand_init
  m_hc : FnM K HC "change" "Hand.change" s_Hand_change
  m_hl : FnM K HC "length_without_own" "Hand.length_without_own" s_Hand_length_without_own
  m_hf : FnM K HC "follow" "Hand.follow" s_Hand_follow
  m_hk : FnM K HC "confirm" "Hand.confirm" s_Hand_confirm
  kS : Kl K "Host" SC
  s1 : NoAttr K SC "text"
  s2 : NoAttr K SC "edits"
  m_si : FnM K SC "__init__" "Host.__init__" s_Host_init
  m_sl : FnM K SC "length_as_of" "Host.length_as_of" s_Host_length_as_of
  m_st : FnM K SC "turned_since" "Host.turned_since" s_Host_turned_since
  m_sp : FnM K SC "put_in_order" "Host.put_in_order" s_Host_put_in_order
  iH : PySem.W.findIn K (.ref HC) "__class__" = some (some (.builtin "object.__class__"))
  iS : PySem.W.findIn K (.ref SC) "__class__" = some (some (.builtin "object.__class__"))
  in_ : PySem.W.specialIn K (.builtin "object.__class__") "__get__" = some (some (.builtin "getset_descriptor.__get__"))
  it : PySem.W.takesIn K (.builtin "object.__class__") = some true
  mH : PySem.W.mroIn K HC (.type "object") = some true
  mS : PySem.W.mroIn K SC (.type "object") = some true
  kitH : PySem.W.kitOne K (.ref HC) (.ref SC) = some false
  kitS : PySem.W.kitOne K (.ref SC) (.ref SC) = some true
  kitHH : PySem.W.kitOne K (.ref HC) (.ref HC) = some true
  kitSH : PySem.W.kitOne K (.ref SC) (.ref HC) = some false
  f_bg : Fn K "begin" s_begin
  f_eh : Fn K "edit_by_hand" s_edit_by_hand
  f_fr : Fn K "follow_remote" s_follow_remote
  f_rem : Fn K "remote" s_remote
  f_cfd : Fn K "confirmed" s_confirmed
  f_rec : Fn K "receive" s_receive
  f_txt : Fn K "text_of" s_text_of
  f_rev : Fn K "revision_of" s_revision_of
  f_sta : Fn K "state_of" s_state_of
  f_rr : Fn K "read_rows" s_read_rows
  f_abi : Fn K "answer_by_itself" s_answer_by_itself
  f_aoo : Fn K "answer_of_object" s_answer_of_object
  f_ans : Fn K "answer" s_answer
  f_all : Fn K "answers" s_answers
/-- everything that is called by name, but answer itself -/
structure Cals (P : Program) (w : World) (K : PySem.W.Frag) (mg : Str → Option Value) (base : Heap) (HC SC : Addr) : Prop where
  ed : EdCal P w K mg base
  chk : Cal P w K mg base "check" 4 ["e"] spChk
  att : Cal P w K mg base "apply_to_text" 4 ["most", "e", "text"] (spOnT .apply)
  uot : Cal P w K mg base "undo_on_text" 4 ["most", "e", "text"] (spOnT .undo)
  com : Cal P w K mg base "compose" 5 ["most", "a", "b"] spCom
  tur : Cal P w K mg base "turn" 5 ["which", "most", "a", "b"] spTur
  app : Cal P w K mg base "applied" 1 ["edit", "text"] spApp
  trn : Cal P w K mg base "turned" 4 ["a", "b"] spTrn
  bg : Cal P w K mg base "begin" 3 ["objects", "number", "host", "text"] (spBegin (OAH HC SC))
  eh : Cal P w K mg base "edit_by_hand" 6 ["objects", "number", "e"] (spEdH (OAH HC SC))
  rem : Cal P w K mg base "remote" 7 ["objects", "number", "most", "e"] (spRem (OAH HC SC))
  cfd : Cal P w K mg base "confirmed" 3 ["objects", "number", "most"] (spCfd (OAH HC SC))
  rec_ : Cal P w K mg base "receive" 6 ["objects", "number", "revision", "most", "e"] (spRec (OAH HC SC))
  txt : Cal P w K mg base "text_of" 2 ["objects", "number", "most"] (spTxt (OAH HC SC))
  rev : Cal P w K mg base "revision_of" 1 ["objects", "number"] (spTell (OAH HC SC) .revision)
  sta : Cal P w K mg base "state_of" 1 ["objects", "number"] (spTell (OAH HC SC) .state)
  rr : Cal P w K mg base "read_rows" 1 ["calls", "place", "count"] (spRR K)
  ob : ObTxt K mg HC SC
  gl : mg "len" = none
theorem cals_of {R C HC SC : Addr} (t : Txt K R C HC SC) (n : Nm K mg) : Cals P w K mg base HC SC := by
  have g1 := t.c1.glb n
  have g2 := t.c2.glb n
  have g3 := t.c3.glb n
  have g0 := t.c0.glb n
  have gT := t.cT.glb n
  have g5 := t.c5.glb n
  have gl := n _ _ t.blen
  have gm := n _ _ t.bmin
  have gs := n _ _ t.bsum
  have num : Cal P w K mg base "number_at" 1 ["numbers", "place"] spNum := cal_of t.f_num n (fun _ _ _ _ _ _ us hl => match us, hl with | [_, _], _ => rfl) fun _ _ F => ok_num F
  have bon : Cal P w K mg base "bytes_of_number" 1 ["number"] spBon := cal_of t.f_bon n (fun _ _ _ _ _ _ us hl => match us, hl with | [_], _ => rfl) fun _ _ F => ok_bon F
  have may : Cal P w K mg base "may_follow" 1 ["kind", "earlier"] spMay := cal_of t.f_may n (fun _ _ _ _ _ _ us hl => match us, hl with | [_, _], _ => rfl) fun _ _ F => ok_may F g2 g3
  have lb : Cal P w K mg base "length_before" 1 ["edit"] (spLen Sv17.before) := cal_of t.f_lb n (fun _ _ _ _ _ _ us hl => match us, hl with | [_], _ => rfl) fun _ _ F => ok_lb F g2 gs
  have la : Cal P w K mg base "length_after" 1 ["edit"] (spLen Sv17.behind) := cal_of t.f_la n (fun _ _ _ _ _ _ us hl => match us, hl with | [_], _ => rfl) fun _ _ F => ok_la F g3 gs
  have stp : Cal P w K mg base "step_at" 2 ["numbers", "place"] spStep := cal_of t.f_step n (fun _ _ _ _ _ _ us hl => match us, hl with | [_, _], _ => rfl) fun _ _ F => ok_step F g1 g2 g3 g5 gl num
  have efb : Cal P w K mg base "edit_from_bytes" 3 ["numbers"] spEfb := cal_of t.f_efb n (fun _ _ _ _ _ _ us hl => match us, hl with | [_], _ => rfl) fun _ _ F => ok_efb F g0 g5 gT gl stp may lb la
  have boe : Cal P w K mg base "bytes_of_edit" 2 ["edit"] spBoe := cal_of t.f_boe n (fun _ _ _ _ _ _ us hl => match us, hl with | [_], _ => rfl) fun _ _ F => ok_boe F bon
  have TR : RowTxt K R := ⟨t.kR.cl, t.r1, t.r2, t.r3, t.r4⟩
  have rc : CalM P w K mg base R "close" 1 ["self"] (spRowClose R) := calm_of t.m_rc (fun _ _ _ _ _ _ us hl => match us, hl with | [_], _ => rfl) fun _ _ F => ok_rc F TR g1 g2 g3 gl
  have row : RowCal P w K mg base R := ⟨TR, cali_of t.kR t.m_ri n (fun _ _ _ _ _ _ us hl => match us, hl with | [_], _ => rfl) fun _ _ F => ok_ri F TR,
    calm_of t.m_rk (fun _ _ _ _ _ _ us hl => match us, hl with | [_, _], _ => rfl) fun _ _ F => ok_rk F TR gl rc,
    calm_of t.m_rp (fun _ _ _ _ _ _ us hl => match us, hl with | [_, _], _ => rfl) fun _ _ F => ok_rp F TR,
    calm_of t.m_rd (fun _ _ _ _ _ _ us hl => match us, hl with | [_, _], _ => rfl) fun _ _ F => ok_rd F TR,
    calm_of t.m_rf (fun _ _ _ _ _ _ us hl => match us, hl with | [_], _ => rfl) fun _ _ F => ok_rf F TR rc⟩
  have TC : CurTxt K C := ⟨t.kC.cl, t.u1, t.u2, t.u3, t.u4⟩
  have ce : CalM P w K mg base C "enter_step" 1 ["self"] (spEnter C) := calm_of t.m_ce (fun _ _ _ _ _ _ us hl => match us, hl with | [_], _ => rfl) fun _ _ F => ok_ce F TC g0 gl
  have cur : CurCal P w K mg base C := ⟨TC, cali_of t.kC t.m_ci n (fun _ _ _ _ _ _ us hl => match us, hl with | [_, _], _ => rfl) fun _ _ F => ok_ci F TC g0 ce,
    calm_of t.m_cg (fun _ _ _ _ _ _ us hl => match us, hl with | [_, _], _ => rfl) fun _ _ F => ok_cg F TC ce⟩
  have app : Cal P w K mg base "applied" 1 ["edit", "text"] spApp := cal_of t.f_app n (fun _ _ _ _ _ _ us hl => match us, hl with | [_, _], _ => rfl) fun _ _ F => ok_app F g1 g2
  have und : Cal P w K mg base "undone" 3 ["edit", "text"] spUnd := cal_of t.f_und n (fun _ _ _ _ _ _ us hl => match us, hl with | [_, _], _ => rfl) fun _ _ F => ok_und F g1 g2 row
  have cc : Cal P w K mg base "compose_common" 3 ["first", "second", "row"] (spCC C R) := cal_of t.f_cc n (fun _ _ _ _ _ _ us hl => match us, hl with | [_, _, _], _ => rfl) fun _ _ F => ok_cc F g1 gm cur row
  have cmp : Cal P w K mg base "composed" 4 ["a", "b"] spCmp := cal_of t.f_cmp n (fun _ _ _ _ _ _ us hl => match us, hl with | [_, _], _ => rfl) fun _ _ F => ok_cmp F g0 g2 g3 cur row cc
  have tp : Cal P w K mg base "turn_putting_in" 3 ["cursor", "own_row", "other_row"] (spTP C R) := cal_of t.f_tp n (fun _ _ _ _ _ _ us hl => match us, hl with | [_, _, _], _ => rfl) fun _ _ F => ok_tp F cur row
  have tc : Cal P w K mg base "turn_common" 3 ["first", "second", "first_row", "second_row"] (spTC C R) := cal_of t.f_tc n (fun _ _ _ _ _ _ us hl => match us, hl with | [_, _, _, _], _ => rfl) fun _ _ F => ok_tc F g1 gm cur row
  have trn : Cal P w K mg base "turned" 4 ["a", "b"] spTrn := cal_of t.f_trn n (fun _ _ _ _ _ _ us hl => match us, hl with | [_, _], _ => rfl) fun _ _ F => ok_trn F g0 g2 cur row tp tc
  have bel : Cal P w K mg base "bad_edit_length" 1 ["numbers"] spBel := cal_of t.f_bel n (fun _ _ _ _ _ _ us hl => match us, hl with | [_], _ => rfl) fun _ _ F => ok_bel F (t.cE.glb n) gl
  have btl : Cal P w K mg base "bad_text_length" 1 ["text"] spBtl := cal_of t.f_btl n (fun _ _ _ _ _ _ us hl => match us, hl with | [_], _ => rfl) fun _ _ F => ok_btl F gT gl
  have cnt : Cal P w K mg base "counted" 1 ["numbers", "most"] spCnt := cal_of t.f_cnt n (fun _ _ _ _ _ _ us hl => match us, hl with | [_, _], _ => rfl) fun _ _ F => ok_cnt F (t.cM.glb n) gl
  have ed : EdCal P w K mg base := ⟨bel, btl, cnt, efb, boe, lb, la, gl, t.cA.glb n, t.cN.glb n, t.cF.glb n, t.cL.glb n, gT⟩
  have ref : Cal P w K mg base "refused_on_text" 2 ["most", "e", "edit", "text"] spRef := cal_of t.f_ref n (fun _ _ _ _ _ _ us hl => match us, hl with | [_, _, _, _], _ => rfl) fun _ _ F => ok_ref F ed
  have TH : HandTxt K HC := ⟨t.kH.cl, t.h1, t.h2, t.h3, t.h4⟩
  have TS : HostTxt K SC := ⟨t.kS.cl, t.s1, t.s2⟩
  have hi : CalI P w K mg base HC "Hand" 1 ["self", "text"] (spHandInit HC) := cali_of t.kH t.m_hi n (fun _ _ _ _ _ _ us hl => match us, hl with | [_, _], _ => rfl) fun _ _ F => ok_hi F TH
  have si : CalI P w K mg base SC "Host" 1 ["self", "text"] (spHostInit SC) := cali_of t.kS t.m_si n (fun _ _ _ _ _ _ us hl => match us, hl with | [_, _], _ => rfl) fun _ _ F => ok_si F TS
  have hc : CalM P w K mg base HC "change" 5 ["self", "edit"] (spChange HC) := calm_of t.m_hc (fun _ _ _ _ _ _ us hl => match us, hl with | [_, _], _ => rfl) fun _ _ F => ok_hc F TH app cmp
  have ob : ObTxt K mg HC SC := ⟨TH, TS, ⟨t.kH.cl, t.iH, t.in_, t.it, t.mH, t.kitH⟩, ⟨t.kS.cl, t.iS, t.in_, t.it, t.mS, t.kitS⟩, n _ _ t.bisi, ⟨_, n _ _ t.kS.ns, rfl⟩⟩
  have obh : ObH K mg HC SC := ⟨⟨t.kH.cl, t.iH, t.in_, t.it, t.mH, t.kitHH⟩, ⟨t.kS.cl, t.iS, t.in_, t.it, t.mS, t.kitSH⟩, ⟨_, n _ _ t.kH.ns, rfl⟩⟩
  have tpo : Cal P w K mg base "turned_past_own" 5 ["own", "edit"] spTPO := cal_of t.f_tpo n (fun _ _ _ _ _ _ us hl => match us, hl with | [_, _], _ => rfl) fun _ _ F => ok_tpo F trn
  have hl : CalM P w K mg base HC "length_without_own" 2 ["self"] (spLwo HC) := calm_of t.m_hl (fun _ _ _ _ _ _ us hl => match us, hl with | [_], _ => rfl) fun _ _ F => ok_lwo F TH gl lb
  have hf : CalM P w K mg base HC "follow" 2 ["self", "out", "kept_back", "edit"] (spFollow HC) := calm_of t.m_hf (fun _ _ _ _ _ _ us hl => match us, hl with | [_, _, _, _], _ => rfl) fun _ _ F => ok_hf F TH app
  have hk : CalM P w K mg base HC "confirm" 1 ["self"] (spConfirm HC) := calm_of t.m_hk (fun _ _ _ _ _ _ us hl => match us, hl with | [_], _ => rfl) fun _ _ F => ok_hcf F TH
  have sl : CalM P w K mg base SC "length_as_of" 2 ["self", "revision"] (spLao SC) := calm_of t.m_sl (fun _ _ _ _ _ _ us hl => match us, hl with | [_, _], _ => rfl) fun _ _ F => ok_lao F TS gl lb
  have sts : CalM P w K mg base SC "turned_since" 5 ["self", "edit", "revision"] (spTs SC) := calm_of t.m_st (fun _ _ _ _ _ _ us hl => match us, hl with | [_, _, _], _ => rfl) fun _ _ F => ok_ts F TS gT trn la
  have sp : CalM P w K mg base SC "put_in_order" 2 ["self", "edit"] (spPio SC) := calm_of t.m_sp (fun _ _ _ _ _ _ us hl => match us, hl with | [_, _], _ => rfl) fun _ _ F => ok_pio F TS app
  have fr : Cal P w K mg base "follow_remote" 6 ["hand", "most", "edit"] (spFR HC) := cal_of t.f_fr n (fun _ _ _ _ _ _ us hl => match us, hl with | [_, _, _], _ => rfl) fun _ _ F => ok_fr F ed TH (n _ _ t.bmax) (t.cR.glb n) tpo hf
  exact ⟨ed, cal_of t.f_chk n (fun _ _ _ _ _ _ us hl => match us, hl with | [_], _ => rfl) fun _ _ F => ok_chk F ed,
    cal_of t.f_att n (fun _ _ _ _ _ _ us hl => match us, hl with | [_, _, _], _ => rfl) fun _ _ F => ok_att F ed ref app,
    cal_of t.f_uot n (fun _ _ _ _ _ _ us hl => match us, hl with | [_, _, _], _ => rfl) fun _ _ F => ok_uot F ed ref und,
    cal_of t.f_com n (fun _ _ _ _ _ _ us hl => match us, hl with | [_, _, _], _ => rfl) fun _ _ F => ok_com F ed cmp,
    cal_of t.f_tur n (fun _ _ _ _ _ _ us hl => match us, hl with | [_, _, _, _], _ => rfl) fun _ _ F => ok_tur F ed trn,
    app, trn,
    cal_of t.f_bg n (fun _ _ _ _ _ _ us hl => match us, hl with | [_, _, _, _], _ => rfl) fun _ _ F => ok_bg F ed hi si,
    cal_of t.f_eh n (fun _ _ _ _ _ _ us hl => match us, hl with | [_, _, _], _ => rfl) fun _ _ F => ok_eh F ed ob hc,
    cal_of t.f_rem n (fun _ _ _ _ _ _ us hl => match us, hl with | [_, _, _, _], _ => rfl) fun _ _ F => ok_rem F ed ob hl fr,
    cal_of t.f_cfd n (fun _ _ _ _ _ _ us hl => match us, hl with | [_, _, _], _ => rfl) fun _ _ F => ok_cfd F ed ob (t.cR.glb n) hk,
    cal_of t.f_rec n (fun _ _ _ _ _ _ us hl => match us, hl with | [_, _, _, _, _], _ => rfl) fun _ _ F => ok_rec F ed ob obh (t.cX.glb n) sl sts sp,
    cal_of t.f_txt n (fun _ _ _ _ _ _ us hl => match us, hl with | [_, _, _], _ => rfl) fun _ _ F => ok_txt F ed ob,
    cal_of t.f_rev n (fun _ _ _ _ _ _ us hl => match us, hl with | [_, _], _ => rfl) fun _ _ F => ok_rev F gl ob,
    cal_of t.f_sta n (fun _ _ _ _ _ _ us hl => match us, hl with | [_, _], _ => rfl) fun _ _ F => ok_sta F ob (t.o0.glb n) (t.o1.glb n) (t.o2.glb n) (t.o3.glb n),
    cal_of t.f_rr n (fun _ _ _ _ _ _ us hl => match us, hl with | [_, _, _], _ => rfl) fun _ _ F => ok_rr F gl, ob, gl⟩
end
end My
end
section
set_option Elab.async false
set_option linter.all false
set_option maxRecDepth 100000
set_option maxHeartbeats 2000000
namespace My
open PySem PySem.Spec PyProof.Rows L2
def depth : Nat := 10
theorem noattr_mk {K : PySem.W.Frag} {C : Addr} {f : Str} (h : PySem.W.findIn K (.ref C) f = some none) : NoAttr K C f := h
theorem kit_self {K : PySem.W.Frag} {C : Addr} : PySem.W.kitOne K (.ref C) (.ref C) = some true := by
  unfold PySem.W.kitOne
  rw [if_pos (beq_self_eq_true _)]
theorem kit_mk {K : PySem.W.Frag} {A B : Addr} {cd : ClassData} (a : PySem.W.nsIn K mainGlobals "Hand" = some (some (.ref A))) (b : PySem.W.nsIn K mainGlobals "Host" = some (some (.ref B))) (c : PySem.W.clsIn K B = some cd) (t : PySem.W.typeIn K (.ref B) = some (.type "type")) (s : PySem.W.subIn K (.ref A) (.ref B) = some false) (ne : (Value.ref A == Value.ref B) = false) :
    ∃ A B, PySem.W.nsIn K mainGlobals "Hand" = some (some (.ref A)) ∧ PySem.W.nsIn K mainGlobals "Host" = some (some (.ref B)) ∧ PySem.W.kitOne K (.ref A) (.ref B) = some false := by
  refine ⟨A, B, a, b, ?_⟩
  unfold PySem.W.kitOne
  rw [if_neg (by rw [ne]; decide)]
  show (if ((PySem.W.clsIn K B).isSome && PySem.W.typeIn K (.ref B) == some (.type "type")) = true then PySem.W.subIn K (.ref A) (.ref B) else none) = some false
  rw [c, t, s, if_pos (by simp)]
theorem nm_of {K : PySem.W.Frag} {h : Heap} {mg : Str → Option Value} (X : K.In h) (G : h.Ns mainGlobals mg) : Nm K mg := fun x v e => match v, e with
  | none, e => PySem.W.mg_none_of X G e
  | some _, e => PySem.W.mg_of X G e
theorem kit_mk2 {K : PySem.W.Frag} {A B : Addr} {cd : ClassData} (a : PySem.W.nsIn K mainGlobals "Hand" = some (some (.ref A))) (b : PySem.W.nsIn K mainGlobals "Host" = some (some (.ref B))) (c : PySem.W.clsIn K A = some cd) (t : PySem.W.typeIn K (.ref A) = some (.type "type")) (s : PySem.W.subIn K (.ref B) (.ref A) = some false) (ne : (Value.ref B == Value.ref A) = false) :
    ∃ A B, PySem.W.nsIn K mainGlobals "Hand" = some (some (.ref A)) ∧ PySem.W.nsIn K mainGlobals "Host" = some (some (.ref B)) ∧ PySem.W.kitOne K (.ref B) (.ref A) = some false := by
  refine ⟨A, B, a, b, ?_⟩
  unfold PySem.W.kitOne
  rw [if_neg (by rw [ne]; decide)]
  show (if ((PySem.W.clsIn K A).isSome && PySem.W.typeIn K (.ref A) == some (.type "type")) = true then PySem.W.subIn K (.ref B) (.ref A) else none) = some false
  rw [c, t, s, if_pos (by simp)]
end My
end
section
set_option Elab.async false
set_option linter.all false
set_option maxRecDepth 100000
set_option maxHeartbeats 2000000
namespace My
open PySem PySem.Spec PyProof.Rows L2
/-! ### SHAPES: a tuple of pairs, of the module -/
theorem sq_pair {K : PySem.W.Frag} {a : Addr} {oc : Value} {d : Option Addr} {its : Array Value} {z : Nat} {sl : Array (Option Value)} {n k : Nat} {t u : Tok} (l : K.lookup a = some ⟨oc, d, .seq its z, sl⟩) (hc : oc = .type "tuple") (hi : its.toList = [.int (n : Int) t, .int (k : Int) u]) : ∀ H, SqT K H a [.int (n : Int), .int (k : Int)] := fun H =>
  .inr ⟨_, its, z, l, hc, rfl, by rw [← Array.length_toList, hi]; show 2 ≤ sizeLine; decide, by rw [hi]; exact .cons ⟨t, rfl⟩ (.cons ⟨u, rfl⟩ .nil)⟩
structure ShpK (K : PySem.W.Frag) : Prop where
  ex : ∃ sa, PySem.W.nsIn K mainGlobals "SHAPES" = some (some (.ref sa)) ∧ ∃ xs, (∀ H, SqT K H sa xs) ∧ ∀ p n k, PySv17.shape p = some (n, k) → ∃ (i : Nat) (ta : Addr), p = (i : Int) ∧ xs[i]? = some (.ref ta) ∧ ∀ H, SqT K H ta [.int (n : Int), .int (k : Int)]
theorem ShpK.shp {K : PySem.W.Frag} {mg : Str → Option Value} (h : ShpK K) (n : Nm K mg) : Shp K mg := by
  obtain ⟨sa, e, r⟩ := h.ex
  exact ⟨sa, ⟨_, n _ _ e, rfl⟩, r⟩
theorem shp_mk {K : PySem.W.Frag} {sa a0 a1 a2 a3 a4 a5 a6 a7 a8 a9 a10 a11 a12 : Addr} {oc : Value} {d : Option Addr} {its : Array Value} {z : Nat} {sl : Array (Option Value)} (g : PySem.W.nsIn K mainGlobals "SHAPES" = some (some (.ref sa))) (l : K.lookup sa = some ⟨oc, d, .seq its z, sl⟩) (hc : oc = .type "tuple") (hi : its.toList = [.ref a0, .ref a1, .ref a2, .ref a3, .ref a4, .ref a5, .ref a6, .ref a7, .ref a8, .ref a9, .ref a10, .ref a11, .ref a12])
    (p0 : ∀ H, SqT K H a0 [.int ((0 : Nat) : Int), .int ((1 : Nat) : Int)])
    (p1 : ∀ H, SqT K H a1 [.int ((1 : Nat) : Int), .int ((2 : Nat) : Int)])
    (p2 : ∀ H, SqT K H a2 [.int ((1 : Nat) : Int), .int ((2 : Nat) : Int)])
    (p3 : ∀ H, SqT K H a3 [.int ((1 : Nat) : Int), .int ((2 : Nat) : Int)])
    (p4 : ∀ H, SqT K H a4 [.int ((2 : Nat) : Int), .int ((2 : Nat) : Int)])
    (p5 : ∀ H, SqT K H a5 [.int ((2 : Nat) : Int), .int ((1 : Nat) : Int)])
    (p6 : ∀ H, SqT K H a6 [.int ((1 : Nat) : Int), .int ((1 : Nat) : Int)])
    (p7 : ∀ H, SqT K H a7 [.int ((2 : Nat) : Int), .int ((1 : Nat) : Int)])
    (p8 : ∀ H, SqT K H a8 [.int ((2 : Nat) : Int), .int ((0 : Nat) : Int)])
    (p9 : ∀ H, SqT K H a9 [.int ((3 : Nat) : Int), .int ((1 : Nat) : Int)])
    (p10 : ∀ H, SqT K H a10 [.int ((2 : Nat) : Int), .int ((0 : Nat) : Int)])
    (p11 : ∀ H, SqT K H a11 [.int ((1 : Nat) : Int), .int ((0 : Nat) : Int)])
    (p12 : ∀ H, SqT K H a12 [.int ((1 : Nat) : Int), .int ((0 : Nat) : Int)])
    : ShpK K := by
  refine ⟨sa, g, [.ref a0, .ref a1, .ref a2, .ref a3, .ref a4, .ref a5, .ref a6, .ref a7, .ref a8, .ref a9, .ref a10, .ref a11, .ref a12], fun H => .inr ⟨_, its, z, l, hc, rfl, by rw [← Array.length_toList, hi]; show 13 ≤ sizeLine; decide, by rw [hi]; exact .cons rfl (.cons rfl (.cons rfl (.cons rfl (.cons rfl (.cons rfl (.cons rfl (.cons rfl (.cons rfl (.cons rfl (.cons rfl (.cons rfl (.cons rfl (.nil)))))))))))))⟩, fun p n k h => ?_⟩
  unfold PySv17.shape at h
  by_cases h0 : p = 0
  · rw [if_pos h0] at h; cases h; exact ⟨0, a0, h0, rfl, p0⟩
  rw [if_neg h0] at h
  by_cases h1 : p = 1
  · rw [if_pos h1] at h; cases h; exact ⟨1, a1, h1, rfl, p1⟩
  rw [if_neg h1] at h
  by_cases h2 : p = 2
  · rw [if_pos h2] at h; cases h; exact ⟨2, a2, h2, rfl, p2⟩
  rw [if_neg h2] at h
  by_cases h3 : p = 3
  · rw [if_pos h3] at h; cases h; exact ⟨3, a3, h3, rfl, p3⟩
  rw [if_neg h3] at h
  by_cases h4 : p = 4
  · rw [if_pos h4] at h; cases h; exact ⟨4, a4, h4, rfl, p4⟩
  rw [if_neg h4] at h
  by_cases h5 : p = 5
  · rw [if_pos h5] at h; cases h; exact ⟨5, a5, h5, rfl, p5⟩
  rw [if_neg h5] at h
  by_cases h6 : p = 6
  · rw [if_pos h6] at h; cases h; exact ⟨6, a6, h6, rfl, p6⟩
  rw [if_neg h6] at h
  by_cases h7 : p = 7
  · rw [if_pos h7] at h; cases h; exact ⟨7, a7, h7, rfl, p7⟩
  rw [if_neg h7] at h
  by_cases h8 : p = 8
  · rw [if_pos h8] at h; cases h; exact ⟨8, a8, h8, rfl, p8⟩
  rw [if_neg h8] at h
  by_cases h9 : p = 9
  · rw [if_pos h9] at h; cases h; exact ⟨9, a9, h9, rfl, p9⟩
  rw [if_neg h9] at h
  by_cases h10 : p = 10
  · rw [if_pos h10] at h; cases h; exact ⟨10, a10, h10, rfl, p10⟩
  rw [if_neg h10] at h
  by_cases h11 : p = 11
  · rw [if_pos h11] at h; cases h; exact ⟨11, a11, h11, rfl, p11⟩
  rw [if_neg h11] at h
  by_cases h12 : p = 12
  · rw [if_pos h12] at h; cases h; exact ⟨12, a12, h12, rfl, p12⟩
  rw [if_neg h12] at h
  cases h
end My
end
section
set_option Elab.async false
set_option linter.all false
set_option maxRecDepth 100000
set_option maxHeartbeats 4000000
namespace My
open PySem PySem.Spec PyProof.Rows L2
section
variable {P : Program} {w : World} {K : PySem.W.Frag} {mg : Str → Option Value} {base : Heap}
/-- rows of one, of two lists -/
theorem rows1 {H : Hp} {ras : List Addr} {x : List Int} (h : Paired (IntsAt H) ras [x]) : ∃ a, ras = [a] ∧ IntsAt H a x := by
  cases h with
  | cons h1 h2 =>
    cases h2
    exact ⟨_, rfl, h1⟩
theorem rows2 {H : Hp} {ras : List Addr} {x y : List Int} (h : Paired (IntsAt H) ras [x, y]) : ∃ a b, ras = [a, b] ∧ IntsAt H a x ∧ IntsAt H b y := by
  cases h with
  | cons h1 h2 =>
    obtain ⟨b, rfl, h3⟩ := rows1 h2
    exact ⟨_, _, rfl, h1, h3⟩
theorem at_bv {H : Hp} {a : Addr} {b : Bytes} (h : IntsAt H a (Sv17Neutral.ints b)) : H a = some (.lst (bv b)) := by
  unfold IntsAt at h
  rw [ints_iv] at h
  exact h
/-- spOne's wish, as After -/
theorem after_of {OA : OAT} {rest : List Addr} {H : Hp} {od : Addr} {s s' : SS} {x : Sv17.Ans} {c : List (List Int)} {Q : VK} (e : Sv17Neutral.step s c = (s', ansl x))
    (k : ∀ (H' : Hp) (q : Addr), STA OA rest H' od (Sv17Neutral.step s c).1 → IntsAt H' q (Sv17Neutral.step s c).2 → (∀ b ∈ rest, H' b = H b) → q ∉ rest → (∀ b ys, H b = some (.tup ys) → H' b = some (.tup ys)) → Q (.ref q) H') : After OA rest H od s' x Q := fun H' q h1 h2 h3 h4 h5 => by
  rw [e] at k
  exact k H' q h1 (ansl_at h2) h3 h4 h5
/-! ### the calls by themselves -/
def spABI : Sp := fun vs H Q _ => ∃ (nl rl : Addr) (p : Int) (nums : List Int) (ras : List Addr) (xs : List (List Int)) (s : SS), vs = [.int p, .ref nl, .ref rl] ∧ IntsAt H nl nums ∧ H rl = some (.lst (ras.map V.ref)) ∧ Paired (IntsAt H) ras xs ∧ s.length = 4 ∧ CallOk s p nums xs ∧ p < 5 ∧
  ∀ (H' : Hp) (q : Addr) (x : Sv17.Ans), Same H H' → H q = none → AnsAt H' q x → Sv17Neutral.step s (PySv17.whole ((p :: nums) :: xs)) = (s, ansl x) → Q (.ref q) H'
theorem sc_abi : FnScope ["call", "numbers", "rows"] ["call", "numbers", "rows"] (defScope s_answer_by_itself) := ⟨rfl, rfl, rfl, by decide +kernel, rfl, by decide +kernel, by decide +kernel⟩
theorem ok_abi {f HC SC : Addr} {fd : FuncData} (F : Fun K "answer_by_itself" "answer_by_itself" s_answer_by_itself f fd) (c : Cals P w K mg base HC SC) (e0 : Glb mg "ET_CHECK" (.int 0)) (e1 : Glb mg "ET_APPLY" (.int 1)) (e2 : Glb mg "ET_UNDO" (.int 2)) (e3 : Glb mg "ET_COMPOSE" (.int 3)) :
    FnOk P w K mg base CX0 6 f fd ["call", "numbers", "rows"] spABI := by
  refine F.ok sc_abi (fun vs H Q E h => ?_) (fun cdv A outer st H vs Q E hr h => ?_)
  · obtain ⟨nl, rl, p, nums, ras, xs, s, rfl, _⟩ := h
    rfl
  · obtain ⟨nl, rl, p, nums, ras, xs, s, rfl, hnl, hrl, hras, hl4, hok, h5, k⟩ := h
    refine ⟨_, (pss_cons (ps_if (pt_cmpR op_eq (pv 0) (pg_glob e0) (nomark _)) (pss_one (ps_ret (pc_call c.chk hr (pa_cons (pe_ix ix_list (pv 2) pe_int (fun _ _ => rfl)) pa_nil)))) pss_nil)
      (pss_cons (ps_if (pt_cmpR op_eq (pv 0) (pg_glob e1) (nomark _)) (pss_one (ps_ret (pc_call c.att hr (pa_cons (pe_ix ix_list (pv 1) pe_int (fun _ _ => rfl)) (pa_cons (pe_ix ix_list (pv 2) pe_int (fun _ _ => rfl)) (pa_cons (pe_ix ix_list (pv 2) pe_int (fun _ _ => rfl)) pa_nil)))))) pss_nil)
      (pss_cons (ps_if (pt_cmpR op_eq (pv 0) (pg_glob e2) (nomark _)) (pss_one (ps_ret (pc_call c.uot hr (pa_cons (pe_ix ix_list (pv 1) pe_int (fun _ _ => rfl)) (pa_cons (pe_ix ix_list (pv 2) pe_int (fun _ _ => rfl)) (pa_cons (pe_ix ix_list (pv 2) pe_int (fun _ _ => rfl)) pa_nil)))))) pss_nil)
      (pss_cons (ps_if (pt_cmpR op_eq (pv 0) (pg_glob e3) (nomark _)) (pss_one (ps_ret (pc_call c.com hr (pa_cons (pe_ix ix_list (pv 1) pe_int (fun _ _ => rfl)) (pa_cons (pe_ix ix_list (pv 2) pe_int (fun _ _ => rfl)) (pa_cons (pe_ix ix_list (pv 2) pe_int (fun _ _ => rfl)) pa_nil)))))) pss_nil)
      (pss_one (ps_ret (pc_call c.tur hr (pa_cons (pe_ix ix_list (pv 1) pe_int (fun _ _ => rfl)) (pa_cons (pe_ix ix_list (pv 1) pe_int (fun _ _ => rfl)) (pa_cons (pe_ix ix_list (pv 2) pe_int (fun _ _ => rfl)) (pa_cons (pe_ix ix_list (pv 2) pe_int (fun _ _ => rfl)) pa_nil))))))))))), ?_⟩
    rcases co_p hok with rfl | rfl | rfl | rfl | rfl | rfl | rfl | rfl | rfl | rfl | rfl | rfl | rfl
    · obtain ⟨e, rfl, rfl, he, ze, hst⟩ := co0 hl4 hok
      obtain ⟨a, rfl, ha⟩ := rows1 hras
      refine ⟨_, rfl, rfl, _, rfl, iteT ?_⟩
      exact ⟨_, rfl, rl, _, _, _, rfl, rfl, SqL.of hrl, atI_nat (j := 0) rfl, a, e, rfl, at_bv ha, he, ze, fun q H' z nq hq => k H' q _ z nq hq hst⟩
    · obtain ⟨most, e, t, rfl, rfl, he, ht, ze, zt, hst⟩ := co1 hl4 hok
      obtain ⟨a, b, rfl, ha, hb⟩ := rows2 hras
      refine ⟨_, rfl, rfl, _, rfl, iteF ⟨_, rfl, rfl, _, rfl, iteT ?_⟩⟩
      exact ⟨_, rfl, nl, _, _, _, rfl, rfl, SqL.of hnl, atI_nat (j := 0) rfl, _, rfl, rl, _, _, _, rfl, rfl, SqL.of hrl, atI_nat (j := 0) rfl, _, rfl, rl, _, _, _, rfl, rfl, SqL.of hrl, atI_nat (j := 1) rfl, a, b, e, t, most, rfl, at_bv ha, at_bv hb, he, ze, zt, fun q H' z nq hq => k H' q _ z nq hq hst⟩
    · obtain ⟨most, e, t, rfl, rfl, he, ht, ze, zt, hst⟩ := co2 hl4 hok
      obtain ⟨a, b, rfl, ha, hb⟩ := rows2 hras
      refine ⟨_, rfl, rfl, _, rfl, iteF ⟨_, rfl, rfl, _, rfl, iteF ⟨_, rfl, rfl, _, rfl, iteT ?_⟩⟩⟩
      exact ⟨_, rfl, nl, _, _, _, rfl, rfl, SqL.of hnl, atI_nat (j := 0) rfl, _, rfl, rl, _, _, _, rfl, rfl, SqL.of hrl, atI_nat (j := 0) rfl, _, rfl, rl, _, _, _, rfl, rfl, SqL.of hrl, atI_nat (j := 1) rfl, a, b, e, t, most, rfl, at_bv ha, at_bv hb, he, ze, zt, fun q H' z nq hq => k H' q _ z nq hq hst⟩
    · obtain ⟨most, e, t, rfl, rfl, he, ht, ze, zt, hst⟩ := co3 hl4 hok
      obtain ⟨a, b, rfl, ha, hb⟩ := rows2 hras
      refine ⟨_, rfl, rfl, _, rfl, iteF ⟨_, rfl, rfl, _, rfl, iteF ⟨_, rfl, rfl, _, rfl, iteF ⟨_, rfl, rfl, _, rfl, iteT ?_⟩⟩⟩⟩
      exact ⟨_, rfl, nl, _, _, _, rfl, rfl, SqL.of hnl, atI_nat (j := 0) rfl, _, rfl, rl, _, _, _, rfl, rfl, SqL.of hrl, atI_nat (j := 0) rfl, _, rfl, rl, _, _, _, rfl, rfl, SqL.of hrl, atI_nat (j := 1) rfl, a, b, e, t, most, rfl, at_bv ha, at_bv hb, he, ht, ze, zt, fun q H' z nq hq => k H' q _ z nq hq hst⟩
    · obtain ⟨which, most, e, t, rfl, rfl, he, ht, ze, zt, hst⟩ := co4 hl4 hok
      obtain ⟨a, b, rfl, ha, hb⟩ := rows2 hras
      refine ⟨_, rfl, rfl, _, rfl, iteF ⟨_, rfl, rfl, _, rfl, iteF ⟨_, rfl, rfl, _, rfl, iteF ⟨_, rfl, rfl, _, rfl, iteF ?_⟩⟩⟩⟩
      exact ⟨_, rfl, nl, _, _, _, rfl, rfl, SqL.of hnl, atI_nat (j := 0) rfl, _, rfl, nl, _, _, _, rfl, rfl, SqL.of hnl, atI_nat (j := 1) rfl, _, rfl, rl, _, _, _, rfl, rfl, SqL.of hrl, atI_nat (j := 0) rfl, _, rfl, rl, _, _, _, rfl, rfl, SqL.of hrl, atI_nat (j := 1) rfl, a, b, e, t, which, most, rfl, at_bv ha, at_bv hb, he, ht, ze, zt, fun q H' z nq hq => k H' q _ z nq hq hst⟩
    all_goals (exfalso; omega)
/-! ### the calls on an object -/
def spAOO (ST : STT) : Sp := fun vs H Q E => spOne ST vs H Q E ∧ ∀ od p nl rl, vs = [.ref od, .int p, .ref nl, .ref rl] → 5 ≤ p
theorem sc_aoo : FnScope ["objects", "call", "numbers", "rows", "number"] ["objects", "call", "numbers", "rows"] (defScope s_answer_of_object) := ⟨rfl, rfl, rfl, by decide +kernel, rfl, by decide +kernel, by decide +kernel⟩
theorem ok_aoo {f HC SC : Addr} {fd : FuncData} (F : Fun K "answer_of_object" "answer_of_object" s_answer_of_object f fd) (c : Cals P w K mg base HC SC) (e5 : Glb mg "ET_BEGIN" (.int 5)) (e6 : Glb mg "ET_EDIT" (.int 6)) (e7 : Glb mg "ET_REMOTE" (.int 7)) (e8 : Glb mg "ET_CONFIRMED" (.int 8)) (e9 : Glb mg "ET_RECEIVE" (.int 9)) (e10 : Glb mg "ET_TEXT" (.int 10)) (e11 : Glb mg "ET_REVISION" (.int 11)) :
    FnOk P w K mg base CX0 8 f fd ["objects", "call", "numbers", "rows"] (spAOO (STA (OAH HC SC))) := by
  refine F.ok sc_aoo (fun vs H Q E h => ?_) (fun cdv A outer st H vs Q E hr h => ?_)
  · obtain ⟨⟨od, nl, rl, p, nums, ras, xs, s, rest, H0, rfl, _⟩, _⟩ := h
    rfl
  · obtain ⟨⟨od, nl, rl, p, nums, ras, xs, s, rest, H0, rfl, hnl, hrl, hras, hS, z0, hfr, hok, k⟩, h5⟩ := h
    have h5 := h5 od p nl rl rfl
    refine ⟨_, (pss_cons (ps_set (i := 4) sc_aoo.nd rfl (Or.inl rfl) (pe_ix ix_list (pv 2) pe_int (fun _ _ => rfl)))
      (pss_cons (ps_if (pt_cmpR op_eq (pv 1) (pg_glob e5) (nomark _)) (pss_one (ps_ret (pc_call c.bg hr (pa_cons (pv 0) (pa_cons (pv 4) (pa_cons (pe_ix ix_list (pv 2) pe_int (fun _ _ => rfl)) (pa_cons (pe_ix ix_list (pv 3) pe_int (fun _ _ => rfl)) pa_nil))))))) pss_nil)
      (pss_cons (ps_if (pt_cmpR op_eq (pv 1) (pg_glob e6) (nomark _)) (pss_one (ps_ret (pc_call c.eh hr (pa_cons (pv 0) (pa_cons (pv 4) (pa_cons (pe_ix ix_list (pv 3) pe_int (fun _ _ => rfl)) pa_nil)))))) pss_nil)
      (pss_cons (ps_if (pt_cmpR op_eq (pv 1) (pg_glob e7) (nomark _)) (pss_one (ps_ret (pc_call c.rem hr (pa_cons (pv 0) (pa_cons (pv 4) (pa_cons (pe_ix ix_list (pv 2) pe_int (fun _ _ => rfl)) (pa_cons (pe_ix ix_list (pv 3) pe_int (fun _ _ => rfl)) pa_nil))))))) pss_nil)
      (pss_cons (ps_if (pt_cmpR op_eq (pv 1) (pg_glob e8) (nomark _)) (pss_one (ps_ret (pc_call c.cfd hr (pa_cons (pv 0) (pa_cons (pv 4) (pa_cons (pe_ix ix_list (pv 2) pe_int (fun _ _ => rfl)) pa_nil)))))) pss_nil)
      (pss_cons (ps_if (pt_cmpR op_eq (pv 1) (pg_glob e9) (nomark _)) (pss_one (ps_ret (pc_call c.rec_ hr (pa_cons (pv 0) (pa_cons (pv 4) (pa_cons (pe_ix ix_list (pv 2) pe_int (fun _ _ => rfl)) (pa_cons (pe_ix ix_list (pv 2) pe_int (fun _ _ => rfl)) (pa_cons (pe_ix ix_list (pv 3) pe_int (fun _ _ => rfl)) pa_nil)))))))) pss_nil)
      (pss_cons (ps_if (pt_cmpR op_eq (pv 1) (pg_glob e10) (nomark _)) (pss_one (ps_ret (pc_call c.txt hr (pa_cons (pv 0) (pa_cons (pv 4) (pa_cons (pe_ix ix_list (pv 2) pe_int (fun _ _ => rfl)) pa_nil)))))) pss_nil)
      (pss_cons (ps_if (pt_cmpR op_eq (pv 1) (pg_glob e11) (nomark _)) (pss_one (ps_ret (pc_call c.rev hr (pa_cons (pv 0) (pa_cons (pv 4) pa_nil))))) pss_nil)
      (pss_one (ps_ret (pc_call c.sta hr (pa_cons (pv 0) (pa_cons (pv 4) pa_nil))))))))))))), ?_⟩
    rcases co_p hok with rfl | rfl | rfl | rfl | rfl | rfl | rfl | rfl | rfl | rfl | rfl | rfl | rfl
    · exfalso; omega
    · exfalso; omega
    · exfalso; omega
    · exfalso; omega
    · exfalso; omega
    · obtain ⟨kk, host, t, rfl, rfl, hk, ht, zt, hst⟩ := co5 hok
      have A := after_of hst k
      obtain ⟨a, rfl, ha⟩ := rows1 hras
      refine ⟨_, rfl, nl, _, _, _, rfl, rfl, SqL.of hnl, atI_nat (j := 0) rfl, ?_⟩
      refine ⟨_, rfl, rfl, _, rfl, iteT ?_⟩
      exact ⟨_, rfl, _, rfl, _, rfl, nl, _, _, _, rfl, rfl, SqL.of hnl, atI_nat (j := 1) rfl, _, rfl, rl, _, _, _, rfl, rfl, SqL.of hrl, atI_nat (j := 0) rfl, od, a, kk, host, t, s, rest, H0, rfl, at_bv ha, zt, hk, hS, z0, hfr a (by simp), A⟩
    · obtain ⟨kk, e, o, rfl, rfl, hk, he, ze, hst⟩ := co6 hok
      have A := after_of hst k
      obtain ⟨a, rfl, ha⟩ := rows1 hras
      rw [getD_some hk] at A
      refine ⟨_, rfl, nl, _, _, _, rfl, rfl, SqL.of hnl, atI_nat (j := 0) rfl, ?_⟩
      refine ⟨_, rfl, rfl, _, rfl, iteF ⟨_, rfl, rfl, _, rfl, iteT ?_⟩⟩
      exact ⟨_, rfl, _, rfl, _, rfl, rl, _, _, _, rfl, rfl, SqL.of hrl, atI_nat (j := 0) rfl, od, a, kk, e, s, o, rest, H0, rfl, at_bv ha, he, ze, hk, hS, z0, A⟩
    · obtain ⟨kk, most, e, o, rfl, rfl, hk, he, ze, hst⟩ := co7 hok
      have A := after_of hst k
      obtain ⟨a, rfl, ha⟩ := rows1 hras
      rw [getD_some hk] at A
      refine ⟨_, rfl, nl, _, _, _, rfl, rfl, SqL.of hnl, atI_nat (j := 0) rfl, ?_⟩
      refine ⟨_, rfl, rfl, _, rfl, iteF ⟨_, rfl, rfl, _, rfl, iteF ⟨_, rfl, rfl, _, rfl, iteT ?_⟩⟩⟩
      exact ⟨_, rfl, _, rfl, _, rfl, nl, _, _, _, rfl, rfl, SqL.of hnl, atI_nat (j := 1) rfl, _, rfl, rl, _, _, _, rfl, rfl, SqL.of hrl, atI_nat (j := 0) rfl, od, a, kk, most, e, s, o, rest, H0, rfl, at_bv ha, he, ze, hk, hS, z0, A⟩
    · obtain ⟨kk, most, o, rfl, rfl, hk, hst⟩ := co8 hok
      have A := after_of hst k
      rw [getD_some hk] at A
      refine ⟨_, rfl, nl, _, _, _, rfl, rfl, SqL.of hnl, atI_nat (j := 0) rfl, ?_⟩
      refine ⟨_, rfl, rfl, _, rfl, iteF ⟨_, rfl, rfl, _, rfl, iteF ⟨_, rfl, rfl, _, rfl, iteF ⟨_, rfl, rfl, _, rfl, iteT ?_⟩⟩⟩⟩
      exact ⟨_, rfl, _, rfl, _, rfl, nl, _, _, _, rfl, rfl, SqL.of hnl, atI_nat (j := 1) rfl, od, kk, most, s, o, rest, H0, rfl, hk, hS, z0, A⟩
    · obtain ⟨kk, rev, most, e, o, rfl, rfl, hk, he, ze, hst⟩ := co9 hok
      have A := after_of hst k
      obtain ⟨a, rfl, ha⟩ := rows1 hras
      rw [getD_some hk] at A
      refine ⟨_, rfl, nl, _, _, _, rfl, rfl, SqL.of hnl, atI_nat (j := 0) rfl, ?_⟩
      refine ⟨_, rfl, rfl, _, rfl, iteF ⟨_, rfl, rfl, _, rfl, iteF ⟨_, rfl, rfl, _, rfl, iteF ⟨_, rfl, rfl, _, rfl, iteF ⟨_, rfl, rfl, _, rfl, iteT ?_⟩⟩⟩⟩⟩
      exact ⟨_, rfl, _, rfl, _, rfl, nl, _, _, _, rfl, rfl, SqL.of hnl, atI_nat (j := 1) rfl, _, rfl, nl, _, _, _, rfl, rfl, SqL.of hnl, atI_nat (j := 2) rfl, _, rfl, rl, _, _, _, rfl, rfl, SqL.of hrl, atI_nat (j := 0) rfl, od, a, kk, rev, most, e, s, o, rest, H0, rfl, at_bv ha, he, ze, hk, hS, z0, A⟩
    · obtain ⟨kk, most, o, rfl, rfl, hk, hst⟩ := co10 hok
      have A := after_of hst k
      rw [getD_some hk] at A
      refine ⟨_, rfl, nl, _, _, _, rfl, rfl, SqL.of hnl, atI_nat (j := 0) rfl, ?_⟩
      refine ⟨_, rfl, rfl, _, rfl, iteF ⟨_, rfl, rfl, _, rfl, iteF ⟨_, rfl, rfl, _, rfl, iteF ⟨_, rfl, rfl, _, rfl, iteF ⟨_, rfl, rfl, _, rfl, iteF ⟨_, rfl, rfl, _, rfl, iteT ?_⟩⟩⟩⟩⟩⟩
      exact ⟨_, rfl, _, rfl, _, rfl, nl, _, _, _, rfl, rfl, SqL.of hnl, atI_nat (j := 1) rfl, od, kk, most, s, o, rest, H0, rfl, hk, hS, z0, A⟩
    · obtain ⟨kk, o, rfl, rfl, hk, hst⟩ := co11 hok
      have A := after_of hst k
      rw [getD_some hk] at A
      refine ⟨_, rfl, nl, _, _, _, rfl, rfl, SqL.of hnl, atI_nat (j := 0) rfl, ?_⟩
      refine ⟨_, rfl, rfl, _, rfl, iteF ⟨_, rfl, rfl, _, rfl, iteF ⟨_, rfl, rfl, _, rfl, iteF ⟨_, rfl, rfl, _, rfl, iteF ⟨_, rfl, rfl, _, rfl, iteF ⟨_, rfl, rfl, _, rfl, iteF ⟨_, rfl, rfl, _, rfl, iteT ?_⟩⟩⟩⟩⟩⟩⟩
      exact ⟨_, rfl, _, rfl, od, kk, s, o, rest, H0, rfl, hk, hS, z0, A⟩
    · obtain ⟨kk, o, rfl, rfl, hk, hst⟩ := co12 hok
      have A := after_of hst k
      rw [getD_some hk] at A
      refine ⟨_, rfl, nl, _, _, _, rfl, rfl, SqL.of hnl, atI_nat (j := 0) rfl, ?_⟩
      refine ⟨_, rfl, rfl, _, rfl, iteF ⟨_, rfl, rfl, _, rfl, iteF ⟨_, rfl, rfl, _, rfl, iteF ⟨_, rfl, rfl, _, rfl, iteF ⟨_, rfl, rfl, _, rfl, iteF ⟨_, rfl, rfl, _, rfl, iteF ⟨_, rfl, rfl, _, rfl, iteF ?_⟩⟩⟩⟩⟩⟩⟩
      exact ⟨_, rfl, _, rfl, od, kk, s, o, rest, H0, rfl, hk, hS, z0, A⟩
/-! ### answer -/
theorem sc_ans : FnScope ["objects", "call", "numbers", "rows"] ["objects", "call", "numbers", "rows"] (defScope s_answer) := ⟨rfl, rfl, rfl, by decide +kernel, rfl, by decide +kernel, by decide +kernel⟩
theorem ok_ans {f HC SC : Addr} {fd : FuncData} (F : Fun K "answer" "answer" s_answer f fd) (e5 : Glb mg "ET_BEGIN" (.int 5)) (ca : Cal P w K mg base "answer_by_itself" 6 ["call", "numbers", "rows"] spABI) (co : Cal P w K mg base "answer_of_object" 8 ["objects", "call", "numbers", "rows"] (spAOO (STA (OAH HC SC)))) :
    FnOk P w K mg base CX0 9 f fd ["objects", "call", "numbers", "rows"] (spOne (STA (OAH HC SC))) := by
  refine F.ok sc_ans (fun vs H Q E h => ?_) (fun cdv A outer st H vs Q E hr h => ?_)
  · obtain ⟨od, nl, rl, p, nums, ras, xs, s, rest, H0, rfl, _⟩ := h
    rfl
  · obtain ⟨od, nl, rl, p, nums, ras, xs, s, rest, H0, rfl, hnl, hrl, hras, hS, z0, hfr, hok, k⟩ := h
    have hO := oah_ok HC SC
    have hl4 := hS.l4
    refine ⟨_, (pss_cons (ps_if (pt_cmpR op_lt (pv 1) (pg_glob e5) (nomark _)) (pss_one (ps_ret (pc_call ca hr (pa_cons (pv 1) (pa_cons (pv 2) (pa_cons (pv 3) pa_nil)))))) pss_nil)
      (pss_one (ps_ret (pc_call co hr (pa_cons (pv 0) (pa_cons (pv 1) (pa_cons (pv 2) (pa_cons (pv 3) pa_nil)))))))), ?_⟩
    refine ⟨_, rfl, _, _, rfl, rfl, _, rfl, ite2 (fun c1 => ?_) (fun c1 => ?_)⟩
    · have c1 : p < 5 := by simpa using c1
      exact ⟨_, rfl, _, rfl, _, rfl, nl, rl, p, nums, ras, xs, s, rfl, hnl, hrl, hras, hl4, hok, c1, fun H' q x z nq hq hst => (after_of hst k).pure hO hS z0 z nq hq⟩
    · have c1 : 5 ≤ p := by simp at c1; omega
      exact ⟨_, rfl, _, rfl, _, rfl, _, rfl, ⟨od, nl, rl, p, nums, ras, xs, s, rest, H0, rfl, hnl, hrl, hras, hS, z0, hfr, hok, k⟩, fun od' p' nl' rl' e => by cases e; exact c1⟩
end
end My
end
section
set_option Elab.async false
set_option linter.all false
set_option maxRecDepth 100000
set_option maxHeartbeats 2000000
namespace My
open PySem PySem.Spec PyProof.Rows L2
theorem last {P : Program} {w : World} {K : PySem.W.Frag} {h : Heap} {mg : Str → Option Value} {fa R C HC SC : Addr} (X : K.In h) (G : h.Ns mainGlobals mg) (hfa : mg "answers" = some (.ref fa)) (t : Txt K R C HC SC) (sh : ShpK K) :
    ∃ fd : FuncData, (∀ (s : Shared) (us : List Value), us.length = (["calls"] : List Str).length → BindsTo s fd ⟨us, []⟩ ((["calls"] : List Str).zip us)) ∧ ∀ base : Heap, K.In base → base.Ns mainGlobals mg → FnOk P w K mg base CX0 depth fa fd ["calls"] (spAll K) := by
  have n := nm_of X G
  obtain ⟨f, fd, F, a⟩ := t.f_all.ex
  have e := hfa.symm.trans (n _ _ a)
  cases e
  refine ⟨fd, ?_, fun base kb nb => ?_⟩
  · obtain ⟨oc, od, kV, doc, pm, an, cdv, ct, osl, rfl, lk, hcd⟩ := F.ex
    exact fun s us hu => match us, hu with | [_], _ => .of_eq rfl
  · have c : Cals P w K mg base HC SC := cals_of t n
    have abi : Cal P w K mg base "answer_by_itself" 6 ["call", "numbers", "rows"] spABI := cal_of t.f_abi n (fun _ _ _ _ _ _ us hl => match us, hl with | [_, _, _], _ => rfl) fun _ _ F => ok_abi F c (t.e0.glb n) (t.e1.glb n) (t.e2.glb n) (t.e3.glb n)
    have aoo : Cal P w K mg base "answer_of_object" 8 ["objects", "call", "numbers", "rows"] (spAOO (STA (OAH HC SC))) := cal_of t.f_aoo n (fun _ _ _ _ _ _ us hl => match us, hl with | [_, _, _, _], _ => rfl) fun _ _ F => ok_aoo F c (t.e5.glb n) (t.e6.glb n) (t.e7.glb n) (t.e8.glb n) (t.e9.glb n) (t.e10.glb n) (t.e11.glb n)
    have ans : Cal P w K mg base "answer" 9 ["objects", "call", "numbers", "rows"] (spOne (STA (OAH HC SC))) := cal_of t.f_ans n (fun _ _ _ _ _ _ us hl => match us, hl with | [_, _, _, _], _ => rfl) fun _ _ F => ok_ans F (t.e5.glb n) abi aoo
    exact ok_all F c.gl (st_ok (oah_ok HC SC)) (sh.shp n) c.rr ans (by decide)
end My
end
namespace PySem.W.Fast
def tw2738569743571112482 : Unit := ()
def tw8546140651802573389 : Unit := ()
def tw11943514947946809484 : Unit := ()
def tw15903344064520640222 : Unit := ()
def tw5205055940259653077 : Unit := ()
def tw17445295876780723635 : Unit := ()
def tw16774568980458303245 : Unit := ()
def tw17972922840775669383 : Unit := ()
def tw8163846291661106965 : Unit := ()
def tw4996562828565949745 : Unit := ()
def tw9897238811130266686 : Unit := ()
def tw17708794105878382191 : Unit := ()
def tw9544116307527369256 : Unit := ()
def tw2100635446195894801 : Unit := ()
def tw9007376299500640898 : Unit := ()
def tw1859711028503351554 : Unit := ()
def tw17062966022042897582 : Unit := ()
def tw11213604923894385175 : Unit := ()
def tw7593433004579659198 : Unit := ()
def tw7672512644761706474 : Unit := ()
def tw10065954370478905760 : Unit := ()
def tw7242483669604924367 : Unit := ()
def tw9203838841925453321 : Unit := ()
def tw4600903241564792291 : Unit := ()
def tw16747650030383815779 : Unit := ()
def tw13635536956710074409 : Unit := ()
def tw14555124240666464904 : Unit := ()
def tw156057899426695728 : Unit := ()
def tw1900511358032968794 : Unit := ()
def tw5080552784340369340 : Unit := ()
def tw11757194347721503529 : Unit := ()
def tw4083644219091112948 : Unit := ()
end PySem.W.Fast
open PySem PySem.W PyProof.Rows
set_option Elab.async false
set_option linter.all false
set_option maxRecDepth 100000 in
set_option maxHeartbeats 0 in
theorem PySem.Challenge.cw_onetext_s01_answers_holds : PySem.Challenge.rw_onetext_s01_answers.Holds := by
  w_on; k_headS; (case hw => exact ⟨[.list []], by decide +kernel, by decide +kernel⟩)
  k_fillS
  refine L2.walk_specK (r := PySem.Challenge.rw_onetext_s01_answers) (k := My.depth) (CX := L2.CX0) (ps := ["calls"]) (sp := My.spAll) (by decide +kernel) rfl rfl ⟨rfl, by decide, by decide⟩ (fun w h Y => PySem.W.kIn_of Y) ?F ?S (fun _ _ _ _ z => z)
  case F =>
    intro w mg fa h Y KX G hmg
    have t_c1 : My.Gc (My.KOf KX) "KEEP" (.int 1) := by
      dsimp only [My.KOf]
      refine' My.gc_int ?a
      (case a => k_is)
    have t_c2 : My.Gc (My.KOf KX) "PUT_IN" (.int 2) := by
      dsimp only [My.KOf]
      refine' My.gc_int ?a
      (case a => k_is)
    have t_c3 : My.Gc (My.KOf KX) "TAKE_OUT" (.int 3) := by
      dsimp only [My.KOf]
      refine' My.gc_int ?a
      (case a => k_is)
    have t_c0 : My.Gc (My.KOf KX) "NO_STEP" (.int 0) := by
      dsimp only [My.KOf]
      refine' My.gc_int ?a
      (case a => k_is)
    have t_cT : My.Gc (My.KOf KX) "LONGEST_TEXT" (.int 65536) := by
      dsimp only [My.KOf]
      refine' My.gc_int ?a
      (case a => k_is)
    have t_c5 : My.Gc (My.KOf KX) "HEAD_LENGTH" (.int 5) := by
      dsimp only [My.KOf]
      refine' My.gc_int ?a
      (case a => k_is)
    have t_cA : My.Gc (My.KOf KX) "ARGUMENTS" (.int (-2)) := by
      dsimp only [My.KOf]
      refine' My.gc_int ?a
      (case a => k_is)
    have t_cN : My.Gc (My.KOf KX) "NO_EDIT" (.int (-3)) := by
      dsimp only [My.KOf]
      refine' My.gc_int ?a
      (case a => k_is)
    have t_cF : My.Gc (My.KOf KX) "DOES_NOT_FIT" (.int (-4)) := by
      dsimp only [My.KOf]
      refine' My.gc_int ?a
      (case a => k_is)
    have t_cL : My.Gc (My.KOf KX) "TOO_LONG" (.int (-6)) := by
      dsimp only [My.KOf]
      refine' My.gc_int ?a
      (case a => k_is)
    have t_cM : My.Gc (My.KOf KX) "MORE_THAN_MOST" (.int (-7)) := by
      dsimp only [My.KOf]
      refine' My.gc_int ?a
      (case a => k_is)
    have t_cE : My.Gc (My.KOf KX) "LONGEST_EDIT_BYTES" (.int 1048576) := by
      dsimp only [My.KOf]
      refine' My.gc_int ?a
      (case a => k_is)
    have t_cR : My.Gc (My.KOf KX) "LAST_REVISION" (.int 2147483647) := by
      dsimp only [My.KOf]
      refine' My.gc_int ?a
      (case a => k_is)
    have t_cX : My.Gc (My.KOf KX) "MOST_EDITS" (.int 64) := by
      dsimp only [My.KOf]
      refine' My.gc_int ?a
      (case a => k_is)
    have t_o0 : My.Gc (My.KOf KX) "NOTHING_OUT" (.int 0) := by
      dsimp only [My.KOf]
      refine' My.gc_int ?a
      (case a => k_is)
    have t_o1 : My.Gc (My.KOf KX) "ONE_OUT" (.int 1) := by
      dsimp only [My.KOf]
      refine' My.gc_int ?a
      (case a => k_is)
    have t_o2 : My.Gc (My.KOf KX) "ONE_KEPT_BACK" (.int 2) := by
      dsimp only [My.KOf]
      refine' My.gc_int ?a
      (case a => k_is)
    have t_o3 : My.Gc (My.KOf KX) "THE_HOST" (.int 3) := by
      dsimp only [My.KOf]
      refine' My.gc_int ?a
      (case a => k_is)
    have t_e0 : My.Gc (My.KOf KX) "ET_CHECK" (.int 0) := by
      dsimp only [My.KOf]
      refine' My.gc_int ?a
      (case a => k_is)
    have t_e1 : My.Gc (My.KOf KX) "ET_APPLY" (.int 1) := by
      dsimp only [My.KOf]
      refine' My.gc_int ?a
      (case a => k_is)
    have t_e2 : My.Gc (My.KOf KX) "ET_UNDO" (.int 2) := by
      dsimp only [My.KOf]
      refine' My.gc_int ?a
      (case a => k_is)
    have t_e3 : My.Gc (My.KOf KX) "ET_COMPOSE" (.int 3) := by
      dsimp only [My.KOf]
      refine' My.gc_int ?a
      (case a => k_is)
    have t_e5 : My.Gc (My.KOf KX) "ET_BEGIN" (.int 5) := by
      dsimp only [My.KOf]
      refine' My.gc_int ?a
      (case a => k_is)
    have t_e6 : My.Gc (My.KOf KX) "ET_EDIT" (.int 6) := by
      dsimp only [My.KOf]
      refine' My.gc_int ?a
      (case a => k_is)
    have t_e7 : My.Gc (My.KOf KX) "ET_REMOTE" (.int 7) := by
      dsimp only [My.KOf]
      refine' My.gc_int ?a
      (case a => k_is)
    have t_e8 : My.Gc (My.KOf KX) "ET_CONFIRMED" (.int 8) := by
      dsimp only [My.KOf]
      refine' My.gc_int ?a
      (case a => k_is)
    have t_e9 : My.Gc (My.KOf KX) "ET_RECEIVE" (.int 9) := by
      dsimp only [My.KOf]
      refine' My.gc_int ?a
      (case a => k_is)
    have t_e10 : My.Gc (My.KOf KX) "ET_TEXT" (.int 10) := by
      dsimp only [My.KOf]
      refine' My.gc_int ?a
      (case a => k_is)
    have t_e11 : My.Gc (My.KOf KX) "ET_REVISION" (.int 11) := by
      dsimp only [My.KOf]
      refine' My.gc_int ?a
      (case a => k_is)
    have t_blen : PySem.W.nsIn (My.KOf KX) mainGlobals "len" = some none := by
      dsimp only [My.KOf]
      k_is
    have t_bmin : PySem.W.nsIn (My.KOf KX) mainGlobals "min" = some none := by
      dsimp only [My.KOf]
      k_is
    have t_bmax : PySem.W.nsIn (My.KOf KX) mainGlobals "max" = some none := by
      dsimp only [My.KOf]
      k_is
    have t_bsum : PySem.W.nsIn (My.KOf KX) mainGlobals "sum" = some none := by
      dsimp only [My.KOf]
      k_is
    have t_bisi : PySem.W.nsIn (My.KOf KX) mainGlobals "isinstance" = some none := by
      dsimp only [My.KOf]
      k_is
    have t_f_lb : My.Fn (My.KOf KX) "length_before" My.s_length_before := by
      dsimp only [My.KOf]
      refine' My.fn_mk ?a ?l ?c ?k
      (case a => k_is)
      (case l => k_is)
      (case c => k_is)
      (case k => k_is)
    have t_f_la : My.Fn (My.KOf KX) "length_after" My.s_length_after := by
      dsimp only [My.KOf]
      refine' My.fn_mk ?a ?l ?c ?k
      (case a => k_is)
      (case l => k_is)
      (case c => k_is)
      (case k => k_is)
    have t_f_num : My.Fn (My.KOf KX) "number_at" My.s_number_at := by
      dsimp only [My.KOf]
      refine' My.fn_mk ?a ?l ?c ?k
      (case a => k_is)
      (case l => k_is)
      (case c => k_is)
      (case k => k_is)
    have t_f_bon : My.Fn (My.KOf KX) "bytes_of_number" My.s_bytes_of_number := by
      dsimp only [My.KOf]
      refine' My.fn_mk ?a ?l ?c ?k
      (case a => k_is)
      (case l => k_is)
      (case c => k_is)
      (case k => k_is)
    have t_f_step : My.Fn (My.KOf KX) "step_at" My.s_step_at := by
      dsimp only [My.KOf]
      refine' My.fn_mk ?a ?l ?c ?k
      (case a => k_is)
      (case l => k_is)
      (case c => k_is)
      (case k => k_is)
    have t_f_may : My.Fn (My.KOf KX) "may_follow" My.s_may_follow := by
      dsimp only [My.KOf]
      refine' My.fn_mk ?a ?l ?c ?k
      (case a => k_is)
      (case l => k_is)
      (case c => k_is)
      (case k => k_is)
    have t_f_efb : My.Fn (My.KOf KX) "edit_from_bytes" My.s_edit_from_bytes := by
      dsimp only [My.KOf]
      refine' My.fn_mk ?a ?l ?c ?k
      (case a => k_is)
      (case l => k_is)
      (case c => k_is)
      (case k => k_is)
    have t_f_boe : My.Fn (My.KOf KX) "bytes_of_edit" My.s_bytes_of_edit := by
      dsimp only [My.KOf]
      refine' My.fn_mk ?a ?l ?c ?k
      (case a => k_is)
      (case l => k_is)
      (case c => k_is)
      (case k => k_is)
    have t_f_app : My.Fn (My.KOf KX) "applied" My.s_applied := by
      dsimp only [My.KOf]
      refine' My.fn_mk ?a ?l ?c ?k
      (case a => k_is)
      (case l => k_is)
      (case c => k_is)
      (case k => k_is)
    have t_f_und : My.Fn (My.KOf KX) "undone" My.s_undone := by
      dsimp only [My.KOf]
      refine' My.fn_mk ?a ?l ?c ?k
      (case a => k_is)
      (case l => k_is)
      (case c => k_is)
      (case k => k_is)
    have t_f_cc : My.Fn (My.KOf KX) "compose_common" My.s_compose_common := by
      dsimp only [My.KOf]
      refine' My.fn_mk ?a ?l ?c ?k
      (case a => k_is)
      (case l => k_is)
      (case c => k_is)
      (case k => k_is)
    have t_f_cmp : My.Fn (My.KOf KX) "composed" My.s_composed := by
      dsimp only [My.KOf]
      refine' My.fn_mk ?a ?l ?c ?k
      (case a => k_is)
      (case l => k_is)
      (case c => k_is)
      (case k => k_is)
    have t_f_tp : My.Fn (My.KOf KX) "turn_putting_in" My.s_turn_putting_in := by
      dsimp only [My.KOf]
      refine' My.fn_mk ?a ?l ?c ?k
      (case a => k_is)
      (case l => k_is)
      (case c => k_is)
      (case k => k_is)
    have t_f_tc : My.Fn (My.KOf KX) "turn_common" My.s_turn_common := by
      dsimp only [My.KOf]
      refine' My.fn_mk ?a ?l ?c ?k
      (case a => k_is)
      (case l => k_is)
      (case c => k_is)
      (case k => k_is)
    have t_f_trn : My.Fn (My.KOf KX) "turned" My.s_turned := by
      dsimp only [My.KOf]
      refine' My.fn_mk ?a ?l ?c ?k
      (case a => k_is)
      (case l => k_is)
      (case c => k_is)
      (case k => k_is)
    have t_f_bel : My.Fn (My.KOf KX) "bad_edit_length" My.s_bad_edit_length := by
      dsimp only [My.KOf]
      refine' My.fn_mk ?a ?l ?c ?k
      (case a => k_is)
      (case l => k_is)
      (case c => k_is)
      (case k => k_is)
    have t_f_btl : My.Fn (My.KOf KX) "bad_text_length" My.s_bad_text_length := by
      dsimp only [My.KOf]
      refine' My.fn_mk ?a ?l ?c ?k
      (case a => k_is)
      (case l => k_is)
      (case c => k_is)
      (case k => k_is)
    have t_f_cnt : My.Fn (My.KOf KX) "counted" My.s_counted := by
      dsimp only [My.KOf]
      refine' My.fn_mk ?a ?l ?c ?k
      (case a => k_is)
      (case l => k_is)
      (case c => k_is)
      (case k => k_is)
    have t_f_chk : My.Fn (My.KOf KX) "check" My.s_check := by
      dsimp only [My.KOf]
      refine' My.fn_mk ?a ?l ?c ?k
      (case a => k_is)
      (case l => k_is)
      (case c => k_is)
      (case k => k_is)
    have t_f_ref : My.Fn (My.KOf KX) "refused_on_text" My.s_refused_on_text := by
      dsimp only [My.KOf]
      refine' My.fn_mk ?a ?l ?c ?k
      (case a => k_is)
      (case l => k_is)
      (case c => k_is)
      (case k => k_is)
    have t_f_att : My.Fn (My.KOf KX) "apply_to_text" My.s_apply_to_text := by
      dsimp only [My.KOf]
      refine' My.fn_mk ?a ?l ?c ?k
      (case a => k_is)
      (case l => k_is)
      (case c => k_is)
      (case k => k_is)
    have t_f_uot : My.Fn (My.KOf KX) "undo_on_text" My.s_undo_on_text := by
      dsimp only [My.KOf]
      refine' My.fn_mk ?a ?l ?c ?k
      (case a => k_is)
      (case l => k_is)
      (case c => k_is)
      (case k => k_is)
    have t_f_com : My.Fn (My.KOf KX) "compose" My.s_compose := by
      dsimp only [My.KOf]
      refine' My.fn_mk ?a ?l ?c ?k
      (case a => k_is)
      (case l => k_is)
      (case c => k_is)
      (case k => k_is)
    have t_f_tur : My.Fn (My.KOf KX) "turn" My.s_turn := by
      dsimp only [My.KOf]
      refine' My.fn_mk ?a ?l ?c ?k
      (case a => k_is)
      (case l => k_is)
      (case c => k_is)
      (case k => k_is)
    have t_f_bg : My.Fn (My.KOf KX) "begin" My.s_begin := by
      dsimp only [My.KOf]
      refine' My.fn_mk ?a ?l ?c ?k
      (case a => k_is)
      (case l => k_is)
      (case c => k_is)
      (case k => k_is)
    have t_f_eh : My.Fn (My.KOf KX) "edit_by_hand" My.s_edit_by_hand := by
      dsimp only [My.KOf]
      refine' My.fn_mk ?a ?l ?c ?k
      (case a => k_is)
      (case l => k_is)
      (case c => k_is)
      (case k => k_is)
    have t_f_tpo : My.Fn (My.KOf KX) "turned_past_own" My.s_turned_past_own := by
      dsimp only [My.KOf]
      refine' My.fn_mk ?a ?l ?c ?k
      (case a => k_is)
      (case l => k_is)
      (case c => k_is)
      (case k => k_is)
    have t_f_fr : My.Fn (My.KOf KX) "follow_remote" My.s_follow_remote := by
      dsimp only [My.KOf]
      refine' My.fn_mk ?a ?l ?c ?k
      (case a => k_is)
      (case l => k_is)
      (case c => k_is)
      (case k => k_is)
    have t_f_rem : My.Fn (My.KOf KX) "remote" My.s_remote := by
      dsimp only [My.KOf]
      refine' My.fn_mk ?a ?l ?c ?k
      (case a => k_is)
      (case l => k_is)
      (case c => k_is)
      (case k => k_is)
    have t_f_cfd : My.Fn (My.KOf KX) "confirmed" My.s_confirmed := by
      dsimp only [My.KOf]
      refine' My.fn_mk ?a ?l ?c ?k
      (case a => k_is)
      (case l => k_is)
      (case c => k_is)
      (case k => k_is)
    have t_f_rec : My.Fn (My.KOf KX) "receive" My.s_receive := by
      dsimp only [My.KOf]
      refine' My.fn_mk ?a ?l ?c ?k
      (case a => k_is)
      (case l => k_is)
      (case c => k_is)
      (case k => k_is)
    have t_f_txt : My.Fn (My.KOf KX) "text_of" My.s_text_of := by
      dsimp only [My.KOf]
      refine' My.fn_mk ?a ?l ?c ?k
      (case a => k_is)
      (case l => k_is)
      (case c => k_is)
      (case k => k_is)
    have t_f_rev : My.Fn (My.KOf KX) "revision_of" My.s_revision_of := by
      dsimp only [My.KOf]
      refine' My.fn_mk ?a ?l ?c ?k
      (case a => k_is)
      (case l => k_is)
      (case c => k_is)
      (case k => k_is)
    have t_f_sta : My.Fn (My.KOf KX) "state_of" My.s_state_of := by
      dsimp only [My.KOf]
      refine' My.fn_mk ?a ?l ?c ?k
      (case a => k_is)
      (case l => k_is)
      (case c => k_is)
      (case k => k_is)
    have t_f_rr : My.Fn (My.KOf KX) "read_rows" My.s_read_rows := by
      dsimp only [My.KOf]
      refine' My.fn_mk ?a ?l ?c ?k
      (case a => k_is)
      (case l => k_is)
      (case c => k_is)
      (case k => k_is)
    have t_f_abi : My.Fn (My.KOf KX) "answer_by_itself" My.s_answer_by_itself := by
      dsimp only [My.KOf]
      refine' My.fn_mk ?a ?l ?c ?k
      (case a => k_is)
      (case l => k_is)
      (case c => k_is)
      (case k => k_is)
    have t_f_aoo : My.Fn (My.KOf KX) "answer_of_object" My.s_answer_of_object := by
      dsimp only [My.KOf]
      refine' My.fn_mk ?a ?l ?c ?k
      (case a => k_is)
      (case l => k_is)
      (case c => k_is)
      (case k => k_is)
    have t_f_ans : My.Fn (My.KOf KX) "answer" My.s_answer := by
      dsimp only [My.KOf]
      refine' My.fn_mk ?a ?l ?c ?k
      (case a => k_is)
      (case l => k_is)
      (case c => k_is)
      (case k => k_is)
    have t_f_all : My.Fn (My.KOf KX) "answers" My.s_answers := by
      dsimp only [My.KOf]
      refine' My.fn_mk ?a ?l ?c ?k
      (case a => k_is)
      (case l => k_is)
      (case c => k_is)
      (case k => k_is)
    have t_kR : ∃ A, My.Kl (My.KOf KX) "Row" A ∧ L2.NoAttr (My.KOf KX) A "closed" ∧ L2.NoAttr (My.KOf KX) A "kept" ∧ L2.NoAttr (My.KOf KX) A "put" ∧ L2.NoAttr (My.KOf KX) A "taken" ∧ My.FnM (My.KOf KX) A "__init__" "Row.__init__" My.s_Row_init ∧ My.FnM (My.KOf KX) A "keep" "Row.keep" My.s_Row_keep ∧ My.FnM (My.KOf KX) A "put_in" "Row.put_in" My.s_Row_put_in ∧ My.FnM (My.KOf KX) A "take_out" "Row.take_out" My.s_Row_take_out ∧ My.FnM (My.KOf KX) A "close" "Row.close" My.s_Row_close ∧ My.FnM (My.KOf KX) A "finished" "Row.finished" My.s_Row_finished := by
      dsimp only [My.KOf]
      refine' ⟨_, My.kl_mk ?a ?pg ?hd ?po ?sa ?mk ?kc, My.noattr_mk ?n0, My.noattr_mk ?n1, My.noattr_mk ?n2, My.noattr_mk ?n3, My.fnm_mk ?ma0 ?mi0 ?ml0 ?mc0 ?mk0, My.fnm_mk ?ma1 ?mi1 ?ml1 ?mc1 ?mk1, My.fnm_mk ?ma2 ?mi2 ?ml2 ?mc2 ?mk2, My.fnm_mk ?ma3 ?mi3 ?ml3 ?mc3 ?mk3, My.fnm_mk ?ma4 ?mi4 ?ml4 ?mc4 ?mk4, My.fnm_mk ?ma5 ?mi5 ?ml5 ?mc5 ?mk5⟩
      (case a => k_is)
      (case pg => k_is)
      (case hd => k_is)
      (case po => k_is)
      (case sa => k_is)
      (case mk => k_is)
      (case kc => k_is)
      (case n0 => k_is)
      (case n1 => k_is)
      (case n2 => k_is)
      (case n3 => k_is)
      (case ma0 => k_is)
      (case mi0 => k_is)
      (case ml0 => k_is)
      (case mc0 => k_is)
      (case mk0 => k_is)
      (case ma1 => k_is)
      (case mi1 => k_is)
      (case ml1 => k_is)
      (case mc1 => k_is)
      (case mk1 => k_is)
      (case ma2 => k_is)
      (case mi2 => k_is)
      (case ml2 => k_is)
      (case mc2 => k_is)
      (case mk2 => k_is)
      (case ma3 => k_is)
      (case mi3 => k_is)
      (case ml3 => k_is)
      (case mc3 => k_is)
      (case mk3 => k_is)
      (case ma4 => k_is)
      (case mi4 => k_is)
      (case ml4 => k_is)
      (case mc4 => k_is)
      (case mk4 => k_is)
      (case ma5 => k_is)
      (case mi5 => k_is)
      (case ml5 => k_is)
      (case mc5 => k_is)
      (case mk5 => k_is)
    have t_kC : ∃ A, My.Kl (My.KOf KX) "Cursor" A ∧ L2.NoAttr (My.KOf KX) A "edit" ∧ L2.NoAttr (My.KOf KX) A "place" ∧ L2.NoAttr (My.KOf KX) A "kind" ∧ L2.NoAttr (My.KOf KX) A "left" ∧ My.FnM (My.KOf KX) A "__init__" "Cursor.__init__" My.s_Cursor_init ∧ My.FnM (My.KOf KX) A "enter_step" "Cursor.enter_step" My.s_Cursor_enter_step ∧ My.FnM (My.KOf KX) A "go_on" "Cursor.go_on" My.s_Cursor_go_on := by
      dsimp only [My.KOf]
      refine' ⟨_, My.kl_mk ?a ?pg ?hd ?po ?sa ?mk ?kc, My.noattr_mk ?n0, My.noattr_mk ?n1, My.noattr_mk ?n2, My.noattr_mk ?n3, My.fnm_mk ?ma0 ?mi0 ?ml0 ?mc0 ?mk0, My.fnm_mk ?ma1 ?mi1 ?ml1 ?mc1 ?mk1, My.fnm_mk ?ma2 ?mi2 ?ml2 ?mc2 ?mk2⟩
      (case a => k_is)
      (case pg => k_is)
      (case hd => k_is)
      (case po => k_is)
      (case sa => k_is)
      (case mk => k_is)
      (case kc => k_is)
      (case n0 => k_is)
      (case n1 => k_is)
      (case n2 => k_is)
      (case n3 => k_is)
      (case ma0 => k_is)
      (case mi0 => k_is)
      (case ml0 => k_is)
      (case mc0 => k_is)
      (case mk0 => k_is)
      (case ma1 => k_is)
      (case mi1 => k_is)
      (case ml1 => k_is)
      (case mc1 => k_is)
      (case mk1 => k_is)
      (case ma2 => k_is)
      (case mi2 => k_is)
      (case ml2 => k_is)
      (case mc2 => k_is)
      (case mk2 => k_is)
    have t_kH : ∃ A, My.Kl (My.KOf KX) "Hand" A ∧ L2.NoAttr (My.KOf KX) A "text" ∧ L2.NoAttr (My.KOf KX) A "revision" ∧ L2.NoAttr (My.KOf KX) A "out" ∧ L2.NoAttr (My.KOf KX) A "kept_back" ∧ My.FnM (My.KOf KX) A "__init__" "Hand.__init__" My.s_Hand_init ∧ My.FnM (My.KOf KX) A "change" "Hand.change" My.s_Hand_change ∧ My.FnM (My.KOf KX) A "length_without_own" "Hand.length_without_own" My.s_Hand_length_without_own ∧ My.FnM (My.KOf KX) A "follow" "Hand.follow" My.s_Hand_follow ∧ My.FnM (My.KOf KX) A "confirm" "Hand.confirm" My.s_Hand_confirm ∧ PySem.W.findIn (My.KOf KX) (.ref A) "__class__" = some (some (.builtin "object.__class__")) ∧ PySem.W.mroIn (My.KOf KX) A (.type "object") = some true ∧ PySem.W.kitOne (My.KOf KX) (.ref A) (.ref A) = some true := by
      dsimp only [My.KOf]
      refine' ⟨_, My.kl_mk ?a ?pg ?hd ?po ?sa ?mk ?kc, My.noattr_mk ?n0, My.noattr_mk ?n1, My.noattr_mk ?n2, My.noattr_mk ?n3, My.fnm_mk ?ma0 ?mi0 ?ml0 ?mc0 ?mk0, My.fnm_mk ?ma1 ?mi1 ?ml1 ?mc1 ?mk1, My.fnm_mk ?ma2 ?mi2 ?ml2 ?mc2 ?mk2, My.fnm_mk ?ma3 ?mi3 ?ml3 ?mc3 ?mk3, My.fnm_mk ?ma4 ?mi4 ?ml4 ?mc4 ?mk4, ?ic, ?mo, My.kit_self⟩
      (case a => k_is)
      (case pg => k_is)
      (case hd => k_is)
      (case po => k_is)
      (case sa => k_is)
      (case mk => k_is)
      (case kc => k_is)
      (case n0 => k_is)
      (case n1 => k_is)
      (case n2 => k_is)
      (case n3 => k_is)
      (case ma0 => k_is)
      (case mi0 => k_is)
      (case ml0 => k_is)
      (case mc0 => k_is)
      (case mk0 => k_is)
      (case ma1 => k_is)
      (case mi1 => k_is)
      (case ml1 => k_is)
      (case mc1 => k_is)
      (case mk1 => k_is)
      (case ma2 => k_is)
      (case mi2 => k_is)
      (case ml2 => k_is)
      (case mc2 => k_is)
      (case mk2 => k_is)
      (case ma3 => k_is)
      (case mi3 => k_is)
      (case ml3 => k_is)
      (case mc3 => k_is)
      (case mk3 => k_is)
      (case ma4 => k_is)
      (case mi4 => k_is)
      (case ml4 => k_is)
      (case mc4 => k_is)
      (case mk4 => k_is)
      (case ic => k_is)
      (case mo => k_is)
    have t_kS : ∃ A, My.Kl (My.KOf KX) "Host" A ∧ L2.NoAttr (My.KOf KX) A "text" ∧ L2.NoAttr (My.KOf KX) A "edits" ∧ My.FnM (My.KOf KX) A "__init__" "Host.__init__" My.s_Host_init ∧ My.FnM (My.KOf KX) A "length_as_of" "Host.length_as_of" My.s_Host_length_as_of ∧ My.FnM (My.KOf KX) A "turned_since" "Host.turned_since" My.s_Host_turned_since ∧ My.FnM (My.KOf KX) A "put_in_order" "Host.put_in_order" My.s_Host_put_in_order ∧ PySem.W.findIn (My.KOf KX) (.ref A) "__class__" = some (some (.builtin "object.__class__")) ∧ PySem.W.mroIn (My.KOf KX) A (.type "object") = some true ∧ PySem.W.kitOne (My.KOf KX) (.ref A) (.ref A) = some true := by
      dsimp only [My.KOf]
      refine' ⟨_, My.kl_mk ?a ?pg ?hd ?po ?sa ?mk ?kc, My.noattr_mk ?n0, My.noattr_mk ?n1, My.fnm_mk ?ma0 ?mi0 ?ml0 ?mc0 ?mk0, My.fnm_mk ?ma1 ?mi1 ?ml1 ?mc1 ?mk1, My.fnm_mk ?ma2 ?mi2 ?ml2 ?mc2 ?mk2, My.fnm_mk ?ma3 ?mi3 ?ml3 ?mc3 ?mk3, ?ic, ?mo, My.kit_self⟩
      (case a => k_is)
      (case pg => k_is)
      (case hd => k_is)
      (case po => k_is)
      (case sa => k_is)
      (case mk => k_is)
      (case kc => k_is)
      (case n0 => k_is)
      (case n1 => k_is)
      (case ma0 => k_is)
      (case mi0 => k_is)
      (case ml0 => k_is)
      (case mc0 => k_is)
      (case mk0 => k_is)
      (case ma1 => k_is)
      (case mi1 => k_is)
      (case ml1 => k_is)
      (case mc1 => k_is)
      (case mk1 => k_is)
      (case ma2 => k_is)
      (case mi2 => k_is)
      (case ml2 => k_is)
      (case mc2 => k_is)
      (case mk2 => k_is)
      (case ma3 => k_is)
      (case mi3 => k_is)
      (case ml3 => k_is)
      (case mc3 => k_is)
      (case mk3 => k_is)
      (case ic => k_is)
      (case mo => k_is)
    have t_in : PySem.W.specialIn (My.KOf KX) (.builtin "object.__class__") "__get__" = some (some (.builtin "getset_descriptor.__get__")) := by
      dsimp only [My.KOf]
      k_is
    have t_it : PySem.W.takesIn (My.KOf KX) (.builtin "object.__class__") = some true := by
      dsimp only [My.KOf]
      k_is
    have t_kit : ∃ A B, PySem.W.nsIn (My.KOf KX) mainGlobals "Hand" = some (some (.ref A)) ∧ PySem.W.nsIn (My.KOf KX) mainGlobals "Host" = some (some (.ref B)) ∧ PySem.W.kitOne (My.KOf KX) (.ref A) (.ref B) = some false := by
      dsimp only [My.KOf]
      refine' My.kit_mk ?a ?b ?c ?t ?s ?ne
      (case a => k_is)
      (case b => k_is)
      (case c => k_is)
      (case t => k_is)
      (case s => k_is)
      (case ne => rfl)
    have t_kit2 : ∃ A B, PySem.W.nsIn (My.KOf KX) mainGlobals "Hand" = some (some (.ref A)) ∧ PySem.W.nsIn (My.KOf KX) mainGlobals "Host" = some (some (.ref B)) ∧ PySem.W.kitOne (My.KOf KX) (.ref B) (.ref A) = some false := by
      dsimp only [My.KOf]
      refine' My.kit_mk2 ?a ?b ?c ?t ?s ?ne
      (case a => k_is)
      (case b => k_is)
      (case c => k_is)
      (case t => k_is)
      (case s => k_is)
      (case ne => rfl)
    have t_shp : My.ShpK (My.KOf KX) := by
      dsimp only [My.KOf]
      refine' My.shp_mk ?zg ?zl ?zc ?zi (My.sq_pair ?zl0 ?zc0 ?zh0) (My.sq_pair ?zl1 ?zc1 ?zh1) (My.sq_pair ?zl2 ?zc2 ?zh2) (My.sq_pair ?zl3 ?zc3 ?zh3) (My.sq_pair ?zl4 ?zc4 ?zh4) (My.sq_pair ?zl5 ?zc5 ?zh5) (My.sq_pair ?zl6 ?zc6 ?zh6) (My.sq_pair ?zl7 ?zc7 ?zh7) (My.sq_pair ?zl8 ?zc8 ?zh8) (My.sq_pair ?zl9 ?zc9 ?zh9) (My.sq_pair ?zl10 ?zc10 ?zh10) (My.sq_pair ?zl11 ?zc11 ?zh11) (My.sq_pair ?zl12 ?zc12 ?zh12)
      (case zg => k_is)
      (case zl => k_is)
      (case zc => rfl)
      (case zi => rfl)
      (case zl0 => k_is)
      (case zc0 => rfl)
      (case zh0 => rfl)
      (case zl1 => k_is)
      (case zc1 => rfl)
      (case zh1 => rfl)
      (case zl2 => k_is)
      (case zc2 => rfl)
      (case zh2 => rfl)
      (case zl3 => k_is)
      (case zc3 => rfl)
      (case zh3 => rfl)
      (case zl4 => k_is)
      (case zc4 => rfl)
      (case zh4 => rfl)
      (case zl5 => k_is)
      (case zc5 => rfl)
      (case zh5 => rfl)
      (case zl6 => k_is)
      (case zc6 => rfl)
      (case zh6 => rfl)
      (case zl7 => k_is)
      (case zc7 => rfl)
      (case zh7 => rfl)
      (case zl8 => k_is)
      (case zc8 => rfl)
      (case zh8 => rfl)
      (case zl9 => k_is)
      (case zc9 => rfl)
      (case zh9 => rfl)
      (case zl10 => k_is)
      (case zc10 => rfl)
      (case zh10 => rfl)
      (case zl11 => k_is)
      (case zc11 => rfl)
      (case zh11 => rfl)
      (case zl12 => k_is)
      (case zc12 => rfl)
      (case zh12 => rfl)
    obtain ⟨A_kR, v_kR, v_r1, v_r2, v_r3, v_r4, v_m_ri, v_m_rk, v_m_rp, v_m_rd, v_m_rc, v_m_rf⟩ := t_kR
    obtain ⟨A_kC, v_kC, v_u1, v_u2, v_u3, v_u4, v_m_ci, v_m_ce, v_m_cg⟩ := t_kC
    obtain ⟨A_kH, v_kH, v_h1, v_h2, v_h3, v_h4, v_m_hi, v_m_hc, v_m_hl, v_m_hf, v_m_hk, v_iH, v_mH, v_kitHH⟩ := t_kH
    obtain ⟨A_kS, v_kS, v_s1, v_s2, v_m_si, v_m_sl, v_m_st, v_m_sp, v_iS, v_mS, v_kitS⟩ := t_kS
    obtain ⟨B1, B2, e1, e2, e3⟩ := t_kit
    have q1 := v_kH.ns.symm.trans e1
    have q2 := v_kS.ns.symm.trans e2
    cases q1; cases q2
    obtain ⟨B3, B4, e4, e5, e6⟩ := t_kit2
    have q3 := v_kH.ns.symm.trans e4
    have q4 := v_kS.ns.symm.trans e5
    cases q3; cases q4
    have T : My.Txt (My.KOf KX) A_kR A_kC A_kH A_kS := ⟨t_c1, t_c2, t_c3, t_c0, t_cT, t_c5, t_cA, t_cN, t_cF, t_cL, t_cM, t_cE, t_cR, t_cX, t_o0, t_o1, t_o2, t_o3, t_e0, t_e1, t_e2, t_e3, t_e5, t_e6, t_e7, t_e8, t_e9, t_e10, t_e11, t_blen, t_bmin, t_bmax, t_bsum, t_bisi, t_f_lb, t_f_la, t_f_num, t_f_bon, t_f_step, t_f_may, t_f_efb, t_f_boe, v_kR, v_r1, v_r2, v_r3, v_r4, v_m_ri, v_m_rk, v_m_rp, v_m_rd, v_m_rc, v_m_rf, v_kC, v_u1, v_u2, v_u3, v_u4, v_m_ci, v_m_ce, v_m_cg, t_f_app, t_f_und, t_f_cc, t_f_cmp, t_f_tp, t_f_tc, t_f_trn, t_f_bel, t_f_btl, t_f_cnt, t_f_chk, t_f_ref, t_f_att, t_f_uot, t_f_com, t_f_tur, t_f_tpo, v_kH, v_h1, v_h2, v_h3, v_h4, v_m_hi, v_m_hc, v_m_hl, v_m_hf, v_m_hk, v_kS, v_s1, v_s2, v_m_si, v_m_sl, v_m_st, v_m_sp, v_iH, v_iS, t_in, t_it, v_mH, v_mS, e3, v_kitS, v_kitHH, e6, t_f_bg, t_f_eh, t_f_fr, t_f_rem, t_f_cfd, t_f_rec, t_f_txt, t_f_rev, t_f_sta, t_f_rr, t_f_abi, t_f_aoo, t_f_ans, t_f_all⟩
    exact My.last KX G hmg T t_shp
  case S =>
    intro K H xs a hO hwi hask hx
    cases hx with
    | cons h1 h2 =>
      cases h2
      cases h1 with
      | lst hs ha =>
        have e := L2.ints_dw a.1 _ ha
        subst e
        exact ⟨_, a.1, rfl, hs, hask, fun H' p hp => .lst (L2.SqL.of hp) (L2.dw_ints _)⟩
