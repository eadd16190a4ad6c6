import PyProof.Rows.All
import Wide.All
import OpenK.AllK
import Wide.FinOn
import PyProof.EqAt
import PyProof.EqKinds
import PyProof.TupleCall
import KE.BitLaws
import KE.OsGo
import PySem.Challenge.RW_postnames_s01_text
set_option linter.all false
set_option Elab.async false
set_option maxRecDepth 100000
section
set_option Elab.async false
set_option linter.all false
set_option maxRecDepth 100000
namespace L2
open PySem PySem.Spec PyProof.Rows
abbrev Key := Sum Int Str
def keyIs : Key → Value → Bool
  | .inl k, v => Value.isInt k v
  | .inr x, v => Value.isStrOf x v
def keyH (w : World) : Key → Int
  | .inl k => hashInt k
  | .inr x => hashStr w x
theorem keyIs_shape : ∀ {k : Key} {v : Value}, keyIs k v = true → (∃ i t, k = Sum.inl i ∧ v = Value.int i t) ∨ (∃ x t, k = Sum.inr x ∧ v = Value.str x t)
  | .inl i, v, h => by
    obtain ⟨t, e⟩ := Value.isInt_shape (k := i) (v := v) h
    exact .inl ⟨i, t, rfl, e⟩
  | .inr x, v, h => by
    obtain ⟨t, e⟩ := Value.isStrOf_shape (x := x) (v := v) h
    exact .inr ⟨x, t, rfl, e⟩
theorem keyIs_int (i : Int) (t : Tok) : keyIs (.inl i) (.int i t) = true := by simp [keyIs, Value.isInt]
theorem keyIs_str (x : Str) (t : Tok) : keyIs (.inr x) (.str x t) = true := by simp [keyIs, Value.isStrOf]
theorem key_ll (a b : Int) : decide ((Sum.inl a : Key) = Sum.inl b) = (a == b) := by
  by_cases e : a = b
  · subst e; simp
  · have h : ¬ (Sum.inl a : Key) = Sum.inl b := fun q => e (Sum.inl.inj q)
    rw [decide_eq_false h]
    exact (beq_eq_false_iff_ne.mpr e).symm
theorem key_rr (a b : Str) : decide ((Sum.inr a : Key) = Sum.inr b) = decide (a = b) := by
  by_cases e : a = b
  · subst e; simp
  · have h : ¬ (Sum.inr a : Key) = Sum.inr b := fun q => e (Sum.inr.inj q)
    rw [decide_eq_false h, decide_eq_false e]
theorem key_lr (a : Int) (b : Str) : decide ((Sum.inl a : Key) = Sum.inr b) = false := decide_eq_false (fun q => nomatch q)
theorem key_rl (a : Str) (b : Int) : decide ((Sum.inr a : Key) = Sum.inl b) = false := decide_eq_false (fun q => nomatch q)
def mixKind (prog : Program) (w : World) : PySem.KeyKind prog w Key where
  is := keyIs
  hash := keyH w
  inj := fun v a b ha hb => by
    rcases keyIs_shape ha with ⟨i, t, rfl, rfl⟩ | ⟨x, t, rfl, rfl⟩
    · rcases keyIs_shape hb with ⟨j, u, rfl, e⟩ | ⟨y, u, rfl, e⟩
      · injection e with e1 _; rw [e1]
      · exact nomatch e
    · rcases keyIs_shape hb with ⟨j, u, rfl, e⟩ | ⟨y, u, rfl, e⟩
      · exact nomatch e
      · injection e with e1 _; rw [e1]
  byValue := fun k v h => by
    rcases keyIs_shape h with ⟨i, t, rfl, rfl⟩ | ⟨x, t, rfl, rfl⟩ <;> rfl
  pyHash := fun hv h => by
    rcases keyIs_shape hv with ⟨i, t, rfl, rfl⟩ | ⟨x, t, rfl, rfl⟩
    · exact wpAny_pyHash_int h
    · exact wpAny_pyHash_str h
  eqBool := fun hu hv h => by
    rcases keyIs_shape hu with ⟨i, t, rfl, rfl⟩ | ⟨x, t, rfl, rfl⟩
    · rcases keyIs_shape hv with ⟨j, u, rfl, rfl⟩ | ⟨y, u, rfl, rfl⟩
      · rw [key_ll] at h; exact wpAny_eqBool_int h
      · rw [key_lr] at h; exact SeqAt.EqAt.int_str i t y u _ _ _ _ h
    · rcases keyIs_shape hv with ⟨j, u, rfl, rfl⟩ | ⟨y, u, rfl, rfl⟩
      · rw [key_rl] at h; exact SeqAt.EqAt.str_int x t j u _ _ _ _ h
      · rw [key_rr] at h; exact wpAny_eqBool_str h
  «strs» := fun k x t v h => by
    rcases keyIs_shape h with ⟨i, u, rfl, e⟩ | ⟨y, u, rfl, e⟩
    · exact nomatch e
    · injection e with e1 _
      subst e1
      cases v <;> rfl
theorem mixKind_int (prog : Program) (w : World) (i : Int) (t : Tok) : (mixKind prog w).is (.inl i) (.int i t) = true := keyIs_int i t
theorem mixKind_str (prog : Program) (w : World) (x : Str) (t : Tok) : (mixKind prog w).is (.inr x) (.str x t) = true := keyIs_str x t
end L2
namespace L2
open PySem PySem.Spec PyProof.Rows
inductive V where
  | non | bl (b : Bool) | int (i : Int) | str (x : Str) | byt (b : Array UInt8) | flt (b : UInt64) | ref (a : Addr) | ty (n : String)
  deriving DecidableEq
def RelV : V → Value → Prop
  | .non, u => u = Value.none
  | .bl b, u => u = Value.bool b
  | .int i, u => ∃ t, u = Value.int i t
  | .str x, u => ∃ t, u = Value.str x t
  | .byt b, u => ∃ t, u = Value.bytes b t
  | .flt b, u => ∃ t, u = Value.float b t
  | .ref a, u => u = Value.ref a
  | .ty n, u => u = Value.type n
abbrev Vals : List V → List Value → Prop := Paired RelV
theorem Vals.length {xs : List V} {us : List Value} (r : Vals xs us) : xs.length = us.length := Paired.length r
theorem Vals.get : ∀ {xs : List V} {us : List Value} {i : Nat} {x : V}, Vals xs us → xs[i]? = some x → ∃ u, us[i]? = some u ∧ RelV x u
  | _, _, _, _, .nil, e => by simp at e
  | _, _, 0, _, .cons r _, e => by simp at e; subst e; exact ⟨_, rfl, r⟩
  | _, _, i + 1, x, .cons _ t, e => by
    obtain ⟨u, h1, h2⟩ := Vals.get (i := i) (x := x) t (by simpa using e)
    exact ⟨u, by simpa using h1, h2⟩
theorem Vals.append : ∀ {xs ys : List V} {us ws : List Value}, Vals xs us → Vals ys ws → Vals (xs ++ ys) (us ++ ws)
  | _, _, _, _, .nil, s => s
  | _, _, _, _, .cons r t, s => .cons r (Vals.append t s)
theorem Vals.take : ∀ {xs : List V} {us : List Value} (n : Nat), Vals xs us → Vals (xs.take n) (us.take n)
  | _, _, 0, _ => .nil
  | _, _, _ + 1, .nil => .nil
  | _, _, n + 1, .cons r t => .cons r (Vals.take n t)
theorem Vals.drop : ∀ {xs : List V} {us : List Value} (n : Nat), Vals xs us → Vals (xs.drop n) (us.drop n)
  | _, _, 0, r => r
  | _, _, _ + 1, .nil => .nil
  | _, _, n + 1, .cons _ t => Vals.drop n t
def RelO : Option V → Option Value → Prop
  | some v, some u => RelV v u
  | none, none => True
  | _, _ => False
def KV {κ : Type} : List (κ × V) → List (κ × Value) → Prop := Paired fun (p : κ × V) (q : κ × Value) => p.1 = q.1 ∧ RelV p.2 q.2
def kV : Key → V
  | .inl i => .int i
  | .inr x => .str x
inductive HO where
  /-- a list -/
  | lst (xs : List V)
  /-- a tuple (never changes) -/
  | tup (xs : List V)
  /-- a dict whose keys are ints and texts; one whose keys are tuples of ints and texts (the empty one is both) -/
  | dK (kvs : List (Key × V)) | dT (kvs : List (List Key × V))
  /-- a set of ints: its members, its size -/
  | set (S : Int → Bool) (n : Nat)
  /-- an instance of the class at C, its dict at dx, its attributes -/
  | ins (C dx : Addr) (fs : List (Str × V))
  /-- the dict of the instance at x -/
  | own (x : Addr)
  /-- the dict of an exception -/
  | xd (fs : List (Str × V))
  /-- a bound method, f of x -/
  | met (f x : Addr)
  /-- a range object lo, lo + 1, .. below hi -/
  | rng (lo hi : Int)
  /-- a thing that is known to the object (the script; a dict while a loop walks it): read, never written while it is so -/
  | frz (o : Obj) (u : HO)
  /-- a code object's table -/
  | tbl (ps : Array Value)
  /-- any other thing, by what is true of its one object (a def of one's own: SetO a S n := HO.ext fun h => ..) -/
  | ext (φ : Heap → Prop)
abbrev Hp := Addr → Option HO
def upd (H : Hp) (a : Addr) (o : HO) : Hp := fun b => if b = a then some o else H b
theorem upd_same {H : Hp} {a : Addr} {o : HO} : upd H a o a = some o := by unfold upd; rw [if_pos rfl]
theorem upd_ne {H : Hp} {a b : Addr} {o : HO} (h : b ≠ a) : upd H a o b = H b := by unfold upd; rw [if_neg h]
theorem ne_of {H : Hp} {a b : Addr} {o u : HO} (h : H a = some o) (h' : H b = some u) (d : o ≠ u) : a ≠ b := by
  intro e; subst e; rw [h] at h'; exact d (Option.some.inj h')
theorem ne_of_none {H : Hp} {a b : Addr} {o : HO} (h : H a = some o) (h' : H b = none) : a ≠ b := by
  intro e; subst e; rw [h] at h'; cases h'
section
variable (P : Program) (w : World)
def ObjOk (H : Hp) (h : Heap) (a : Addr) : HO → Prop
  | .lst xs => xs.length ≤ sizeLine ∧ ∃ (its : List Value) (n : Nat), Vals xs its ∧ h.get? a = some { cls := .type "list", data := .seq its.toArray n }
  | .tup xs => xs.length ≤ sizeLine ∧ ∃ its : List Value, Vals xs its ∧ IsTup h a its.toArray
  | .dK kvs => kvs.length ≤ sizeLine ∧ (a == sysModules) = false ∧ ∃ vs, KV kvs vs ∧ h.DictOf (mixKind P w) a vs
  | .dT kvs => kvs.length ≤ sizeLine ∧ (a == sysModules) = false ∧ ∃ xs : List (List Key × Addr × Value),
      Paired (fun (p : List Key × V) (q : List Key × Addr × Value) => p.1 = q.1 ∧ H q.2.1 = some (.tup (p.1.map kV)) ∧ RelV p.2 q.2.2) kvs xs ∧
      ∃ o es ep, h.get? a = some o ∧ o.ExactDict ∧ o.data = .dict es ep ∧ es.toList = xs.map (entryOfKey (tupleKind (mixKind P w))) ∧ (xs.map (·.1)).Nodup
  | .set S n => h.SetOf (intKind P w) a S n
  | .ins C dx fs => H dx = some (.own a) ∧ fs.length ≤ 1000 ∧ dx ≠ a ∧ h.get? a = some (PySem.W.instObj C dx) ∧
      ∃ mA, h.Ns1 dx mA ∧ (∀ f, RelO (fs.lookup f) (mA f)) ∧ PySem.Within mA (fs.map (·.1))
  | .own _ => ∃ o, h.get? a = some o
  | .xd fs => ∃ mA, h.Ns1 a mA ∧ ∀ f, RelO (fs.lookup f) (mA f)
  | .rng lo hi => ∃ t u v, h.get? a = some { cls := .type "range", data := .fields #[.int lo t, .int hi u, .int 1 v] }
  | .frz o u => h.get? a = some o ∧ ObjOk H h a u
  | .tbl ps => h.get? a = some { cls := .none, data := .fields ps }
  | .met f x => h.get? a = some (PySem.W.methodObj (.ref f) (.ref x))
  | .ext φ => φ h ∧ (∃ o, h.get? a = some o) ∧ ∀ h1 h2 : Heap, φ h1 → (∀ o, h1.get? a = some o → h2.get? a = some o) → φ h2
def HOk (H : Hp) (h : Heap) : Prop := ∀ a o, H a = some o → ObjOk P w H h a o
end
section
variable {P : Program} {w : World} {H H' : Hp} {h h' : Heap} {a : Addr} {o : HO}
theorem ObjOk.lt (x : ObjOk P w H h a o) : a < h.objs.size := by
  cases o with
  | lst xs => obtain ⟨_, _, _, _, e⟩ := x; exact Heap.lt_size e
  | tup xs => obtain ⟨_, _, _, p⟩ := x; exact p.lt
  | dK kvs => obtain ⟨_, _, _, _, o, _, _, e, _⟩ := x; exact Heap.lt_size e
  | dT kvs => obtain ⟨_, _, _, _, o, _, _, e, _⟩ := x; exact Heap.lt_size e
  | set S n => obtain ⟨o, _, _, _, e, _⟩ := x; exact Heap.lt_size e
  | ins C dx fs => obtain ⟨_, _, _, e, _⟩ := x; exact Heap.lt_size e
  | own y => obtain ⟨_, e⟩ := x; exact Heap.lt_size e
  | xd fs => obtain ⟨_, ⟨_, _, _, e, _⟩, _⟩ := x; exact Heap.lt_size e
  | rng lo hi => obtain ⟨_, _, _, e⟩ := x; exact Heap.lt_size e
  | frz ob u => obtain ⟨e, _⟩ := x; exact Heap.lt_size e
  | tbl ps => exact Heap.lt_size (show h.get? a = some _ from x)
  | met f y => exact Heap.lt_size (show h.get? a = some _ from x)
  | ext φ => obtain ⟨_, ⟨_, e⟩, _⟩ := x; exact Heap.lt_size e
theorem Paired.mapP {α β : Type} {F G : α → β → Prop} : ∀ {l₁ : List α} {l₂ : List β}, Paired F l₁ l₂ → (∀ a b, F a b → G a b) → Paired G l₁ l₂
  | _, _, .nil, _ => .nil
  | _, _, .cons r t, f => .cons (f _ _ r) (Paired.mapP t f)
theorem ObjOk.stay (x : ObjOk P w H h a o) (k : ∀ b u, (b = a ∨ H b = some (.own a)) → h.get? b = some u → h'.get? b = some u)
    (ho : ∀ b, H b = some (.own a) → H' b = some (.own a)) (ht : ∀ b xs, H b = some (.tup xs) → H' b = some (.tup xs)) : ObjOk P w H' h' a o := by
  induction o with
  | lst xs => obtain ⟨z, its, n, r, e⟩ := x; exact ⟨z, its, n, r, k _ _ (.inl rfl) e⟩
  | tup xs => obtain ⟨z, its, r, ob, e, c⟩ := x; exact ⟨z, its, r, ob, k _ _ (.inl rfl) e, c⟩
  | dK kvs => obtain ⟨z, y, vs, r, ob, es, ep, e, c⟩ := x; exact ⟨z, y, vs, r, ob, es, ep, k _ _ (.inl rfl) e, c⟩
  | dT kvs =>
    obtain ⟨z, y, xs, r, ob, es, ep, e, c⟩ := x
    exact ⟨z, y, xs, Paired.mapP r fun p q z => ⟨z.1, ht _ _ z.2.1, z.2.2⟩, ob, es, ep, k _ _ (.inl rfl) e, c⟩
  | set S n => obtain ⟨ob, es, ep, t, e, c⟩ := x; exact ⟨ob, es, ep, t, k _ _ (.inl rfl) e, c⟩
  | ins C dx fs =>
    obtain ⟨d, z, ne, e, mA, ⟨od, es, ep, e2, c⟩, r⟩ := x
    exact ⟨ho _ d, z, ne, k _ _ (.inl rfl) e, mA, ⟨od, es, ep, k _ _ (.inr d) e2, c⟩, r⟩
  | own y => obtain ⟨ob, e⟩ := x; exact ⟨ob, k _ _ (.inl rfl) e⟩
  | xd fs => obtain ⟨mA, ⟨od, es, ep, e, c⟩, r⟩ := x; exact ⟨mA, ⟨od, es, ep, k _ _ (.inl rfl) e, c⟩, r⟩
  | rng lo hi => obtain ⟨t, u, v, e⟩ := x; exact ⟨t, u, v, k _ _ (.inl rfl) e⟩
  | frz ob u ih => obtain ⟨e, q⟩ := x; exact ⟨k _ _ (.inl rfl) e, ih q⟩
  | tbl ps =>
    have e : h.get? a = some { cls := .none, data := .fields ps } := x
    show h'.get? a = some { cls := .none, data := .fields ps }
    exact k a _ (.inl rfl) e
  | met f y =>
    have e : h.get? a = some (PySem.W.methodObj (.ref f) (.ref y)) := x
    show h'.get? a = some (PySem.W.methodObj (.ref f) (.ref y))
    exact k a _ (.inl rfl) e
  | ext φ => obtain ⟨p, ⟨o, e⟩, st⟩ := x; exact ⟨st _ _ p fun o q => k _ _ (.inl rfl) q, ⟨o, k _ _ (.inl rfl) e⟩, st⟩
theorem HOk.lt (x : HOk P w H h) (e : H a = some o) : a < h.objs.size := (x a o e).lt
theorem HOk.fresh (x : HOk P w H h) (e : h.objs.size ≤ a) : H a = none := by
  cases q : H a with
  | none => rfl
  | some u => exact absurd (Nat.lt_of_lt_of_le (x.lt q) e) (Nat.lt_irrefl _)
theorem HOk.kept (x : HOk P w H h) (k : ∀ b u, h.get? b = some u → h'.get? b = some u) : HOk P w H h' := fun a o e =>
  (x a o e).stay (fun b u _ q => k b u q) (fun _ q => q) fun _ _ q => q
theorem HOk.laid (x : HOk P w H h) (k : ∀ b u, h.get? b = some u → h'.get? b = some u) (hp : h.objs.size ≤ a) (new : ObjOk P w (upd H a o) h' a o) : HOk P w (upd H a o) h' := fun b u e => by
  have hn := x.fresh hp
  by_cases hb : b = a
  · subst hb; rw [upd_same] at e; cases e; exact new
  · rw [upd_ne hb] at e
    exact (x b u e).stay (fun c v _ q => k c v q) (fun c q => by rw [upd_ne (ne_of_none q hn)]; exact q) fun c xs q => by rw [upd_ne (ne_of_none q hn)]; exact q
end
def Rd (H : Hp) (a : Addr) (u : HO) : Prop := H a = some u ∨ ∃ o, H a = some (.frz o u)
theorem Rd.ok {P : Program} {w : World} {H : Hp} {h : Heap} {a : Addr} {u : HO} (r : Rd H a u) (x : HOk P w H h) : ObjOk P w H h a u := by
  rcases r with r | ⟨o, r⟩
  · exact x a u r
  · obtain ⟨_, q⟩ := x a _ r
    exact q
def Mut : Option HO → Prop
  | some (.lst _) => True
  | some (.dK _) => True
  | some (.dT _) => True
  | some (.set _ _) => True
  | some (.ins _ _ _) => True
  | some (.ext _) => True
  | _ => False
section
variable {P : Program} {w : World} {H : Hp} {h h' : Heap} {x e : Addr} {o' : HO}
theorem HOk.write (ok : HOk P w H h) (mu : Mut (H x)) (he : e = x ∨ H e = some (.own x)) (k : ∀ b u, b ≠ e → h.get? b = some u → h'.get? b = some u) (heo : ∃ u, h'.get? e = some u)
    (new : ObjOk P w (upd H x o') h' x o') : HOk P w (upd H x o') h' := fun b u q => by
  have nown : ∀ c y, H c = some (.own y) → c ≠ x := fun c y r z => by subst z; rw [r] at mu; exact mu
  have ntup : ∀ c xs, H c = some (.tup xs) → c ≠ x := fun c xs r z => by subst z; rw [r] at mu; exact mu
  by_cases hb : b = x
  · subst hb; rw [upd_same] at q; cases q; exact new
  · rw [upd_ne hb] at q
    by_cases hbe : b = e
    · have q' : H b = some (.own x) := by
        rcases he with z | z
        · exact absurd (hbe.trans z) hb
        · rw [hbe]; exact z
      rw [q] at q'; cases q'
      obtain ⟨v, hv⟩ := heo
      exact ⟨v, by rw [hbe]; exact hv⟩
    · refine (ok b u q).stay (fun c v hc r => k c v ?_ r) (fun c r => by rw [upd_ne (nown c b r)]; exact r) fun c xs r => by rw [upd_ne (ntup c xs r)]; exact r
      rcases hc with rfl | hc
      · exact hbe
      · rintro rfl
        rcases he with z | z
        · exact nown c b hc z
        · rw [hc] at z; cases z; exact hb rfl
end
structure Un (fs ex : List Addr) (H H' : Hp) (h h' : Heap) : Prop where
  keep : ∀ b o, h.get? b = some o → H b = none → b ∉ fs → b ∉ ex → h'.get? b = some o
  slot : ∀ b o, h.get? b = some o → H b = none → b ∈ fs → b ∉ ex → ∃ sl, h'.get? b = some { o with slots := sl }
  free : ∀ b o, h.get? b = some o → H b = none → b ∉ ex → H' b = none
  there : ∀ b o, h.get? b = some o → b ∉ ex → ∃ o', h'.get? b = some o'
  tups : ∀ b xs, H b = some (.tup xs) → H' b = some (.tup xs)
  frzs : ∀ b o u, H b = some (.frz o u) → H' b = some (.frz o u)
  tbls : ∀ b ps, H b = some (.tbl ps) → ∃ more, H' b = some (.tbl (ps ++ more))
section
variable {fs fs' ex ex' : List Addr} {H H1 H2 : Hp} {h h1 h2 h' : Heap} {a x e : Addr} {o : HO}
theorem Un.any (u : Un fs ex H H1 h h1) {b : Addr} {ob : Obj} (q : h.get? b = some ob) (n : H b = none) (hx : b ∉ ex) : ∃ sl, h1.get? b = some { ob with slots := sl } := by
  by_cases hb : b ∈ fs
  · exact u.slot b ob q n hb hx
  · exact ⟨ob.slots, u.keep b ob q n hb hx⟩
theorem Un.trans (a : Un fs ex H H1 h h1) (b : Un fs ex H1 H2 h1 h2) : Un fs ex H H2 h h2 where
  keep := fun c ob q n hc hx => b.keep c ob (a.keep c ob q n hc hx) (a.free c ob q n hx) hc hx
  slot := fun c ob q n hc hx => by
    obtain ⟨sl, e1⟩ := a.slot c ob q n hc hx
    obtain ⟨sl', e2⟩ := b.slot c _ e1 (a.free c ob q n hx) hc hx
    exact ⟨sl', e2⟩
  free := fun c ob q n hx => by
    obtain ⟨o', e1⟩ := a.there c ob q hx
    exact b.free c o' e1 (a.free c ob q n hx) hx
  there := fun c ob q hx => by
    obtain ⟨o', e1⟩ := a.there c ob q hx
    exact b.there c o' e1 hx
  tups := fun c xs q => b.tups c xs (a.tups c xs q)
  frzs := fun c ob xs q => b.frzs c ob xs (a.frzs c ob xs q)
  tbls := fun c ps q => by
    obtain ⟨m1, e1⟩ := a.tbls c ps q
    obtain ⟨m2, e2⟩ := b.tbls c _ e1
    exact ⟨m1 ++ m2, by rw [e2, Array.append_assoc]⟩
theorem Un.kept (k : ∀ b u, h.get? b = some u → h'.get? b = some u) : Un fs ex H H h h' :=
  ⟨fun b ob q _ _ _ => k b ob q, fun b ob q _ _ _ => ⟨ob.slots, k b ob q⟩, fun _ _ _ n _ => n, fun b ob q _ => ⟨ob, k b ob q⟩, fun _ _ q => q, fun _ _ _ q => q, fun _ ps q => ⟨#[], by rw [q]; simp⟩⟩
theorem Un.refl : Un fs ex H H h h := Un.kept fun _ _ q => q
theorem Un.laid (k : ∀ b u, h.get? b = some u → h'.get? b = some u) (hp : h.objs.size ≤ a) (hn : H a = none) : Un fs ex H (upd H a o) h h' where
  keep := fun b u q _ _ _ => k b u q
  slot := fun b u q _ _ _ => ⟨u.slots, k b u q⟩
  free := fun b u q n _ => by rw [upd_ne (Nat.ne_of_lt (Nat.lt_of_lt_of_le (Heap.lt_size q) hp))]; exact n
  there := fun b u q _ => ⟨u, k b u q⟩
  tups := fun b xs q => by rw [upd_ne (ne_of_none q hn)]; exact q
  frzs := fun b u xs q => by rw [upd_ne (ne_of_none q hn)]; exact q
  tbls := fun b ps q => ⟨#[], by rw [upd_ne (ne_of_none q hn), q]; simp⟩
theorem Un.write (mu : Mut (H x)) (he : e = x ∨ H e = some (.own x)) (k : ∀ b u, b ≠ e → h.get? b = some u → h'.get? b = some u) (heo : ∃ u, h'.get? e = some u) : Un fs ex H (upd H x o) h h' := by
  have hx : ∀ b, H b = none → b ≠ x := fun b n z => by subst z; rw [n] at mu; exact mu
  have hb : ∀ b, H b = none → b ≠ e := fun b n z => by
    subst z
    rcases he with r | r
    · exact hx b n r
    · rw [n] at r; cases r
  have hm : ∀ b u, H b = some u → ¬ Mut (some u) → b ≠ x := fun b u q nm z => by subst z; rw [q] at mu; exact nm mu
  refine ⟨fun b u q n _ _ => k b u (hb b n) q, fun b u q n _ _ => ⟨u.slots, k b u (hb b n) q⟩, fun b u q n _ => by rw [upd_ne (hx b n)]; exact n, fun b u q _ => ?_,
    fun b xs q => by rw [upd_ne (hm b _ q fun z => z)]; exact q, fun b u xs q => by rw [upd_ne (hm b _ q fun z => z)]; exact q, fun b ps q => ⟨#[], by rw [upd_ne (hm b _ q fun z => z), q]; simp⟩⟩
  by_cases hbe : b = e
  · subst hbe; exact heo
  · exact ⟨u, k b u hbe q⟩
theorem Un.mono (u : Un fs ex H H1 h h1) (hs : ∀ b ∈ fs, b ∈ fs') (hx : ∀ b ∈ ex, b ∈ ex') : Un fs' ex' H H1 h h1 :=
  ⟨fun b ob q n hb he => u.keep b ob q n (fun z => hb (hs b z)) fun z => he (hx b z), fun _ _ q n _ he => u.any q n fun z => he (hx _ z), fun b ob q n he => u.free b ob q n fun z => he (hx b z), fun b ob q he => u.there b ob q fun z => he (hx b z), u.tups, u.frzs, u.tbls⟩
end
def trk (h : Heap) (H : Hp) : List Addr := (List.range h.objs.size).filter fun a => (H a).isSome
def hidT (h : Heap) (H : Hp) : Heap := PySem.W.hideAll h (trk h H)
theorem hidT_size (h : Heap) (H : Hp) : (hidT h H).objs.size = h.objs.size := PySem.W.hideAll_size _ _
theorem hidT_get {h : Heap} {H : Hp} {b : Addr} {o : Obj} (e : h.get? b = some o) (n : H b = none) : (hidT h H).get? b = some o :=
  PySem.W.hideAll_get _ e fun hm => by
    have q : (H b).isSome = true := (List.mem_filter.mp hm).2
    rw [n] at q; simp at q
theorem of_hidT {h : Heap} {H : Hp} {b : Addr} {o : Obj} (e : (hidT h H).get? b = some o) : h.get? b = some o ∧ H b = none := by
  have e' : h.get? b = some o := PySem.W.of_hideAll (trk h H) e
  refine ⟨e', ?_⟩
  cases q : H b with
  | none => rfl
  | some x =>
    have hm : b ∈ trk h H := List.mem_filter.mpr ⟨List.mem_range.mpr (Heap.lt_size e'), by simp [q]⟩
    have z : (hidT h H).get? b = none := PySem.W.hideAll_none (trk h H) hm
    rw [z] at e; cases e
end L2
namespace L2
open PySem PySem.Spec PyProof.Rows
structure Mod (K : PySem.W.Frag) (mg : Str → Option Value) (base : Heap) : Prop where
  kin : K.In base
  glob : base.Ns mainGlobals mg
  blt : ∃ mb, base.Ns builtinsNs mb ∧ ∀ x : Str, x ≠ "__name__" → mb x = bootBuiltins x
  nolimit : base.NoLimit
structure Cx where
  prog : Program
  w : World
  K : PySem.W.Frag
  mg : Str → Option Value
  base : Heap
  A : Around
  N : List Str
  s₀ : Shared
  H₀ : Hp
  env : Env
  outer : List Env
  stack : List Env
  ex : List Addr
  fn : Str → Bool
  calm : Bool
  pn : List (Addr × Obj)
  xe : Value → Shared → Prop
def frs (l : List Env) : List Addr := l.filterMap (·.frame)
abbrev Cx.fs (X : Cx) : List Addr := frs X.outer
def Vis (sc : Scope) (x : Str) : Prop := sc.names.lookup x = some .local ∨ sc.names.lookup x = some .cell ∨ sc.names.lookup x = some .free
def Loc (sc : Scope) (x : Str) : Prop := sc.names.lookup x = some .local ∨ sc.names.lookup x = some .cell
def Look (env : Env) (h : Heap) (m : Str → Option Value) (x : Str) (u : Value) : Prop :=
  (env.kindOf x = some .local ∧ m x = some u) ∨ ((env.kindOf x = some .cell ∨ env.kindOf x = some .free) ∧ ∃ c, env.cells.lookup x = some c ∧ h.IsCell c (some u))
structure Cx.Ok (X : Cx) : Prop where
  mod : Mod X.K X.mg X.base
  kind : X.env.scope.kind = .function
  glob : X.env.globals = mainGlobals
  blt : X.env.builtins = builtinsNs
  above : X.s₀.heap.objs.size ≤ X.env.locals
  inj : ∀ x y c, X.env.cells.lookup x = some c → X.env.cells.lookup y = some c → x = y
  has : ∀ x, (X.env.kindOf x = some .cell ∨ X.env.kindOf x = some .free) → ∃ c, X.env.cells.lookup x = some c
  cab : ∀ x c, X.fn x = true → X.env.cells.lookup x = some c → X.s₀.heap.objs.size ≤ c
  hd : X.calm = true → X.A.handled = none
  frames : X.A.frames = some X.stack
  stk : X.stack = X.outer ∨ (X.stack = X.env :: X.outer ∧ X.env.frame = some X.env.locals)
  exf : ∀ b ∈ X.ex, b ≠ X.env.locals ∧ ∀ x c, X.env.cells.lookup x = some c → c ≠ b
  bs : ∀ b o, X.base.get? b = some o → X.s₀.heap.get? b = some o ∧ X.H₀ b = none
  bsz : X.base.objs.size ≤ X.s₀.heap.objs.size
  noex : ∀ b o, X.base.get? b = some o → b ∉ X.ex
  exfs : ∀ b ∈ X.ex, b ∉ X.fs
  funs : X.s₀.heap.FunFrames X.base X.outer
  frf : ∀ b ∈ X.fs, X.H₀ b = none
structure Inv (X : Cx) (pins : List (Addr × Obj)) (σ : List (Option V)) (H : Hp) (s : Shared) : Prop where
  ok : X.Ok
  os : s.os = X.s₀.os
  bare : AllBare s.gens
  base : Un X.fs X.ex X.H₀ H X.s₀.heap s.heap
  loc : ∃ m, s.heap.Ns X.env.locals m ∧ ∀ (i : Nat) (x : Str) (v : V), X.N[i]? = some x → σ[i]? = some (some v) → Vis X.env.scope x → ∃ u, RelV v u ∧ Look X.env s.heap m x u
  cell : ∀ x c, X.env.cells.lookup x = some c → ∃ v, s.heap.IsCell c v
  free : H X.env.locals = none
  freeC : ∀ x c, X.env.cells.lookup x = some c → H c = none
  pin : ∀ p ∈ X.pn ++ pins, s.heap.get? p.1 = some p.2 ∧ H p.1 = none ∧ p.1 ≠ X.env.locals ∧ p.1 ∉ X.fs ∧ ∀ v, p.2.data ≠ .cell v
  hok : HOk X.prog X.w H s.heap
  len : σ.length = X.N.length
section
variable {X : Cx} {pins : List (Addr × Obj)} {σ : List (Option V)} {H H' : Hp} {s : Shared} {h' : Heap}
theorem Cx.Ok.nofr (ok : X.Ok) {b : Addr} {o : Obj} (e : X.base.get? b = some o) : b ∉ X.fs := fun hb => by
  have := (ok.funs.mem hb).1
  rw [e] at this; cases this
theorem Inv.bs (I : Inv X pins σ H s) : ∀ b o, X.base.get? b = some o → s.heap.get? b = some o ∧ H b = none := fun b o e =>
  ⟨I.base.keep b o (I.ok.bs b o e).1 (I.ok.bs b o e).2 (I.ok.nofr e) (I.ok.noex b o e), I.base.free b o (I.ok.bs b o e).1 (I.ok.bs b o e).2 (I.ok.noex b o e)⟩
theorem Inv.bk (I : Inv X pins σ H s) : ∀ b o, X.base.get? b = some o → s.heap.get? b = some o := fun b o e => (I.bs b o e).1
theorem Inv.mod (I : Inv X pins σ H s) : Mod X.K X.mg X.base := I.ok.mod
theorem Inv.kIn (I : Inv X pins σ H s) : X.K.In s.heap := I.ok.mod.kin.keeps I.bk
theorem Inv.fr (I : Inv X pins σ H s) : ∃ m, Fr X.base X.env.locals s.heap m :=
  let ⟨m, hn, _⟩ := I.loc
  ⟨m, hn, I.bk, Nat.le_trans I.ok.bsz I.ok.above⟩
theorem Inv.lt (I : Inv X pins σ H s) : X.env.locals < s.heap.objs.size := let ⟨_, hn, _⟩ := I.loc; hn.lt
theorem Inv.sz (I : Inv X pins σ H s) : X.s₀.heap.objs.size ≤ s.heap.objs.size := Nat.le_trans I.ok.above (Nat.le_of_lt I.lt)
theorem Inv.nofs (I : Inv X pins σ H s) {a : Addr} (h : s.heap.objs.size ≤ a) : a ∉ X.fs := fun hb => by
  obtain ⟨_, o, ho, _⟩ := I.ok.funs.mem hb
  exact absurd (Nat.lt_of_lt_of_le (Heap.lt_size ho) (Nat.le_trans I.sz h)) (Nat.lt_irrefl _)
theorem Inv.cne (I : Inv X pins σ H s) : ∀ x c, X.env.cells.lookup x = some c → c ≠ X.env.locals := fun x c e z => by
  obtain ⟨v, o, ho, hd⟩ := I.cell x c e
  obtain ⟨m, ⟨o', es, ep, ho', hd', _⟩, _⟩ := I.loc
  rw [z, ho'] at ho; cases ho; rw [hd'] at hd; cases hd
theorem Inv.funs (I : Inv X pins σ H s) : s.heap.FunFrames X.base X.outer := by
  have all : ∀ (l : List Env), (∀ b ∈ frs l, b ∈ X.fs) → X.s₀.heap.FunFrames X.base l → s.heap.FunFrames X.base l := by
    intro l
    induction l with
    | nil => intro _ _; trivial
    | cons env r ih =>
      intro hs hl
      obtain ⟨hk, ⟨L, o, hf, hn, ho, hd⟩, hr⟩ := hl
      have hL : L ∈ X.fs := hs L (by unfold frs; rw [List.filterMap_cons, hf]; exact List.mem_cons_self)
      obtain ⟨sl, e⟩ := I.base.slot L o ho (I.ok.frf L hL) hL fun z => I.ok.exfs L z hL
      exact ⟨hk, ⟨L, _, hf, hn, e, hd⟩, ih (fun b hb => hs b (by unfold frs; rw [List.filterMap_cons, hf]; exact List.mem_cons_of_mem _ hb)) hr⟩
  exact all X.outer (fun _ hb => hb) I.ok.funs
theorem Inv.stack (I : Inv X pins σ H s) : s.heap.FunFrames X.base X.stack := by
  rcases I.ok.stk with e | ⟨e, hf⟩
  · rw [e]; exact I.funs
  · rw [e]
    obtain ⟨m, hn, _⟩ := I.loc
    refine .cons (by rw [I.ok.kind]; decide) hf hn ?_ I.funs
    exact Heap.get?_none_of_le (Nat.le_trans I.ok.bsz I.ok.above)
theorem Inv.stkSub (I : Inv X pins σ H s) : ∀ b ∈ frs X.stack, b ∈ X.env.locals :: X.fs := fun b hb => by
  rcases I.ok.stk with e | ⟨e, hf⟩
  · rw [e] at hb; exact List.mem_cons_of_mem _ hb
  · rw [e] at hb
    unfold frs at hb
    rw [List.filterMap_cons, hf] at hb
    exact hb
theorem Inv.stkFree (I : Inv X pins σ H s) : ∀ b ∈ frs X.stack, H b = none := fun b hb => by
  rcases List.mem_cons.mp (I.stkSub b hb) with e | hb
  · rw [e]; exact I.free
  · obtain ⟨_, o, ho, _⟩ := I.ok.funs.mem hb
    exact I.base.free b o ho (I.ok.frf b hb) fun z => I.ok.exfs b z hb
theorem Inv.step {g' : Array GenState} {t' : Nat} {d' : Drawn} {ch : List Addr} (I : Inv X pins σ H s)
    (hch : ∀ b ∈ ch, (b ∈ X.ex ∨ X.s₀.heap.objs.size ≤ b) ∧ b ≠ X.env.locals ∧ (∀ x c, X.env.cells.lookup x = some c → c ≠ b) ∧ ∀ p ∈ X.pn ++ pins, p.1 ≠ b)
    (keep : ∀ b o, b ≠ X.env.locals → b ∉ X.fs → b ∉ ch → s.heap.get? b = some o → H b = none → h'.get? b = some o)
    (slot : ∀ b o, b ≠ X.env.locals → b ∈ X.fs → b ∉ ch → s.heap.get? b = some o → H b = none → ∃ sl, h'.get? b = some { o with slots := sl }) (free : ∀ b o, b ∉ ch → s.heap.get? b = some o → H b = none → H' b = none)
    (there : ∀ b o, b ∉ ch → s.heap.get? b = some o → ∃ o', h'.get? b = some o')
    (tups : ∀ b xs, H b = some (.tup xs) → H' b = some (.tup xs)) (frzs : ∀ b o u, H b = some (.frz o u) → H' b = some (.frz o u)) (tbls : ∀ b ps, H b = some (.tbl ps) → ∃ more, H' b = some (.tbl (ps ++ more)))
    (ns : ∀ m, s.heap.Ns X.env.locals m → h'.Ns X.env.locals m) (hok : HOk X.prog X.w H' h') (hg : AllBare g') :
    Inv X pins σ H' { s with heap := h', gens := g', drawn := d', toks := t' } := by
  have neL : ∀ b o, X.s₀.heap.get? b = some o → b ≠ X.env.locals := fun b o e => Nat.ne_of_lt (Nat.lt_of_lt_of_le (Heap.lt_size e) I.ok.above)
  have neC : ∀ b o, X.s₀.heap.get? b = some o → b ∉ X.ex → b ∉ ch := fun b o e hx hb => by
    rcases (hch b hb).1 with z | z
    · exact hx z
    · exact absurd (Nat.lt_of_lt_of_le (Heap.lt_size e) z) (Nat.lt_irrefl _)
  have cellK : ∀ x c, X.env.cells.lookup x = some c → ∀ v, s.heap.IsCell c v → h'.IsCell c v := fun x c e v ⟨o, ho, hd⟩ => by
    have nch : c ∉ ch := fun z => (hch c z).2.2.1 x c e rfl
    by_cases hc : c ∈ X.fs
    · obtain ⟨sl, q⟩ := slot c o (I.cne x c e) hc nch ho (I.freeC x c e)
      exact ⟨_, q, hd⟩
    · exact ⟨o, keep c o (I.cne x c e) hc nch ho (I.freeC x c e), hd⟩
  refine ⟨I.ok, I.os, hg, ⟨fun b o e n hb hx => ?_, fun b o e n hb hx => ?_, fun b o e n hx => ?_, fun b o e hx => ?_, fun b xs e => tups b xs (I.base.tups b xs e), fun b o xs e => frzs b o xs (I.base.frzs b o xs e), fun b ps e => ?_⟩, ?_, fun x c e => ?_, ?_, fun x c e => ?_, fun p hp => ?_, hok, I.len⟩
  · exact keep b o (neL b o e) hb (neC b o e hx) (I.base.keep b o e n hb hx) (I.base.free b o e n hx)
  · obtain ⟨sl, e1⟩ := I.base.slot b o e n hb hx
    obtain ⟨sl', e2⟩ := slot b _ (neL b o e) hb (neC b o e hx) e1 (I.base.free b o e n hx)
    exact ⟨sl', e2⟩
  · obtain ⟨o', e1⟩ := I.base.there b o e hx
    exact free b o' (neC b o e hx) e1 (I.base.free b o e n hx)
  · obtain ⟨o', e1⟩ := I.base.there b o e hx
    exact there b o' (neC b o e hx) e1
  · obtain ⟨m1, e1⟩ := I.base.tbls b ps e
    obtain ⟨m2, e2⟩ := tbls b _ e1
    exact ⟨m1 ++ m2, by rw [e2, Array.append_assoc]⟩
  · obtain ⟨m, hn, hl⟩ := I.loc
    refine ⟨m, ns m hn, fun i x v e1 e2 e3 => ?_⟩
    obtain ⟨u, r, l⟩ := hl i x v e1 e2 e3
    refine ⟨u, r, ?_⟩
    rcases l with l | ⟨k, c, e, z⟩
    · exact .inl l
    · exact .inr ⟨k, c, e, cellK x c e _ z⟩
  · obtain ⟨v, z⟩ := I.cell x c e
    exact ⟨v, cellK x c e v z⟩
  · obtain ⟨m, ⟨o, _, _, ho, _⟩, _⟩ := I.loc
    exact free _ o (fun z => (hch _ z).2.1 rfl) ho I.free
  · obtain ⟨v, o, ho, hd⟩ := I.cell x c e
    exact free c o (fun z => (hch c z).2.2.1 x c e rfl) ho (I.freeC x c e)
  · obtain ⟨e, n, ne, nf, d⟩ := I.pin p hp
    have nch : p.1 ∉ ch := fun z => (hch p.1 z).2.2.2 p hp rfl
    exact ⟨keep p.1 p.2 ne nf nch e n, free p.1 p.2 nch e n, ne, nf, d⟩
theorem Inv.un {t' : Nat} (I : Inv X pins σ H s) (u : Un X.fs [] H H' s.heap h') (hok : HOk X.prog X.w H' h') : Inv X pins σ H' { s with heap := h', toks := t' } := by
  obtain ⟨m, ⟨o, es, ep, ho, r⟩, _⟩ := id I.loc
  obtain ⟨sl, hL⟩ := u.any ho I.free (by simp)
  exact I.step (g' := s.gens) (d' := s.drawn) (ch := []) (fun _ z => nomatch z) (fun b o _ hb _ e n => u.keep b o e n hb (by simp)) (fun b o _ hb _ e n => u.slot b o e n hb (by simp)) (fun b o _ e n => u.free b o e n (by simp)) (fun b o _ e => u.there b o e (by simp)) u.tups u.frzs u.tbls (fun m' hm => by
    obtain ⟨o', es', ep', ho', r'⟩ := hm
    rw [ho] at ho'; cases ho'
    exact ⟨_, es', ep', hL, r'⟩) hok I.bare
theorem Inv.call {g' : Array GenState} {t' : Nat} {d' : Drawn} {ch : List Addr} (I : Inv X pins σ H s) (u : Un (frs X.stack) ch H H' s.heap h') (hok : HOk X.prog X.w H' h') (hg : AllBare g')
    (hch : ∀ b ∈ ch, (b ∈ X.ex ∨ X.s₀.heap.objs.size ≤ b) ∧ b ≠ X.env.locals ∧ (∀ x c, X.env.cells.lookup x = some c → c ≠ b) ∧ ∀ p ∈ X.pn ++ pins, p.1 ≠ b) :
    Inv X pins σ H' { s with heap := h', gens := g', drawn := d', toks := t' } := by
  obtain ⟨m, ⟨o, es, ep, ho, r⟩, _⟩ := id I.loc
  obtain ⟨sl, hL⟩ := u.any ho I.free fun z => (hch _ z).2.1 rfl
  exact I.step (ch := ch) hch (fun b o hL hb hc e n => u.keep b o e n (fun z => (List.mem_cons.mp (I.stkSub b z)).elim hL hb) hc) (fun b o _ _ hc e n => u.any e n hc) (fun b o hc e n => u.free b o e n hc) (fun b o hc e => u.there b o e hc) u.tups u.frzs u.tbls (fun m' hm => by
    obtain ⟨o', es', ep', ho', r'⟩ := hm
    rw [ho] at ho'; cases ho'
    exact ⟨_, es', ep', hL, r'⟩) hok hg
theorem Inv.turned {t' : Nat} {it : Addr} (I : Inv X pins σ H s) (k : ∀ b o, b ≠ it → s.heap.get? b = some o → h'.get? b = some o) (hn : H it = none) (hL : it ≠ X.env.locals)
    (h1 : it ∈ X.ex ∨ X.s₀.heap.objs.size ≤ it) (h2 : ∀ x c, X.env.cells.lookup x = some c → c ≠ it) (h3 : ∀ p ∈ X.pn ++ pins, p.1 ≠ it) : Inv X pins σ H { s with heap := h', toks := t' } := by
  have nit : ∀ b u, H b = some u → b ≠ it := fun b u e z => by rw [z, hn] at e; cases e
  refine I.step (g' := s.gens) (d' := s.drawn) (ch := [it]) (fun b hb => ?_) (fun b o _ _ hc e _ => k b o (fun z => hc (by simp [z])) e) (fun b o _ _ hc e _ => ⟨o.slots, k b o (fun z => hc (by simp [z])) e⟩) (fun _ _ _ _ n => n)
    (fun b o hc e => ⟨o, k b o (fun z => hc (by simp [z])) e⟩) (fun _ _ e => e) (fun _ _ _ e => e) (fun b ps e => ⟨#[], by rw [e]; simp⟩) (fun m hm => ?_) (fun b u e => ?_) I.bare
  · have e : b = it := by simpa using hb
    subst e
    exact ⟨h1, hL, h2, h3⟩
  · obtain ⟨o, es, ep, ho, r⟩ := hm
    exact ⟨o, es, ep, k _ o (Ne.symm hL) ho, r⟩
  · refine (I.hok b u e).stay (fun c v hc q => k c v ?_ q) (fun _ q => q) fun _ _ q => q
    rcases hc with z | z
    · rw [z]; exact nit b u e
    · exact nit c _ z
theorem Inv.tok (I : Inv X pins σ H s) (t : Nat) : Inv X pins σ H { s with toks := t } := I.un (h' := s.heap) (t' := t) Un.refl I.hok
theorem Inv.kept {t' : Nat} (I : Inv X pins σ H s) (k : ∀ b u, s.heap.get? b = some u → h'.get? b = some u) : Inv X pins σ H { s with heap := h', toks := t' } := I.un (Un.kept k) (I.hok.kept k)
theorem Inv.laid {a : Addr} {o : HO} {t' : Nat} (I : Inv X pins σ H s) (k : ∀ b u, s.heap.get? b = some u → h'.get? b = some u) (hp : s.heap.objs.size ≤ a) (new : ObjOk X.prog X.w (upd H a o) h' a o) :
    Inv X pins σ (upd H a o) { s with heap := h', toks := t' } := I.un (Un.laid k hp (I.hok.fresh hp)) (I.hok.laid k hp new)
theorem Inv.write {x e : Addr} {o : HO} {t' : Nat} (I : Inv X pins σ H s) (mu : Mut (H x)) (he : e = x ∨ H e = some (.own x)) (k : ∀ b u, b ≠ e → s.heap.get? b = some u → h'.get? b = some u) (heo : ∃ u, h'.get? e = some u)
    (new : ObjOk X.prog X.w (upd H x o) h' x o) : Inv X pins σ (upd H x o) { s with heap := h', toks := t' } := I.un (Un.write mu he k heo) (I.hok.write mu he k heo new)
theorem Inv.weak {σ' : List (Option V)} (I : Inv X pins σ H s) (hl : σ'.length = σ.length) (w : ∀ (i : Nat) v, σ'[i]? = some (some v) → σ[i]? = some (some v)) : Inv X pins σ' H s :=
  ⟨I.ok, I.os, I.bare, I.base, let ⟨m, hn, hl'⟩ := I.loc; ⟨m, hn, fun i x v e1 e2 e3 => hl' i x v e1 (w i v e2) e3⟩, I.cell, I.free, I.freeC, I.pin, I.hok, hl.trans I.len⟩
theorem Inv.pins_of {pins' : List (Addr × Obj)} (I : Inv X pins σ H s) (h : ∀ p ∈ pins', s.heap.get? p.1 = some p.2 ∧ H p.1 = none ∧ p.1 ≠ X.env.locals ∧ p.1 ∉ X.fs ∧ ∀ v, p.2.data ≠ .cell v) : Inv X pins' σ H s :=
  ⟨I.ok, I.os, I.bare, I.base, I.loc, I.cell, I.free, I.freeC, fun p hp => (List.mem_append.mp hp).elim (fun z => I.pin p (List.mem_append_left _ z)) (h p), I.hok, I.len⟩
theorem nodup_ix {N : List Str} (hN : N.Nodup) {i j : Nat} {x : Str} (a : N[i]? = some x) (b : N[j]? = some x) : i = j := by
  obtain ⟨h1, e1⟩ := List.getElem?_eq_some_iff.mp a
  obtain ⟨h2, e2⟩ := List.getElem?_eq_some_iff.mp b
  exact (List.getElem_inj hN).mp (e1.trans e2.symm)
theorem store_ok2 {M : Model} {A : Around} {E : Value → Shared → Prop} {i : Nat} {x : Str} {v : V} {u : Value} {Q : Unit → Shared → Prop} (I : Inv X pins σ H s) (hN : X.N.Nodup) (hi : X.N[i]? = some x) (hx : Loc X.env.scope x) (r : RelV v u)
    (h : ∀ s', Inv X pins (σ.set i (some v)) H s' → (∃ a, Heap.SameBut a s.heap s'.heap ∧ (a = X.env.locals ∨ X.env.cells.lookup x = some a)) → Q () s') (hf : X.fn x = true ∨ X.env.scope.names.lookup x = some .local := by first | exact .inl rfl | exact .inr rfl | assumption) : wpAny M A (storeName X.env x u) Q E s := by
  obtain ⟨m, hn, hl⟩ := id I.loc
  have hcls : (X.env.scope.kind == .class || (X.env.scope.kind == .module && X.env.locals != X.env.globals)) = false := by rw [I.ok.kind]; rfl
  have hiσ : i < σ.length := by rw [I.len]; exact (List.getElem?_eq_some_iff.mp hi).1
  have cne := I.cne
  have tracked : ∀ {a : Addr} {h' : Heap}, (∃ o, s.heap.get? a = some o ∧ H a = none) → Heap.SameBut a s.heap h' → HOk X.prog X.w H h' := fun {a h'} ha hs b ob e => by
    obtain ⟨_, _, hfree⟩ := ha
    refine (I.hok b ob e).stay (fun c w' hc q => (hs.2 c ?_).trans q) (fun _ q => q) fun _ _ q => q
    rintro rfl
    rcases hc with rfl | hc
    · rw [hfree] at e; cases e
    · rw [hfree] at hc; cases hc
  rcases hx with hk | hk
  · refine wpAny_storeName_local hk hn (fun h' hn' hs => ?_) hcls
    obtain ⟨oL, _, _, hoL, _⟩ := id hn
    refine h _ ⟨I.ok, I.os, I.bare, ⟨fun b o e n hb hx => ?_, fun b o e n hb hx => ?_, I.base.free, fun b o e hx => ?_, I.base.tups, I.base.frzs, I.base.tbls⟩, ⟨_, hn', fun j y v' e1 e2 e3 => ?_⟩, fun y c e => ?_, I.free, I.freeC, fun p hp => ?_, tracked ⟨oL, hoL, I.free⟩ hs, by simpa using I.len⟩ ⟨_, hs, .inl rfl⟩
    · exact (hs.2 b (Nat.ne_of_lt (Nat.lt_of_lt_of_le (Heap.lt_size e) I.ok.above))).trans (I.base.keep b o e n hb hx)
    · obtain ⟨sl, e1⟩ := I.base.slot b o e n hb hx
      exact ⟨sl, (hs.2 b (Nat.ne_of_lt (Nat.lt_of_lt_of_le (Heap.lt_size e) I.ok.above))).trans e1⟩
    · obtain ⟨o', e1⟩ := I.base.there b o e hx
      exact ⟨o', (hs.2 b (Nat.ne_of_lt (Nat.lt_of_lt_of_le (Heap.lt_size e) I.ok.above))).trans e1⟩
    · by_cases hj : j = i
      · subst hj
        rw [hi] at e1; cases e1
        rw [List.getElem?_set_self hiσ] at e2
        cases e2
        exact ⟨u, r, .inl ⟨hk, by simp⟩⟩
      · rw [List.getElem?_set_ne (Ne.symm hj)] at e2
        obtain ⟨u', r', q⟩ := hl j y v' e1 e2 e3
        refine ⟨u', r', ?_⟩
        rcases q with ⟨k, e⟩ | ⟨k, c, e, z⟩
        · refine .inl ⟨k, ?_⟩
          have : y ≠ x := fun e => hj (nodup_ix hN e1 (e ▸ hi))
          simp [this, e]
        · exact .inr ⟨k, c, e, z.sameBut hs (cne y c e)⟩
    · obtain ⟨w', z⟩ := I.cell y c e
      exact ⟨w', z.sameBut hs (cne y c e)⟩
    · obtain ⟨e, n, ne, nf, d⟩ := I.pin p hp
      exact ⟨(hs.2 p.1 ne).trans e, n, ne, nf, d⟩
  · have hfn : X.fn x = true := by
      rcases hf with z | z
      · exact z
      · rw [z] at hk; cases hk
    obtain ⟨c, hc⟩ := I.ok.has x (.inl hk)
    obtain ⟨w', z⟩ := I.cell x c hc
    refine wpAny_storeName_cell I.ok.kind hk hc z (fun h' hc' hs => ?_)
    obtain ⟨oc, hoc, hocd⟩ := id z
    refine h { s with heap := h' } ⟨I.ok, I.os, I.bare, ⟨fun b o e n hb hx => ?_, fun b o e n hb hx => ?_, I.base.free, fun b o e hx => ?_, I.base.tups, I.base.frzs, I.base.tbls⟩, ⟨m, hn.sameBut hs (Ne.symm (cne x c hc)), fun j y v' e1 e2 e3 => ?_⟩, fun y c' e => ?_, I.free, I.freeC, fun p hp => ?_, tracked ⟨oc, hoc, I.freeC x c hc⟩ hs, by simpa using I.len⟩ ⟨c, hs, .inr hc⟩
    · exact (hs.2 b (Nat.ne_of_lt (Nat.lt_of_lt_of_le (Heap.lt_size e) (I.ok.cab x c hfn hc)))).trans (I.base.keep b o e n hb hx)
    · obtain ⟨sl, e1⟩ := I.base.slot b o e n hb hx
      exact ⟨sl, (hs.2 b (Nat.ne_of_lt (Nat.lt_of_lt_of_le (Heap.lt_size e) (I.ok.cab x c hfn hc)))).trans e1⟩
    · obtain ⟨o', e1⟩ := I.base.there b o e hx
      exact ⟨o', (hs.2 b (Nat.ne_of_lt (Nat.lt_of_lt_of_le (Heap.lt_size e) (I.ok.cab x c hfn hc)))).trans e1⟩
    · by_cases hj : j = i
      · subst hj
        rw [hi] at e1; cases e1
        rw [List.getElem?_set_self hiσ] at e2
        cases e2
        exact ⟨u, r, .inr ⟨.inl hk, c, hc, hc'⟩⟩
      · rw [List.getElem?_set_ne (Ne.symm hj)] at e2
        obtain ⟨u', r', q⟩ := hl j y v' e1 e2 e3
        refine ⟨u', r', ?_⟩
        rcases q with q | ⟨k, c', e, z'⟩
        · exact .inl q
        · refine .inr ⟨k, c', e, z'.sameBut hs ?_⟩
          rintro rfl
          exact hj (nodup_ix hN e1 (I.ok.inj _ _ _ e hc ▸ hi))
    · by_cases hcc : c' = c
      · subst hcc; exact ⟨_, hc'⟩
      · obtain ⟨w2, z2⟩ := I.cell y c' e
        exact ⟨w2, z2.sameBut hs hcc⟩
    · obtain ⟨e, n, ne, nf, d⟩ := I.pin p hp
      refine ⟨(hs.2 p.1 ?_).trans e, n, ne, nf, d⟩
      intro q
      rw [q, hoc] at e
      have q' : oc = p.2 := Option.some.inj e
      exact d w' (by rw [← q']; exact hocd)
theorem store_ok {M : Model} {A : Around} {E : Value → Shared → Prop} {i : Nat} {x : Str} {v : V} {u : Value} {Q : Unit → Shared → Prop} (I : Inv X pins σ H s) (hN : X.N.Nodup) (hi : X.N[i]? = some x) (hx : Loc X.env.scope x) (r : RelV v u)
    (h : ∀ s', Inv X pins (σ.set i (some v)) H s' → Q () s') (hf : X.fn x = true ∨ X.env.scope.names.lookup x = some .local := by first | exact .inl rfl | exact .inr rfl | assumption) : wpAny M A (storeName X.env x u) Q E s :=
  store_ok2 I hN hi hx r (fun s' I' _ => h s' I') hf
theorem Inv.call' {s' : Shared} {ch : List Addr} (I : Inv X pins σ H s) (ho : s'.os = s.os) (u : Un (frs X.stack) ch H H' s.heap s'.heap) (hok : HOk X.prog X.w H' s'.heap) (hg : AllBare s'.gens)
    (hch : ∀ b ∈ ch, (b ∈ X.ex ∨ X.s₀.heap.objs.size ≤ b) ∧ b ≠ X.env.locals ∧ (∀ x c, X.env.cells.lookup x = some c → c ≠ b) ∧ ∀ p ∈ X.pn ++ pins, p.1 ≠ b) : Inv X pins σ H' s' := by
  obtain ⟨h', g', d', t', o'⟩ := s'
  have e : o' = s.os := ho
  subst e
  exact I.call (g' := g') (t' := t') (d' := d') u hok hg hch
end
abbrev XK := Value → Option Addr → Hp → Prop
abbrev St := List (Option V)
abbrev VK := V → Hp → Prop
abbrev TE := St → Hp → VK → Prop
abbrev TT := St → Hp → (Bool → Hp → Prop) → Prop
abbrev TA := St → Hp → (List V → Hp → Prop) → Prop
structure Ends where
  nx : St → Hp → Prop
  rt : VK
  bk : St → Hp → Prop := fun _ _ => False
  ct : St → Hp → Prop := fun _ _ => False
abbrev TS := Ends → St → Hp → Prop
def EP (X : Cx) (pins : List (Addr × Obj)) (σ : St) (Q : VK) (u : Value) (s' : Shared) : Prop := ∃ v H', Inv X pins σ H' s' ∧ RelV v u ∧ Q v H'
def TP (X : Cx) (pins : List (Addr × Obj)) (σ : St) (Q : Bool → Hp → Prop) (b : Bool) (s' : Shared) : Prop := ∃ H', Inv X pins σ H' s' ∧ Q b H'
def AP (X : Cx) (pins : List (Addr × Obj)) (σ : St) (Q : List V → Hp → Prop) (us : List Value) (s' : Shared) : Prop := ∃ vs H', Inv X pins σ H' s' ∧ Vals vs us ∧ Q vs H'
def SP (X : Cx) (pins : List (Addr × Obj)) (D : Ends) (f : Flow) (s' : Shared) : Prop :=
  match f with
  | .next => ∃ σ' H', Inv X pins σ' H' s' ∧ D.nx σ' H'
  | .brk => ∃ σ' H', Inv X pins σ' H' s' ∧ D.bk σ' H'
  | .cont => ∃ σ' H', Inv X pins σ' H' s' ∧ D.ct σ' H'
  | .ret u => ∃ v σ' H', Inv X pins σ' H' s' ∧ RelV v u ∧ D.rt v H'
def PE (X : Cx) (e : Expr) (t : TE) : Prop :=
  ∀ (pins : List (Addr × Obj)) (s : Shared) (σ : St) (H : Hp) (Q : VK), Inv X pins σ H s → t σ H Q → wpAny (model X.prog X.w) X.A (eval e X.env) (EP X pins σ Q) X.xe s
def PT (X : Cx) (e : Expr) (t : TT) : Prop :=
  ∀ (pins : List (Addr × Obj)) (s : Shared) (σ : St) (H : Hp) (Q : Bool → Hp → Prop), Inv X pins σ H s → t σ H Q → wpAny (model X.prog X.w) X.A (isTrue e X.env (eval e X.env)) (TP X pins σ Q) X.xe s
def PW (X : Cx) (e : Expr) (t : TT) : Prop :=
  ∀ (whole : Sem Value) (pins : List (Addr × Obj)) (s : Shared) (σ : St) (H : Hp) (Q : Bool → Hp → Prop), Inv X pins σ H s → t σ H Q → wpAny (model X.prog X.w) X.A (isTrue e X.env whole) (TP X pins σ Q) X.xe s
theorem PW.pt {X : Cx} {e : Expr} {t : TT} (h : PW X e t) : PT X e t := h _
def PA (X : Cx) (es : List Expr) (t : TA) : Prop :=
  ∀ (pos : Pos) (pins : List (Addr × Obj)) (s : Shared) (σ : St) (H : Hp) (Q : List V → Hp → Prop), Inv X pins σ H s → t σ H Q → wpAny (model X.prog X.w) X.A (spliced (backTo pos (starEach es X.env))) (AP X pins σ Q) X.xe s
def PS (X : Cx) (st : Stmt) (t : TS) : Prop :=
  ∀ (pins : List (Addr × Obj)) (s : Shared) (σ : St) (H : Hp) (D : Ends), Inv X pins σ H s → t D σ H → wpAny (model X.prog X.w) X.A (exec st X.env) (SP X pins D) X.xe s
def PSs (X : Cx) (st : List Stmt) (t : TS) : Prop :=
  ∀ (pins : List (Addr × Obj)) (s : Shared) (σ : St) (H : Hp) (D : Ends), Inv X pins σ H s → t D σ H → wpAny (model X.prog X.w) X.A (execs st X.env) (SP X pins D) X.xe s
theorem thn {α : Type} {t : Sem α} {Q Q' : α → Shared → Prop} {M : Model} {A : Around} {E : Value → Shared → Prop} {s : Shared} (h : wpAny M A t Q E s) (hQ : ∀ a s, Q a s → Q' a s) : wpAny M A t Q' E s := wpAny_mono h hQ fun _ _ x => x
end L2
namespace L2
open PySem PySem.Spec PyProof.Rows
section
variable {X : Cx}
theorem bin {a b : Expr} {ta tb : TE} (ha : PE X a ta) (hb : PE X b tb) {pins : List (Addr × Obj)} {s : Shared} {σ : St} {H : Hp} {R : V → V → Hp → Prop} (I : Inv X pins σ H s) (h : ta σ H fun x H1 => tb σ H1 fun y H2 => R x y H2)
    {α : Type} {Q : α → Shared → Prop} {f : Value → Value → Sem α}
    (hf : ∀ v u s2 x y H2, Inv X pins σ H2 s2 → RelV x v → RelV y u → R x y H2 → wpAny (model X.prog X.w) X.A (f v u) Q X.xe s2) :
    wpAny (model X.prog X.w) X.A (eval a X.env) (fun v s₁ => wpAny (model X.prog X.w) X.A (eval b X.env) (fun u s₂ => wpAny (model X.prog X.w) X.A (f v u) Q X.xe s₂) X.xe s₁) X.xe s := by
  refine thn (ha pins s σ H _ I h) fun v s1 ⟨x, H1, I1, r1, q1⟩ => ?_
  refine thn (hb pins s1 σ H1 _ I1 q1) fun u s2 ⟨y, H2, I2, r2, q2⟩ => ?_
  exact hf v u s2 x y H2 I2 r1 r2 q2
def tVar (i : Nat) : TE := fun σ H Q => ∃ v, σ[i]? = some (some v) ∧ Q v H
def tC (v : V) : TE := fun _ H Q => Q v H
theorem pe_var {i : Nat} {x : Str} {pos : Pos} (hN : X.N[i]? = some x) (hv : Vis X.env.scope x) (hd : (x == ("__debug__" : Str)) = false := by decide) (hcd : (x == ("__classdict__" : Str)) = false := by decide) : PE X (.Name x pos) (tVar i) := by
  intro pins s σ H Q I h
  obtain ⟨v, e, h⟩ := h
  obtain ⟨m, hn, hl⟩ := I.loc
  obtain ⟨u, r, l⟩ := hl i x v hN e hv
  have fin : EP X pins σ Q u s := ⟨v, H, I, r, h⟩
  rcases l with ⟨hk, hm⟩ | ⟨hk, c, hc, hcell⟩
  · exact wpAny_Name (wpAny_loadName_local I.ok.kind hk hn hm fin) hd
  · rcases hk with hk | hk
    · exact wpAny_Name (wpAny_loadName_cell I.ok.kind hk hc hcell fin) hd
    · exact wpAny_Name (wpAny_loadName_free I.ok.kind hk hc hcell fin hcd) hd
theorem pe_int {i j pos} : PE X (.Constant (.int i) j pos) (tC (.int i)) := fun _ _ _ H _ I h => wpAny_Constant_int ⟨.int i, H, I.tok _, ⟨_, rfl⟩, h⟩
theorem pe_bl {b j pos} : PE X (.Constant (.bool b) j pos) (tC (.bl b)) := fun _ _ _ H _ I h => Constant_bool ⟨.bl b, H, I, rfl, h⟩
theorem pe_non {j pos} : PE X (.Constant .none j pos) (tC .non) := fun _ _ _ H _ I h => Constant_none ⟨.non, H, I, rfl, h⟩
theorem pe_str {x j pos} : PE X (.Constant (.str x) j pos) (tC (.str x)) := fun _ _ _ H _ I h => Calls.Constant_str ⟨.str x, H, I.tok _, ⟨_, rfl⟩, h⟩
def Gl (X : Cx) (x : Str) : Prop := X.env.kindOf x = some .globalImplicit
theorem ld_glob {E : Value → Shared → Prop} {pins : List (Addr × Obj)} {s : Shared} {σ : St} {H : Hp} {x : Str} {u : Value} {pos : Pos} {Q : Value → Shared → Prop} (I : Inv X pins σ H s) (hg : Gl X x) (hm : X.mg x = some u) (h : Q u s)
    (hd : (x == ("__debug__" : Str)) = false := by decide) : wpAny (model X.prog X.w) X.A (eval (.Name x pos) X.env) Q E s :=
  Calls.Name_function_global I.ok.kind hg (Calls.loadGlobal_global (by rw [I.ok.glob]; exact I.mod.glob.keeps I.bk) hm h) hd
theorem ld_blt {E : Value → Shared → Prop} {pins : List (Addr × Obj)} {s : Shared} {σ : St} {H : Hp} {x : Str} {u : Value} {pos : Pos} {Q : Value → Shared → Prop} (I : Inv X pins σ H s) (hg : Gl X x) (hm : X.mg x = none) (hv : bootBuiltins x = some u) (h : Q u s)
    (hn : x ≠ "__name__" := by decide) (hd : (x == ("__debug__" : Str)) = false := by decide) : wpAny (model X.prog X.w) X.A (eval (.Name x pos) X.env) Q E s := by
  obtain ⟨mb, h1, h2⟩ := I.mod.blt
  exact Calls.Name_function_global I.ok.kind hg (Calls.loadGlobal_builtin (by rw [I.ok.glob]; exact I.mod.glob.keeps I.bk) hm (by rw [I.ok.blt]; exact h1.keeps I.bk) ((h2 x hn).trans hv) h) hd
theorem pe_glob {x : Str} {v : V} {u : Value} {pos : Pos} (hg : Gl X x) (hm : X.mg x = some u) (r : RelV v u) (hd : (x == ("__debug__" : Str)) = false := by decide) : PE X (.Name x pos) (tC v) :=
  fun _ _ _ H _ I h => ld_glob I hg hm ⟨v, H, I, r, h⟩ hd
variable {a b : Expr} {ta tb : TE} {pos : Pos}
def PC (X : Cx) (op : CmpOp) (a b : Expr) (t : TE) : Prop :=
  ∀ (pins : List (Addr × Obj)) (s : Shared) (σ : St) (H : Hp) (Q : VK), Inv X pins σ H s → t σ H Q →
    wpAny (model X.prog X.w) X.A (eval a X.env) (fun v s₁ => wpAny (model X.prog X.w) X.A (eval b X.env) (fun u s₂ => wpAny (model X.prog X.w) X.A (compareOp op v u) (EP X pins σ Q) X.xe s₂) X.xe s₁) X.xe s
def tB (t : TE) : TT := fun σ H Q => t σ H fun x H1 => ∃ c, x = .bl c ∧ Q c H1
theorem pt_cmp {op : CmpOp} {t : TE} (h : PC X op a b t) (h1 : behindInMarks op b = false := by first | exact nobehind _ (by decide) (by decide) | rfl) : PT X (.Compare a [op] [b] pos) (tB t) := by
  intro pins s σ H Q I hw
  refine wpAny_isTrue_Compare1 (thn (h pins s σ H _ I hw) fun v s1 h1 => thn h1 fun u s2 h2 => thn h2 fun c s3 ⟨x, H1, I1, r1, q1⟩ => ?_) h1
  obtain ⟨d, rfl, q⟩ := q1
  cases r1
  exact wpAny_truthy_bool ⟨H1, I1, q⟩
theorem pt_val {e : Expr} {t : TE} (h : PE X e t) (he : ∀ whole, isTrue e X.env whole = (do let v ← whole; standAt e.pos; holding [v] (truthy v)) := by intro _; rfl) : PT X e (tB t) := by
  intro pins s σ H Q I hw
  refine isTrue_plain (thn (h pins s σ H _ I hw) fun v s1 ⟨x, H1, I1, r1, q1⟩ => ?_) (he _)
  obtain ⟨d, rfl, q⟩ := q1
  cases r1
  exact wpAny_truthy_bool ⟨H1, I1, q⟩
variable {tA tB' : TT} {rest : List Expr}
def tOr (t u : TT) : TT := fun σ H Q => t σ H fun c H1 => if c = true then Q true H1 else u σ H1 Q
theorem pw_or1 (ha : PT X a tA) : PW X (.BoolOp .Or [a] pos) tA := by
  intro wh pins s σ H Q I h
  refine isTrue_or (thn (ha pins s σ H Q I h) fun c s1 e => ?_)
  cases c with
  | false => exact isTrue_or_nil e
  | true => exact e
theorem pw_or (ha : PT X a tA) (hb : PW X (.BoolOp .Or (b :: rest) pos) tB') : PW X (.BoolOp .Or (a :: b :: rest) pos) (tOr tA tB') := by
  intro wh pins s σ H Q I h
  refine isTrue_or (thn (ha pins s σ H _ I h) fun c s1 ⟨H1, I1, q1⟩ => ?_)
  cases c with
  | true => exact ⟨H1, I1, q1⟩
  | false => exact hb wh pins s1 σ H1 Q I1 q1
def tAndV (ta tb : TE) : TE := fun σ H Q => ta σ H fun x H1 => ∃ c, x = .bl c ∧ if c = true then tb σ H1 Q else Q (.bl false) H1
def tOrV (ta tb : TE) : TE := fun σ H Q => ta σ H fun x H1 => ∃ c, x = .bl c ∧ if c = true then Q (.bl true) H1 else tb σ H1 Q
theorem pe_one {op} {t : TE} (h : PE X a t) : PE X (.BoolOp op [a] pos) t := fun pins s σ H Q I hw => BoolOp_one (h pins s σ H Q I hw)
theorem pe_and (ha : PE X a ta) (hb : PE X (.BoolOp .And (b :: rest) pos) tb) : PE X (.BoolOp .And (a :: b :: rest) pos) (tAndV ta tb) := by
  intro pins s σ H Q I h
  refine BoolOp_and (thn (ha pins s σ H _ I h) fun v s1 ⟨x, H1, I1, r1, q1⟩ => ?_)
  obtain ⟨c, rfl, q1⟩ := q1
  cases r1
  refine wpAny_truthy_bool ?_
  cases c with
  | true => exact hb pins s1 σ H1 Q I1 q1
  | false => exact ⟨.bl false, H1, I1, rfl, q1⟩
theorem pe_or (ha : PE X a ta) (hb : PE X (.BoolOp .Or (b :: rest) pos) tb) : PE X (.BoolOp .Or (a :: b :: rest) pos) (tOrV ta tb) := by
  intro pins s σ H Q I h
  refine BoolOp_or (thn (ha pins s σ H _ I h) fun v s1 ⟨x, H1, I1, r1, q1⟩ => ?_)
  obtain ⟨c, rfl, q1⟩ := q1
  cases r1
  refine wpAny_truthy_bool ?_
  cases c with
  | false => exact hb pins s1 σ H1 Q I1 q1
  | true => exact ⟨.bl true, H1, I1, rfl, q1⟩
def tIf (t : TT) (ta tb : TE) : TE := fun σ H Q => t σ H fun c H1 => if c = true then ta σ H1 Q else tb σ H1 Q
theorem pe_ifExp {c : Expr} (hc : PT X c tA) (ha : PE X a ta) (hb : PE X b tb) : PE X (.IfExp c a b pos) (tIf tA ta tb) := by
  intro pins s σ H Q I h
  refine wpAny_IfExp (thn (hc pins s σ H _ I h) fun d s1 ⟨H1, I1, q1⟩ => ?_)
  cases d with
  | true => exact ha pins s1 σ H1 Q I1 q1
  | false => exact hb pins s1 σ H1 Q I1 q1
end
end L2
namespace L2
open PySem PySem.Spec PyProof.Rows
def SqL (K : PySem.W.Frag) (H : Hp) (a : Addr) (xs : List V) : Prop :=
  Rd H a (.lst xs) ∨
    ∃ (o : Obj) (its : Array Value) (n : Nat), K.lookup a = some o ∧ o.cls = .type "list" ∧ o.dict = none ∧ o.data = .seq its n ∧ its.size ≤ sizeLine ∧ Vals xs its.toList
def SqT (K : PySem.W.Frag) (H : Hp) (a : Addr) (xs : List V) : Prop :=
  Rd H a (.tup xs) ∨
    ∃ (o : Obj) (its : Array Value) (n : Nat), K.lookup a = some o ∧ o.cls = .type "tuple" ∧ o.data = .seq its n ∧ its.size ≤ sizeLine ∧ Vals xs its.toList
def absV : Value → Option V
  | .none => some .non
  | .bool b => some (.bl b)
  | .int i _ => some (.int i)
  | .str x _ => some (.str x)
  | .bytes b _ => some (.byt b)
  | .float b _ => some (.flt b)
  | .ref a => some (.ref a)
  | .type n => some (.ty n)
  | _ => none
theorem RelV.abs {x : V} {u : Value} (r : RelV x u) : absV u = some x := by
  cases x with
  | non => cases r; rfl
  | bl _ => cases r; rfl
  | int _ => obtain ⟨t, rfl⟩ := r; rfl
  | str _ => obtain ⟨t, rfl⟩ := r; rfl
  | byt _ => obtain ⟨t, rfl⟩ := r; rfl
  | flt _ => obtain ⟨t, rfl⟩ := r; rfl
  | ref _ => cases r; rfl
  | ty _ => cases r; rfl
theorem RelV.inj {x y : V} {u : Value} (r : RelV x u) (q : RelV y u) : x = y := Option.some.inj (r.abs.symm.trans q.abs)
theorem Vals.inj : ∀ {xs ys : List V} {us : List Value}, Vals xs us → Vals ys us → xs = ys
  | _, _, _, .nil, .nil => rfl
  | _, _, _, .cons r t, .cons r' t' => by rw [r.inj r', Vals.inj t t']
section
variable {X : Cx} {pins : List (Addr × Obj)} {σ : St} {H : Hp} {s : Shared} {a : Addr} {xs ys : List V}
theorem SqL.of {K : PySem.W.Frag} (h : H a = some (.lst xs)) : SqL K H a xs := .inl (.inl h)
theorem SqT.of {K : PySem.W.Frag} (h : H a = some (.tup xs)) : SqT K H a xs := .inl (.inl h)
theorem Inv.list (I : Inv X pins σ H s) (h : SqL X.K H a xs) : ∃ its : List Value, Vals xs its ∧ PlainL s.heap a its.toArray ∧ xs.length ≤ sizeLine := by
  rcases h with h | ⟨o, its, n, hk, hc, hd, hs, hz, r⟩
  · obtain ⟨z, its, n, r, e⟩ := h.ok I.hok
    exact ⟨its, r, ⟨_, n, e, rfl, rfl, rfl⟩, z⟩
  · refine ⟨its.toList, r, ⟨o, n, I.kIn a o hk, hc, hd, by simpa using hs⟩, ?_⟩
    have e := r.length
    simp only [Array.length_toList] at e
    omega
theorem Inv.tuple (I : Inv X pins σ H s) (h : SqT X.K H a xs) : ∃ its : List Value, Vals xs its ∧ IsTup s.heap a its.toArray ∧ xs.length ≤ sizeLine := by
  rcases h with h | ⟨o, its, n, hk, hc, hs, hz, r⟩
  · obtain ⟨z, its, r, p⟩ := h.ok I.hok
    exact ⟨its, r, p, z⟩
  · refine ⟨its.toList, r, ⟨o, I.kIn a o hk, hc, n, by simpa using hs⟩, ?_⟩
    have e := r.length
    simp only [Array.length_toList] at e
    omega
theorem Inv.list_inj (I : Inv X pins σ H s) (h : SqL X.K H a xs) (h' : SqL X.K H a ys) : xs = ys := by
  obtain ⟨its, r, ⟨o, n, e, _, _, d⟩, _⟩ := I.list h
  obtain ⟨its', r', ⟨o', n', e', _, _, d'⟩, _⟩ := I.list h'
  rw [e] at e'; cases e'
  rw [d] at d'
  injection d' with d1 _
  have : its = its' := by simpa using congrArg Array.toList d1
  subst this
  exact r.inj r'
theorem Inv.tuple_inj (I : Inv X pins σ H s) (h : SqT X.K H a xs) (h' : SqT X.K H a ys) : xs = ys := by
  obtain ⟨its, r, ⟨o, e, _, n, d⟩, _⟩ := I.tuple h
  obtain ⟨its', r', ⟨o', e', _, n', d'⟩, _⟩ := I.tuple h'
  rw [e] at e'; cases e'
  rw [d] at d'
  injection d' with d1 _
  have : its = its' := by simpa using congrArg Array.toList d1
  subst this
  exact r.inj r'
end
abbrev Cx.wish (X : Cx) (E : Value → Shared → Prop) : Cx := { X with xe := E }
abbrev Cx.nox (X : Cx) : Cx := X.wish fun _ _ => False
theorem Cx.Ok.wish {X : Cx} (ok : X.Ok) (E : Value → Shared → Prop) : (X.wish E).Ok :=
  ⟨ok.mod, ok.kind, ok.glob, ok.blt, ok.above, ok.inj, ok.has, ok.cab, ok.hd, ok.frames, ok.stk, ok.exf, ok.bs, ok.bsz, ok.noex, ok.exfs, ok.funs, ok.frf⟩
theorem Cx.Ok.unwish {X : Cx} {E : Value → Shared → Prop} (ok : (X.wish E).Ok) : X.Ok :=
  ⟨ok.mod, ok.kind, ok.glob, ok.blt, ok.above, ok.inj, ok.has, ok.cab, ok.hd, ok.frames, ok.stk, ok.exf, ok.bs, ok.bsz, ok.noex, ok.exfs, ok.funs, ok.frf⟩
section
variable {X : Cx} {pins : List (Addr × Obj)} {σ : St} {H : Hp} {s : Shared} {E : Value → Shared → Prop}
theorem Inv.wish (I : Inv X pins σ H s) (E : Value → Shared → Prop) : Inv (X.wish E) pins σ H s := ⟨I.ok.wish E, I.os, I.bare, I.base, I.loc, I.cell, I.free, I.freeC, I.pin, I.hok, I.len⟩
theorem Inv.unwish (I : Inv (X.wish E) pins σ H s) : Inv X pins σ H s := ⟨I.ok.unwish, I.os, I.bare, I.base, I.loc, I.cell, I.free, I.freeC, I.pin, I.hok, I.len⟩
theorem SP.unwish {D : Ends} {f : Flow} {s' : Shared} (h : SP (X.wish E) pins D f s') : SP X pins D f s' := by
  cases f with
  | next => obtain ⟨σ', H', I, q⟩ := h; exact ⟨σ', H', I.unwish, q⟩
  | brk => obtain ⟨σ', H', I, q⟩ := h; exact ⟨σ', H', I.unwish, q⟩
  | cont => obtain ⟨σ', H', I, q⟩ := h; exact ⟨σ', H', I.unwish, q⟩
  | ret u => obtain ⟨v, σ', H', I, r, q⟩ := h; exact ⟨v, σ', H', I.unwish, r, q⟩
theorem PSs.nox {st : List Stmt} {t : TS} (h : PSs X.nox st t) : PSs X st t := fun pins s σ H D I hw =>
  wpAny_mono (h pins s σ H D (I.wish _) hw) (fun _ _ q => q.unwish) fun _ _ z => False.elim z
end
section
variable {X : Cx} {st : Stmt} {rest : List Stmt} {t u : TS} {e : Expr} {te : TE} {pos : Pos}
def tNext : TS := fun D σ H => D.nx σ H
def tSeq (t u : TS) : TS := fun D σ H => t { D with nx := u D } σ H
theorem pss_nil : PSs X [] tNext := fun _ _ σ H _ I h => wpAny_execs_nil ⟨σ, H, I, h⟩
theorem pss_cons (h1 : PS X st t) (h2 : PSs X rest u) : PSs X (st :: rest) (tSeq t u) := by
  intro pins s σ H D I h
  refine wpAny_execs_cons (thn (h1 pins s σ H { D with nx := u D } I h) fun f s1 q => ?_)
  cases f with
  | next =>
    obtain ⟨σ', H', I', q⟩ := q
    exact h2 pins s1 σ' H' D I' q
  | ret v => exact q
  | brk => exact q
  | cont => exact q
theorem pss_one (h1 : PS X st t) : PSs X [st] t := by
  intro pins s σ H D I h
  refine wpAny_execs_cons (thn (h1 pins s σ H D I h) fun f s1 q => ?_)
  cases f with
  | next => exact wpAny_execs_nil q
  | ret v => exact q
  | brk => exact q
  | cont => exact q
theorem Inv.quiet {pins : List (Addr × Obj)} {σ : St} {H : Hp} {s : Shared} (I : Inv X pins σ H s) : interactive X.env = false := by simp [interactive, I.ok.kind]
def tDrop (te : TE) : TS := fun D σ H => te σ H fun _ H1 => D.nx σ H1
theorem ps_expr (he : PE X e te) (hs : swapsWith e none pos.line X.env = pure false := by rfl) : PS X (.Expr e pos) (tDrop te) := by
  intro pins s σ H D I h
  exact wpAny_Expr_any (thn (he pins s σ H _ I h) fun v s1 ⟨x, H1, I1, r1, q1⟩ => ⟨σ, H1, I1, q1⟩) I.quiet hs
def tRet (te : TE) : TS := fun D σ H => te σ H D.rt
theorem ps_ret (he : PE X e te) : PS X (.Return (some e) pos) (tRet te) := by
  intro pins s σ H D I h
  exact wpAny_Return_some (thn (he pins s σ H _ I h) fun v s1 ⟨x, H1, I1, r1, q1⟩ => ⟨x, σ, H1, I1, r1, q1⟩)
def tIfS (c : TT) (t u : TS) : TS := fun D σ H => c σ H fun b H1 => if b = true then t D σ H1 else u D σ H1
theorem ps_if {c : Expr} {a b : List Stmt} {tc : TT} (hc : PT X c tc) (ha : PSs X a t) (hb : PSs X b u) : PS X (.If c a b pos) (tIfS tc t u) := by
  intro pins s σ H D I h
  refine wpAny_If (thn (hc pins s σ H _ I h) fun d s1 ⟨H1, I1, q1⟩ => ?_)
  cases d with
  | true => exact ha pins s1 σ H1 D I1 q1
  | false => exact hb pins s1 σ H1 D I1 q1
end
abbrev TG := V → St → Hp → (St → Hp → Prop) → Prop
abbrev TGs := List V → St → Hp → (St → Hp → Prop) → Prop
def PG (X : Cx) (target : Expr) (t : TG) : Prop :=
  ∀ (pins : List (Addr × Obj)) (s : Shared) (σ : St) (H : Hp) (v : V) (u : Value) (Q : St → Hp → Prop), Inv X pins σ H s → RelV v u → t v σ H Q →
    wpAny (model X.prog X.w) X.A (assign target X.env u) (fun _ s' => ∃ σ' H', Inv X pins σ' H' s' ∧ Q σ' H') X.xe s
def PGs (X : Cx) (ts : List Expr) (t : TGs) : Prop :=
  ∀ (pins : List (Addr × Obj)) (s : Shared) (σ : St) (H : Hp) (vs : List V) (us : List Value) (Q : St → Hp → Prop), Inv X pins σ H s → Vals vs us → t vs σ H Q →
    wpAny (model X.prog X.w) X.A (assignInOrder ((assignEach ts X.env).map (·.2)) us) (fun _ s' => ∃ σ' H', Inv X pins σ' H' s' ∧ Q σ' H') X.xe s
abbrev TIp := V → V → Hp → VK → Prop
def PIp (X : Cx) (op : Operator) (t : TIp) : Prop :=
  ∀ (pins : List (Addr × Obj)) (s : Shared) (σ : St) (H : Hp) (x y : V) (v u : Value) (Q : VK), Inv X pins σ H s → RelV x v → RelV y u → t x y H Q →
    wpAny (model X.prog X.w) X.A (inplaceOp op v u) (EP X pins σ Q) X.xe s
section
variable {X : Cx} {pos : Pos}
def gName (i : Nat) : TG := fun v σ H Q => Q (σ.set i (some v)) H
theorem pg_name {i : Nat} {x : Str} (hN : X.N.Nodup) (hi : X.N[i]? = some x) (hx : Loc X.env.scope x) (hf : X.fn x = true ∨ X.env.scope.names.lookup x = some .local := by first | exact .inl rfl | exact .inr rfl | assumption) : PG X (.Name x pos) (gName i) := by
  intro pins s σ H v u Q I r h
  exact wpAny_assign_Name (store_ok I hN hi hx r (fun s' I' => ⟨_, H, I', h⟩) hf)
def gNil : TGs := fun vs σ H Q => vs = [] ∧ Q σ H
def gCons (t : TG) (u : TGs) : TGs := fun vs σ H Q => ∃ v r, vs = v :: r ∧ t v σ H fun σ' H' => u r σ' H' Q
theorem pgs_nil : PGs X [] gNil := by
  intro pins s σ H vs us Q I r h
  obtain ⟨e, h⟩ := h
  subst e
  cases r
  exact assignInOrder_nil ⟨σ, H, I, h⟩
theorem pgs_cons {e : Expr} {es : List Expr} {t : TG} {u : TGs} (h1 : PG X e t) (h2 : PGs X es u)
    (hs : (assignEach (e :: es) X.env).map (·.2) = assign e X.env :: (assignEach es X.env).map (·.2) := by rfl) : PGs X (e :: es) (gCons t u) := by
  intro pins s σ H vs us Q I r h
  obtain ⟨v, vr, e1, h⟩ := h
  subst e1
  cases r with
  | cons r rr =>
    rw [hs]
    refine assignInOrder_cons (thn (h1 pins s σ H _ _ _ I r h) fun _ s1 ⟨σ1, H1, I1, q1⟩ => ?_)
    exact h2 pins s1 σ1 H1 _ _ Q I1 rr q1
def gTup (K : PySem.W.Frag) (n : Nat) (t : TGs) : TG := fun v σ H Q => ∃ a xs, v = .ref a ∧ SqT K H a xs ∧ xs.length = n ∧ t xs σ H Q
theorem pg_tup {es : List Expr} {k : Nat} {t : TGs} {n : Nat} (hc : X.calm = true) (h : PGs X es t)
    (hn : (assignEach es X.env).length = n := by rfl) (hst : (assignEach es X.env).findIdx? (·.1) = none := by rfl) : PG X (.Tuple es k pos) (gTup X.K n t) := by
  intro pins s σ H v u Q I r hw
  obtain ⟨a, xs, e1, hq, hl, hw⟩ := hw
  subst e1
  cases r
  obtain ⟨its, rv, ht, hz⟩ := I.tuple hq
  refine assign_Tuple_tuple (I.ok.hd hc) ht (by simp [hn, ← hl, rv.length]) hst fun h' hx => ?_
  have I1 : Inv X pins σ H { s with heap := h' } := I.kept (t' := s.toks) fun b o e => hx b o (Nat.ne_of_lt (Heap.lt_size e)) e
  exact h pins _ σ H xs _ Q I1 (by simpa using rv) hw
def tAsg (te : TE) (g : TG) : TS := fun D σ H => te σ H fun x H1 => g x σ H1 D.nx
theorem ps_set {i : Nat} {x : Str} {e : Expr} {te : TE} {pos' : Pos} (hN : X.N.Nodup) (hi : X.N[i]? = some x) (hx : Loc X.env.scope x) (he : PE X e te) (hs : swapsWith e (some (.Name x pos')) pos.line X.env = pure false := by rfl) (hf : X.fn x = true ∨ X.env.scope.names.lookup x = some .local := by first | exact .inl rfl | exact .inr rfl | assumption) :
    PS X (.Assign [.Name x pos'] e pos) (tAsg te (gName i)) := by
  intro pins s σ H D I h
  refine wpAny_Assign_Name (thn (he pins s σ H _ I h) fun v s1 ⟨y, H1, I1, r1, q1⟩ => ?_) hs
  exact store_ok I1 hN hi hx r1 (fun s2 I2 => ⟨_, H1, I2, q1⟩) hf
def tAug (i : Nat) (te : TE) (ti : TIp) : TS := fun D σ H => ∃ x, σ[i]? = some (some x) ∧ te σ H fun y H1 => ti x y H1 fun z H2 => D.nx (σ.set i (some z)) H2
theorem ps_aug {i : Nat} {x : Str} {e : Expr} {te : TE} {op : Operator} {ti : TIp} {pos' : Pos} (hN : X.N.Nodup) (hi : X.N[i]? = some x) (hx : Loc X.env.scope x) (he : PE X e te) (ho : PIp X op ti) (hf : X.fn x = true ∨ X.env.scope.names.lookup x = some .local := by first | exact .inl rfl | exact .inr rfl | assumption) :
    PS X (.AugAssign (.Name x pos') op e pos) (tAug i te ti) := by
  intro pins s σ H D I h
  obtain ⟨v, e1, h⟩ := h
  obtain ⟨m, hn, hl⟩ := I.loc
  have vis : Vis X.env.scope x := by rcases hx with k | k; exact .inl k; exact .inr (.inl k)
  obtain ⟨u, r, l⟩ := hl i x v hi e1 vis
  refine wpAny_AugAssign_Name ?_
  have go : wpAny (model X.prog X.w) X.A (eval e X.env) (fun w s₂ => wpAny (model X.prog X.w) X.A (inplaceOp op u w) (fun r s₃ => wpAny (model X.prog X.w) X.A (storeName X.env x r) (fun _ => SP X pins D .next) X.xe s₃) X.xe s₂) X.xe s := by
    refine thn (he pins s σ H _ I h) fun w s1 ⟨y, H1, I1, r1, q1⟩ => ?_
    refine thn (ho pins s1 σ H1 v y u w _ I1 r r1 q1) fun z s2 ⟨zv, H2, I2, r2, q2⟩ => ?_
    exact store_ok I2 hN hi hx r2 (fun s3 I3 => ⟨_, H2, I3, q2⟩) hf
  rcases l with ⟨hk, hm⟩ | ⟨hk, c, hc, hcell⟩
  · exact wpAny_loadName_local I.ok.kind hk hn hm go
  · rcases hk with hk | hk
    · exact wpAny_loadName_cell I.ok.kind hk hc hcell go
    · rcases hx with k | k
      · have : X.env.scope.names.lookup x = some .free := hk
        rw [k] at this; cases this
      · have : X.env.scope.names.lookup x = some .free := hk
        rw [k] at this; cases this
def ipI (f : Int → Int → Int) : TIp := fun x y H Q => ∃ i j, x = .int i ∧ y = .int j ∧ Q (.int (f i j)) H
theorem ip_add : PIp X .Add (ipI fun i j => i + j) := by
  intro pins s σ H x y v u Q I r1 r2 h
  obtain ⟨i, j, e1, e2, q⟩ := h
  subst e1; subst e2
  obtain ⟨t, rfl⟩ := r1
  obtain ⟨t', rfl⟩ := r2
  exact iadd_int ⟨.int _, H, I.tok _, ⟨_, rfl⟩, q⟩
end
section
variable {X : Cx} {pos : Pos}
def tWhile (c : TT) (tb : TS) : TS := fun D σ H => ∃ W : Nat → St → Hp → Prop, (∃ m, W m σ H) ∧ ∀ m σ H, W m σ H →
  c σ H fun b H1 => if b = true then ∃ N : St → Hp → Prop, (∀ σ' H', N σ' H' → ∃ m', m' < m ∧ W m' σ' H') ∧ tb { D with nx := N, ct := N, bk := D.nx } σ H1 else D.nx σ H1
theorem ps_while {c : Expr} {body : List Stmt} {tc : TT} {tb : TS} (hp : PassesOwn (model X.prog X.w) X.A X.env X.xe) (hc : PT X c tc) (hb : PSs X body tb) : PS X (.While c body [] pos) (tWhile tc tb) := by
  intro pins s σ H D I h
  obtain ⟨W, ⟨m0, w0⟩, turn⟩ := h
  refine wpAny_While (codeAny_whileLoop (fun n s' => ∃ σ' H', Inv X pins σ' H' s' ∧ W n σ' H') ?_ m0 ⟨σ, H, I, w0⟩)
  rintro n s1 ⟨σ1, H1, I1, w1⟩
  refine wpAny_passesOwn hp (thn (hc pins s1 σ1 H1 _ I1 (turn n σ1 H1 w1)) fun b s2 ⟨H2, I2, q2⟩ => ?_)
  cases b with
  | true =>
    obtain ⟨N, hN, q2⟩ := q2
    rw [if_pos rfl]
    refine wpAny_passesOwn hp (thn (hb pins s2 σ1 H2 _ I2 q2) fun f s3 q3 => ?_)
    cases f with
    | next =>
      obtain ⟨σ3, H3, I3, n3⟩ := q3
      obtain ⟨m', hm, w3⟩ := hN σ3 H3 n3
      exact ⟨m', hm, σ3, H3, I3, w3⟩
    | cont =>
      obtain ⟨σ3, H3, I3, n3⟩ := q3
      obtain ⟨m', hm, w3⟩ := hN σ3 H3 n3
      exact ⟨m', hm, σ3, H3, I3, w3⟩
    | brk => exact q3
    | ret v => exact q3
  | false =>
    rw [if_neg Bool.false_ne_true]
    exact wpAny_execs_nil ⟨σ1, H2, I2, q2⟩
end
structure It where
  go : Nat → Hp → Prop
  yld : Nat → Hp → V → Hp → Prop
  stop : Nat → Hp → Prop
def FpOk (X : Cx) (pins : List (Addr × Obj)) (H : Hp) (b : Addr) : Prop :=
  H b = none ∧ b ≠ X.env.locals ∧ b ∉ X.fs ∧ (b ∈ X.ex ∨ X.s₀.heap.objs.size ≤ b) ∧ (∀ x c, X.env.cells.lookup x = some c → c ≠ b) ∧ ∀ p ∈ X.pn ++ pins, p.1 ≠ b
theorem Inv.fpOk {X : Cx} {pins : List (Addr × Obj)} {σ : St} {H H' : Hp} {s : Shared} {b : Addr} (I : Inv X pins σ H s) (hb : s.heap.objs.size ≤ b) (hn : H' b = none) : FpOk X pins H' b := by
  refine ⟨hn, Nat.ne_of_gt (Nat.lt_of_lt_of_le I.lt hb), I.nofs hb, .inr (Nat.le_trans I.sz hb), fun x c e z => ?_, fun p hp z => ?_⟩
  · obtain ⟨v, q⟩ := I.cell x c e
    exact absurd (Nat.lt_of_lt_of_le q.lt (by rw [z]; exact hb)) (Nat.lt_irrefl _)
  · exact absurd (Nat.lt_of_lt_of_le (Heap.lt_size (I.pin p hp).1) (by rw [z]; exact hb)) (Nat.lt_irrefl _)
structure Turn (P : Program) (w : World) (K : PySem.W.Frag) (tg : Expr) (J : It) (fp : List Addr) (it : Addr) (tn : Nat → Heap → Prop) : Prop where
  mem : it ∈ fp
  obj : ∀ i h, tn i h → ∀ b ∈ fp, ∃ o, h.get? b = some o ∧ ∀ v, o.data ≠ .cell v
  keep : ∀ i h h', tn i h → (∀ b ∈ fp, ∀ o, h.get? b = some o → h'.get? b = some o) → tn i h'
  item : ∀ (X : Cx), X.prog = P → X.w = w → X.K = K → X.calm = true → ∀ (i : Nat) (pins : List (Addr × Obj)) (s : Shared) (σ : St) (H : Hp) (E : Value → Shared → Prop), Inv X pins σ H s → (∀ b ∈ fp, FpOk X pins H b) → tn i s.heap → J.go i H →
    wpAny (model P w) X.A (pyNext (.ref it)) (fun r s1 => ∃ u, r = some u ∧
      wpAny (model P w) X.A (letOwnedTupleGo tg (.ref it) u) (fun _ s2 => ∃ x H', Inv X pins σ H' s2 ∧ RelV x u ∧ J.yld i H x H' ∧ tn (i + 1) s2.heap ∧ ∀ b ∈ fp, H' b = none) E s1) E s
  done : ∀ (X : Cx), X.prog = P → X.w = w → X.K = K → X.calm = true → ∀ (i : Nat) (pins : List (Addr × Obj)) (s : Shared) (σ : St) (H : Hp) (E : Value → Shared → Prop), Inv X pins σ H s → (∀ b ∈ fp, FpOk X pins H b) → tn i s.heap → J.stop i H →
    wpAny (model P w) X.A (pyNext (.ref it)) (fun r s1 => r = none ∧ Inv X pins σ H s1) E s
  self : ∀ (A : Around) (i : Nat) (s : Shared) (Q : Value → Shared → Prop) (E : Value → Shared → Prop), tn i s.heap → Q (.ref it) s → wpAny (model P w) A (pyIter (.ref it)) Q E s
abbrev TI := St → Hp → (It → Hp → Prop) → Prop
def PIE (X : Cx) (pins : List (Addr × Obj)) (σ : St) (tg : Expr) (R : It → Hp → Prop) (itv : Value) (s2 : Shared) : Prop :=
  ∃ (it : Addr) (fp : List Addr) (tn : Nat → Heap → Prop) (J : It) (H' : Hp), itv = .ref it ∧ Inv X pins σ H' s2 ∧ Turn X.prog X.w X.K tg J fp it tn ∧ tn 0 s2.heap ∧ (∀ b ∈ fp, FpOk X pins H' b) ∧ R J H'
def PI (X : Cx) (tg iter : Expr) (wi : TI) : Prop :=
  ∀ (pins : List (Addr × Obj)) (s : Shared) (σ : St) (H : Hp) (R : It → Hp → Prop), Inv X pins σ H s → wi σ H R →
    wpAny (model X.prog X.w) X.A (eval iter X.env) (fun v s1 => wpAny (model X.prog X.w) X.A (pyIter v) (PIE X pins σ tg R) X.xe s1) X.xe s
theorem go_of {M : Model} {A : Around} {E : Value → Shared → Prop} {s : Shared} {tg : Expr} {it : Addr} {u : Value} {o : Obj} {n : String} {vs : Array Value} {Q : Unit → Shared → Prop} (ho : s.heap.get? it = some o) (hc : o.cls = .type n) (hd : o.data = .fields vs)
    (hn : ["enumerate", "zip", "dict_itemiterator", "dict_reverseitemiterator", "odict_iterator", "itertools.zip_longest", "itertools.pairwise"].contains n = false) (hQ : Q () s) : wpAny M A (letOwnedTupleGo tg (.ref it) u) Q E s := by
  unfold letOwnedTupleGo
  cases tg <;> first
    | exact wpAny_pure hQ
    | (cases u <;> first
        | exact wpAny_pure hQ
        | (refine wpAny_bind (wpAny_load ho ?_)
           rw [hc, hd]
           show wpAny M A (if (["enumerate", "zip", "dict_itemiterator", "dict_reverseitemiterator", "odict_iterator", "itertools.zip_longest", "itertools.pairwise"].contains n && vs[0]? == some (rawInt _)) = true then _ else _) Q E s
           rw [if_neg (by intro h; rw [hn, Bool.false_and] at h; cases h)]
           exact wpAny_pure hQ))
def Itl (K : PySem.W.Frag) (a : Addr) : It :=
  ⟨fun i H => ∃ xs x, SqL K H a xs ∧ xs[i]? = some x, fun i H x H' => H' = H ∧ ∀ xs, SqL K H a xs → xs[i]? = some x, fun i H => ∃ xs, SqL K H a xs ∧ xs.length ≤ i⟩
def Itt (K : PySem.W.Frag) (a : Addr) : It :=
  ⟨fun i H => ∃ xs x, SqT K H a xs ∧ xs[i]? = some x, fun i H x H' => H' = H ∧ ∀ xs, SqT K H a xs → xs[i]? = some x, fun i H => ∃ xs, SqT K H a xs ∧ xs.length ≤ i⟩
def Itr (lo : Int) (n : Nat) : It := ⟨fun i _ => i < n, fun i H x H' => H' = H ∧ x = .int (lo + i), fun i _ => n ≤ i⟩
theorem turn_list {P : Program} {w : World} {K : PySem.W.Frag} {tg : Expr} (a it : Addr) : Turn P w K tg (Itl K a) [it] it (fun i h => h.IsListIter it a i) where
  mem := by simp
  obj := fun i h st b hb => by
    have e : b = it := by simpa using hb
    subst e
    obtain ⟨o, e, c, d⟩ := st
    exact ⟨o, e, fun v z => by rw [d] at z; cases z⟩
  keep := fun i h h' st k => st.at fun o e => k it (by simp) o e
  item := by
    intro X hP hw hK hc i pins s σ H E I hf st hg
    subst hP hw hK
    obtain ⟨xs, x, hq, hx⟩ := hg
    obtain ⟨its, rv, p, hz⟩ := I.list hq
    obtain ⟨u, hu, ru⟩ := rv.get hx
    obtain ⟨f0, f1, f2, f3, f4, f5⟩ := hf it (by simp)
    refine wpAny_pyNext_list_item st p.isList (x := u) (by simpa using hu) fun h' st' sb => ?_
    have I1 : Inv X pins σ H { s with heap := h' } := I.turned (t' := s.toks) (fun b o hb e => (sb.2 b hb).trans e) f0 f1 f3 f4 f5
    obtain ⟨o, e, c, d⟩ := id st'
    exact ⟨u, rfl, go_of (s := { s with heap := h' }) e c d (by decide) ⟨x, H, I1, ru, ⟨rfl, fun ys hy => by rw [I.list_inj hy hq]; exact hx⟩, st', fun b hb => (hf b hb).1⟩⟩
  done := by
    intro X hP hw hK hc i pins s σ H E I hf st hg
    subst hP hw hK
    obtain ⟨xs, hq, hx⟩ := hg
    obtain ⟨its, rv, p, hz⟩ := I.list hq
    obtain ⟨f0, f1, f2, f3, f4, f5⟩ := hf it (by simp)
    have hl := rv.length
    exact wpAny_pyNext_list_end (I.ok.hd hc) st p.isList (by simp; omega) fun h' eb => ⟨rfl, I.turned (t' := s.toks) (fun b o hb e => eb b o hb e) f0 f1 f3 f4 f5⟩
  self := fun _ _ _ _ _ st h => wpAny_pyIter_listiter st h
theorem turn_tuple {P : Program} {w : World} {K : PySem.W.Frag} {tg : Expr} (a it : Addr) : Turn P w K tg (Itt K a) [it] it (fun i h => h.IsTupleIter it a i) where
  mem := by simp
  obj := fun i h st b hb => by
    have e : b = it := by simpa using hb
    subst e
    obtain ⟨o, e, c, d⟩ := st
    exact ⟨o, e, fun v z => by rw [d] at z; cases z⟩
  keep := fun i h h' st k => st.at fun o e => k it (by simp) o e
  item := by
    intro X hP hw hK hc i pins s σ H E I hf st hg
    subst hP hw hK
    obtain ⟨xs, x, hq, hx⟩ := hg
    obtain ⟨its, rv, p, hz⟩ := I.tuple hq
    obtain ⟨u, hu, ru⟩ := rv.get hx
    obtain ⟨f0, f1, f2, f3, f4, f5⟩ := hf it (by simp)
    refine wpAny_pyNext_tuple_item st (show s.heap.IsTuple a its.toArray from p) (x := u) (by simpa using hu) fun h' st' sb => ?_
    have I1 : Inv X pins σ H { s with heap := h' } := I.turned (t' := s.toks) (fun b o hb e => (sb.2 b hb).trans e) f0 f1 f3 f4 f5
    obtain ⟨o, e, c, d⟩ := id st'
    exact ⟨u, rfl, go_of (s := { s with heap := h' }) e c d (by decide) ⟨x, H, I1, ru, ⟨rfl, fun ys hy => by rw [I.tuple_inj hy hq]; exact hx⟩, st', fun b hb => (hf b hb).1⟩⟩
  done := by
    intro X hP hw hK hc i pins s σ H E I hf st hg
    subst hP hw hK
    obtain ⟨xs, hq, hx⟩ := hg
    obtain ⟨its, rv, p, hz⟩ := I.tuple hq
    obtain ⟨f0, f1, f2, f3, f4, f5⟩ := hf it (by simp)
    have hl := rv.length
    exact wpAny_pyNext_tuple_end (I.ok.hd hc) st (show s.heap.IsTuple a its.toArray from p) (by simp; omega) fun h' eb => ⟨rfl, I.turned (t' := s.toks) (fun b o hb e => eb b o hb e) f0 f1 f3 f4 f5⟩
  self := fun _ _ _ _ _ st h => wpAny_pyIter_tupleiter st h
theorem turn_range {P : Program} {w : World} {K : PySem.W.Frag} {tg : Expr} (it : Addr) (lo : Int) (n : Nat) : Turn P w K tg (Itr lo n) [it] it (fun i h => IsRangeIter h it (lo + (i : Nat) * 1) ((n : Int) - (i : Nat)) 1) where
  mem := by simp
  obj := fun i h st b hb => by
    have e : b = it := by simpa using hb
    subst e
    exact ⟨_, st, fun v z => by
      have z' : Data.fields _ = Data.cell v := z
      cases z'⟩
  keep := fun i h h' st k => k it (by simp) _ st
  item := by
    intro X hP hw hK hc i pins s σ H E I hf st hg
    subst hP hw hK
    obtain ⟨f0, f1, f2, f3, f4, f5⟩ := hf it (by simp)
    have W := Walks.range (prog := X.prog) (w := X.w) (I.ok.hd hc) it lo 1 n
    refine W.item i s _ _ hg st fun v h' tk hv st' kk => ?_
    obtain ⟨t, rfl⟩ := hv
    have I1 : Inv X pins σ H { s with heap := h', toks := tk } := I.turned (fun b o hb e => kk b o (by simpa using hb) e) f0 f1 f3 f4 f5
    refine ⟨_, rfl, go_of (s := { s with heap := h', toks := tk }) (n := "range_iterator") st' rfl rfl (by decide) ⟨.int (lo + i), H, I1, ⟨t, ?_⟩, ⟨rfl, rfl⟩, st', fun b hb => (hf b hb).1⟩⟩
    rw [Int.mul_one]
  done := by
    intro X hP hw hK hc i pins s σ H E I hf st hg
    subst hP hw hK
    obtain ⟨f0, f1, f2, f3, f4, f5⟩ := hf it (by simp)
    exact wpAny_pyNext_range_end (I.ok.hd hc) st (by have : n ≤ i := hg; omega) fun h' eb => ⟨rfl, I.turned (t' := s.toks) (fun b o hb e => eb b o hb e) f0 f1 f3 f4 f5⟩
  self := fun _ _ _ _ _ st h => wpAny_pyIter_rangeiter st h
end L2
namespace L2
open PySem PySem.Spec PyProof.Rows
section
variable {X : Cx} {tg : Expr}
def iList (K : PySem.W.Frag) (tl : TE) : TI := fun σ H R => tl σ H fun x H1 => ∃ a, x = .ref a ∧ (∃ xs, SqL K H1 a xs) ∧ R (Itl K a) H1
def iTup (K : PySem.W.Frag) (tl : TE) : TI := fun σ H R => tl σ H fun x H1 => ∃ a, x = .ref a ∧ (∃ xs, SqT K H1 a xs) ∧ R (Itt K a) H1
theorem pi_list {l : Expr} {tl : TE} (hl : PE X l tl) : PI X tg l (iList X.K tl) := by
  intro pins s σ H R I h
  refine thn (hl pins s σ H _ I h) fun v s1 ⟨x, H1, I1, r1, q1⟩ => ?_
  obtain ⟨a, e, ⟨xs, hq⟩, q⟩ := q1
  subst e
  cases r1
  obtain ⟨its, rv, p, hz⟩ := I1.list hq
  refine wpAny_pyIter_list p.isList ?_
  refine ⟨s1.heap.objs.size, [s1.heap.objs.size], _, _, H1, rfl, I1.kept (t' := s1.toks) fun b o e => Heap.get?_push_of_some _ e, turn_list a _, ⟨_, Heap.get?_push_size _ rfl, rfl, rfl⟩, fun b hb => ?_, q⟩
  have e : b = s1.heap.objs.size := by simpa using hb
  subst e
  exact I1.fpOk (Nat.le_refl _) (I1.hok.fresh (Nat.le_refl _))
theorem pi_tup {l : Expr} {tl : TE} (hl : PE X l tl) : PI X tg l (iTup X.K tl) := by
  intro pins s σ H R I h
  refine thn (hl pins s σ H _ I h) fun v s1 ⟨x, H1, I1, r1, q1⟩ => ?_
  obtain ⟨a, e, ⟨xs, hq⟩, q⟩ := q1
  subst e
  cases r1
  obtain ⟨its, rv, p, hz⟩ := I1.tuple hq
  refine wpAny_pyIter_tuple (show s1.heap.IsTuple a its.toArray from p) ?_
  refine ⟨s1.heap.objs.size, [s1.heap.objs.size], _, _, H1, rfl, I1.kept (t' := s1.toks) fun b o e => Heap.get?_push_of_some _ e, turn_tuple a _, ⟨_, Heap.get?_push_size _ rfl, rfl, rfl⟩, fun b hb => ?_, q⟩
  have e : b = s1.heap.objs.size := by simpa using hb
  subst e
  exact I1.fpOk (Nat.le_refl _) (I1.hok.fresh (Nat.le_refl _))
theorem range_it {pins : List (Addr × Obj)} {σ : St} {H : Hp} {s : Shared} {R : It → Hp → Prop} {E : Value → Shared → Prop} {lo hi : Int} {t u v : Tok} {tk : Nat} (I : Inv X pins σ H s) (h1 : -(2 ^ 62) ≤ lo) (h2 : lo < 2 ^ 62) (h3 : -(2 ^ 62) ≤ hi) (h4 : hi < 2 ^ 62)
    (q : R (Itr lo (hi - lo).toNat) H) : wpAny (model X.prog X.w) X.A (pyIter (.ref s.heap.objs.size)) (PIE X pins σ tg R) E { s with heap := s.heap.push { cls := .type "range", data := .fields #[.int lo t, .int hi u, .int 1 v] }, toks := tk } := by
  refine wpAny_pyIter_range (IsRange.new ..) (small_one h1 h2 h3 h4) ?_
  have I1 : Inv X pins σ H { s with heap := s.heap.push { cls := .type "range", data := .fields #[.int lo t, .int hi u, .int 1 v] }, toks := tk } := I.kept fun b o e => Heap.get?_push_of_some _ e
  refine ⟨(s.heap.push { cls := .type "range", data := .fields #[.int lo t, .int hi u, .int 1 v] }).objs.size, [(s.heap.push { cls := .type "range", data := .fields #[.int lo t, .int hi u, .int 1 v] }).objs.size], _, _, H, rfl,
    I1.kept (t' := tk) fun b o e => Heap.get?_push_of_some _ e, turn_range _ lo (hi - lo).toNat, ?_, fun b hb => ?_, q⟩
  · have e1 : lo + ((0 : Nat) : Int) * 1 = lo := by simp
    have e2 : (((hi - lo).toNat : Nat) : Int) - ((0 : Nat) : Int) = Builtin.Range.rangeSize lo hi 1 := by rw [rangeSize_one]; split <;> omega
    show IsRangeIter _ _ (lo + ((0 : Nat) : Int) * 1) ((((hi - lo).toNat : Nat) : Int) - ((0 : Nat) : Int)) 1
    rw [e1, e2]
    exact Heap.get?_push_size _ rfl
  · have e : b = (s.heap.push { cls := .type "range", data := .fields #[.int lo t, .int hi u, .int 1 v] }).objs.size := by simpa using hb
    subst e
    exact I1.fpOk (Nat.le_refl _) (I1.hok.fresh (Nat.le_refl _))
def iRng1 (ta : TA) : TI := fun σ H R => ta σ H fun vs H1 => ∃ j : Int, vs = [.int j] ∧ -(2 ^ 62) ≤ j ∧ j < 2 ^ 62 ∧ R (Itr 0 j.toNat) H1
theorem pi_range1 {a : Expr} {ta : TA} {p pos : Pos} (hg : Gl X "range") (hm : X.mg "range" = none) (ha : PA X [a] ta) (hs : starEach [a] X.env = [(false, eval a X.env)] := by rfl) : PI X tg (.Call (.Name "range" p) [a] [] pos) (iRng1 ta) := by
  intro pins s σ H R I h
  refine Call_ (ld_blt I hg hm boot_range (PyProof.Rows.callWith_type1 (thn (ha pos pins s σ H _ I h) fun us s1 ⟨vs, H1, I1, r1, q1⟩ => ?_) hs rfl))
  obtain ⟨j, e, q1, q2, q⟩ := q1
  subst e
  cases r1 with
  | cons r rr =>
    cases rr
    obtain ⟨t, rfl⟩ := r
    exact call_range_1 (range_it I1 (by omega) (by omega) q1 q2 (by simpa using q))
def tFor (wi : TI) (g : TG) (tb : TS) : TS := fun D σ H => wi σ H fun J H1 => ∃ W : Nat → Nat → St → Hp → Prop, (∃ m, W 0 m σ H1) ∧ ∀ i m σ H, W i m σ H →
  (J.stop i H ∧ D.nx σ H) ∨ (J.go i H ∧ ∃ N : St → Hp → Prop, (∀ σ' H', N σ' H' → ∃ m', m' < m ∧ W (i + 1) m' σ' H') ∧ ∀ x H', J.yld i H x H' → g x σ H' fun σ2 H2 => tb { D with nx := N, ct := N, bk := D.nx } σ2 H2)
def pinsAt (fp : List Addr) (h : Heap) : List (Addr × Obj) := fp.filterMap fun b => (h.get? b).map fun o => (b, o)
theorem mem_pinsAt {fp : List Addr} {h : Heap} {b : Addr} {o : Obj} (hb : b ∈ fp) (e : h.get? b = some o) : (b, o) ∈ pinsAt fp h := List.mem_filterMap.mpr ⟨b, hb, by rw [e]; rfl⟩
theorem of_pinsAt {fp : List Addr} {h : Heap} {p : Addr × Obj} (hp : p ∈ pinsAt fp h) : p.1 ∈ fp ∧ h.get? p.1 = some p.2 := by
  obtain ⟨b, hb, e⟩ := List.mem_filterMap.mp hp
  cases q : h.get? b with
  | none => rw [q] at e; cases e
  | some o =>
    rw [q] at e
    have e' : (b, o) = p := Option.some.inj e
    subst e'
    exact ⟨hb, q⟩
theorem Inv.pinned {pins : List (Addr × Obj)} {σ : St} {H : Hp} {s : Shared} {fp : List Addr} (I : Inv X pins σ H s) (hf : ∀ b ∈ fp, FpOk X pins H b) (ho : ∀ b ∈ fp, ∃ o, s.heap.get? b = some o ∧ ∀ v, o.data ≠ .cell v) : Inv X (pins ++ pinsAt fp s.heap) σ H s :=
  I.pins_of fun p hp => (List.mem_append.mp hp).elim (fun z => I.pin p (List.mem_append_right _ z)) fun z => by
    obtain ⟨hb, e⟩ := of_pinsAt z
    obtain ⟨f0, f1, f2, _⟩ := hf p.1 hb
    obtain ⟨o, e', d⟩ := ho p.1 hb
    rw [e] at e'; cases e'
    exact ⟨e, f0, f1, f2, d⟩
theorem Inv.unpinned {pins pl : List (Addr × Obj)} {σ : St} {H : Hp} {s : Shared} (I : Inv X (pins ++ pl) σ H s) : Inv X pins σ H s := I.pins_of fun p hp => I.pin p (List.mem_append_right _ (List.mem_append_left _ hp))
theorem ps_for {iter : Expr} {body : List Stmt} {wi : TI} {g : TG} {tb : TS} {pos : Pos} (hp : PassesOwn (model X.prog X.w) X.A X.env X.xe) (hc : X.calm = true) (hi : PI X tg iter wi) (hg : PG X tg g) (hb : PSs X body tb)
    (hs : ∀ x, foldedSetIterable iter X.env x = pure x := by intro _; rfl) : PS X (.For tg iter body [] pos) (tFor wi g tb) := by
  intro pins s σ H D I h
  refine wpAny_For (thn (hi pins s σ H _ I h) fun v s1 h1 => thn h1 fun itv s2 h2 => ?_) hs
  obtain ⟨it, fp, tn, J, H2, e, I2, T, st2, f2, W, ⟨m0, w0⟩, turn⟩ := h2
  subst e
  -- what stays true of the iterator's objects through the loop
  have stat : ∀ {H' : Hp}, (∀ b ∈ fp, H' b = none) → ∀ b ∈ fp, FpOk X pins H' b := fun hn b hb => ⟨hn b hb, (f2 b hb).2⟩
  refine codeAny_forLoop_any (fun n s' => ∃ i σ' H', Inv X pins σ' H' s' ∧ tn i s'.heap ∧ (∀ b ∈ fp, H' b = none) ∧ W i n σ' H') ?_ m0 ⟨0, σ, H2, I2, st2, fun b hb => (f2 b hb).1, w0⟩
  rintro n s3 ⟨i, σ3, H3, I3, st3, fr3, w3⟩
  rcases turn i n σ3 H3 w3 with ⟨stop, qn⟩ | ⟨go, N, hN, step⟩
  · refine wpAny_passesOwn hp (thn (T.done X rfl rfl rfl hc i pins s3 σ3 H3 X.xe I3 (stat fr3) st3 stop) fun r s4 ⟨hr, I4⟩ => ?_)
    subst hr
    exact wpAny_execs_nil ⟨σ3, H3, I4, qn⟩
  · refine wpAny_passesOwn hp (thn (T.item X rfl rfl rfl hc i pins s3 σ3 H3 X.xe I3 (stat fr3) st3 go) fun r s4 ⟨u, hr, h4⟩ => ?_)
    subst hr
    refine wpAny_passesOwn hp (thn h4 fun _ s5 ⟨x, H5, I5, r5, y5, st5, fr5⟩ => ?_)
    have I5' := I5.pinned (stat fr5) (T.obj _ _ st5)
    refine wpAny_passesOwn hp (thn (hg _ s5 σ3 H5 x u _ I5' r5 (step x H5 y5)) fun _ s6 ⟨σ6, H6, I6, q6⟩ => ?_)
    refine wpAny_passesOwn hp (thn (hb _ s6 σ6 H6 _ I6 q6) fun f s7 q7 => ?_)
    have again : ∀ {σ7 : St} {H7 : Hp}, Inv X (pins ++ pinsAt fp s5.heap) σ7 H7 s7 → N σ7 H7 → ∃ m, m < n ∧ ∃ i σ' H', Inv X pins σ' H' s7 ∧ tn i s7.heap ∧ (∀ b ∈ fp, H' b = none) ∧ W i m σ' H' := fun {σ7 H7} I7 n7 => by
      obtain ⟨m', hm, w7⟩ := hN σ7 H7 n7
      refine ⟨m', hm, i + 1, σ7, H7, I7.unpinned, T.keep _ _ _ st5 fun b hb o e => (I7.pin (b, o) (List.mem_append_right _ (List.mem_append_right _ (mem_pinsAt hb e)))).1, fun b hb => ?_, w7⟩
      obtain ⟨o, e, d⟩ := T.obj _ _ st5 b hb
      exact (I7.pin (b, o) (List.mem_append_right _ (List.mem_append_right _ (mem_pinsAt hb e)))).2.1
    cases f with
    | next => obtain ⟨σ7, H7, I7, n7⟩ := q7; exact again I7 n7
    | cont => obtain ⟨σ7, H7, I7, n7⟩ := q7; exact again I7 n7
    | brk => obtain ⟨σ7, H7, I7, q7⟩ := q7; exact ⟨σ7, H7, I7.unpinned, q7⟩
    | ret v => obtain ⟨x7, σ7, H7, I7, r7, q7⟩ := q7; exact ⟨x7, σ7, H7, I7.unpinned, r7, q7⟩
end
theorem for_list {K : PySem.W.Frag} {a : Addr} {xs : List V} {g : TG} {tb : TS} {D : Ends} {σ : St} {H : Hp} (Pv : Nat → St → Hp → Prop) (h0 : Pv 0 σ H) (hl : ∀ i σ H, i ≤ xs.length → Pv i σ H → SqL K H a xs)
    (hs : ∀ i x σ H, xs[i]? = some x → Pv i σ H → g x σ H fun σ2 H2 => tb { D with nx := Pv (i + 1), ct := Pv (i + 1), bk := D.nx } σ2 H2) (hd : ∀ σ H, Pv xs.length σ H → D.nx σ H) :
    ∃ W : Nat → Nat → St → Hp → Prop, (∃ m, W 0 m σ H) ∧ ∀ i m σ H, W i m σ H →
      ((Itl K a).stop i H ∧ D.nx σ H) ∨ ((Itl K a).go i H ∧ ∃ N : St → Hp → Prop, (∀ σ' H', N σ' H' → ∃ m', m' < m ∧ W (i + 1) m' σ' H') ∧ ∀ x H', (Itl K a).yld i H x H' → g x σ H' fun σ2 H2 => tb { D with nx := N, ct := N, bk := D.nx } σ2 H2) := by
  refine ⟨fun i m σ H => m = xs.length - i ∧ i ≤ xs.length ∧ Pv i σ H, ⟨xs.length, by simp, Nat.zero_le _, h0⟩, ?_⟩
  rintro i m σ H ⟨rfl, hi, p⟩
  have q := hl i σ H hi p
  by_cases hlt : i < xs.length
  · refine .inr ⟨⟨xs, xs[i], q, by simp [hlt]⟩, Pv (i + 1), fun σ' H' p' => ⟨xs.length - (i + 1), by omega, rfl, hlt, p'⟩, fun x H' y => ?_⟩
    obtain ⟨e, y⟩ := y
    subst e
    exact hs i x σ _ (y xs q) p
  · have e : i = xs.length := by omega
    subst e
    exact .inl ⟨⟨xs, q, Nat.le_refl _⟩, hd σ H p⟩
theorem for_range {lo : Int} {n : Nat} {g : TG} {tb : TS} {D : Ends} {σ : St} {H : Hp} (Pv : Nat → St → Hp → Prop) (h0 : Pv 0 σ H)
    (hs : ∀ i σ H, i < n → Pv i σ H → g (.int (lo + i)) σ H fun σ2 H2 => tb { D with nx := Pv (i + 1), ct := Pv (i + 1), bk := D.nx } σ2 H2) (hd : ∀ σ H, Pv n σ H → D.nx σ H) :
    ∃ W : Nat → Nat → St → Hp → Prop, (∃ m, W 0 m σ H) ∧ ∀ i m σ H, W i m σ H →
      ((Itr lo n).stop i H ∧ D.nx σ H) ∨ ((Itr lo n).go i H ∧ ∃ N : St → Hp → Prop, (∀ σ' H', N σ' H' → ∃ m', m' < m ∧ W (i + 1) m' σ' H') ∧ ∀ x H', (Itr lo n).yld i H x H' → g x σ H' fun σ2 H2 => tb { D with nx := N, ct := N, bk := D.nx } σ2 H2) := by
  refine ⟨fun i m σ H => m = n - i ∧ i ≤ n ∧ Pv i σ H, ⟨n, by simp, Nat.zero_le _, h0⟩, ?_⟩
  rintro i m σ H ⟨rfl, hi, p⟩
  by_cases hlt : i < n
  · refine .inr ⟨hlt, Pv (i + 1), fun σ' H' p' => ⟨n - (i + 1), by omega, rfl, hlt, p'⟩, fun x H' y => ?_⟩
    obtain ⟨e, y⟩ := y
    subst e y
    exact hs i σ _ hlt p
  · have e : i = n := by omega
    subst e
    exact .inl ⟨Nat.le_refl _, hd σ H p⟩
theorem while_by {c : TT} {tb : TS} {D : Ends} {σ : St} {H : Hp} (Pv : St → Hp → Prop) (μ : St → Hp → Nat) (h0 : Pv σ H)
    (hs : ∀ σ H, Pv σ H → c σ H fun b H1 => if b = true then tb { D with nx := fun σ' H' => Pv σ' H' ∧ μ σ' H' < μ σ H, ct := fun σ' H' => Pv σ' H' ∧ μ σ' H' < μ σ H, bk := D.nx } σ H1 else D.nx σ H1)
    (mono : ∀ σ H Q Q', (∀ b H1, Q b H1 → Q' b H1) → c σ H Q → c σ H Q') : tWhile c tb D σ H := by
  refine ⟨fun m σ H => m = μ σ H ∧ Pv σ H, ⟨_, rfl, h0⟩, ?_⟩
  rintro m σ H ⟨rfl, p⟩
  refine mono σ H _ _ (fun b H1 q => ?_) (hs σ H p)
  cases b with
  | true => exact ⟨_, fun σ' H' ⟨p', l⟩ => ⟨_, l, rfl, p'⟩, q⟩
  | false => exact q
end L2
namespace L2
open PySem PySem.Spec PyProof.Rows
abbrev R2 := V → V → Hp → VK → Prop
def OpR (X : Cx) (f : Value → Value → Sem Value) (r : R2) : Prop :=
  ∀ (pins : List (Addr × Obj)) (s : Shared) (σ : St) (H : Hp) (x y : V) (v u : Value) (Q : VK), Inv X pins σ H s → RelV x v → RelV y u → r x y H Q →
    wpAny (model X.prog X.w) X.A (f v u) (EP X pins σ Q) X.xe s
def CallR (X : Cx) (f : Value) (r : List V → Hp → VK → Prop) : Prop :=
  ∀ (pins : List (Addr × Obj)) (s : Shared) (σ : St) (H : Hp) (xs : List V) (us : List Value) (Q : VK), Inv X pins σ H s → Vals xs us → r xs H Q →
    wpAny (model X.prog X.w) X.A (call f us) (EP X pins σ Q) X.xe s
def tOp (r : R2) (ta tb : TE) : TE := fun σ H Q => ta σ H fun x H1 => tb σ H1 fun y H2 => r x y H2 Q
def rI (C : Int → Int → Prop) (g : Int → Int → V) : R2 := fun x y H Q => ∃ i j, x = .int i ∧ y = .int j ∧ C i j ∧ Q (g i j) H
def rI0 (g : Int → Int → V) : R2 := fun x y H Q => ∃ i j, x = .int i ∧ y = .int j ∧ Q (g i j) H
section
variable {X : Cx} {a b c : Expr} {ta tb tc : TE} {pos : Pos}
theorem binT (ha : PE X a ta) (hb : PE X b tb) {pins : List (Addr × Obj)} {s : Shared} {σ : St} {H : Hp} {R : V → V → Hp → Prop} (I : Inv X pins σ H s)
    (h : ta σ H fun x H1 => tb σ H1 fun y H2 => R x y H2) {Q : Value → Shared → Prop} {f : Value → Value → Sem Value}
    (hf : ∀ v u s2 x y H2, Inv X pins σ H2 s2 → RelV x v → RelV y u → R x y H2 → wpAny (model X.prog X.w) X.A (f v u) Q X.xe s2) :
    wpAny (model X.prog X.w) X.A (eval a X.env) (fun v s₁ => wpAny (model X.prog X.w) X.A (eval b X.env) (fun u s₂ => wpAny (model X.prog X.w) X.A (f v u) Q X.xe s₂) X.xe s₁) X.xe s := by
  refine thn (ha pins s σ H _ I h) fun v s1 ⟨x, H1, I1, r1, q1⟩ => ?_
  refine thn (hb pins s1 σ H1 _ I1 q1) fun u s2 ⟨y, H2, I2, r2, q2⟩ => ?_
  exact hf v u s2 x y H2 I2 r1 r2 q2
theorem pe_op {op : Operator} {r : R2} (ho : OpR X (binaryOp op) r) (ha : PE X a ta) (hb : PE X b tb) : PE X (.BinOp a op b pos) (tOp r ta tb) := by
  intro pins s σ H Q I h
  exact wpAny_BinOp (binT ha hb I h fun v u s2 x y H2 I2 rx ry q => ho pins s2 σ H2 x y v u Q I2 rx ry q)
theorem opI {f : Value → Value → Sem Value} {C : Int → Int → Prop} {g : Int → Int → Int}
    (rule : ∀ (i j : Int) (t u : Tok) (s : Shared) (Q : Value → Shared → Prop) (E : Value → Shared → Prop), C i j → Q (.int (g i j) s.toks) { s with toks := s.toks + 1 } → wpAny (model X.prog X.w) X.A (f (.int i t) (.int j u)) Q E s) :
    OpR X f (rI C fun i j => .int (g i j)) := by
  intro pins s σ H x y v u Q I rx ry h
  obtain ⟨i, j, rfl, rfl, hc, q⟩ := h
  obtain ⟨t, rfl⟩ := rx
  obtain ⟨t', rfl⟩ := ry
  exact rule i j t t' s _ _ hc ⟨.int (g i j), H, I.tok _, ⟨_, rfl⟩, q⟩
theorem opI0 {f : Value → Value → Sem Value} {g : Int → Int → Int}
    (rule : ∀ (i j : Int) (t u : Tok) (s : Shared) (Q : Value → Shared → Prop) (E : Value → Shared → Prop), Q (.int (g i j) s.toks) { s with toks := s.toks + 1 } → wpAny (model X.prog X.w) X.A (f (.int i t) (.int j u)) Q E s) :
    OpR X f (rI0 fun i j => .int (g i j)) := by
  intro pins s σ H x y v u Q I rx ry h
  obtain ⟨i, j, rfl, rfl, q⟩ := h
  obtain ⟨t, rfl⟩ := rx
  obtain ⟨t', rfl⟩ := ry
  exact rule i j t t' s _ _ ⟨.int (g i j), H, I.tok _, ⟨_, rfl⟩, q⟩
theorem opB0 {f : Value → Value → Sem Value} {g : Int → Int → Bool}
    (rule : ∀ (i j : Int) (t u : Tok) (s : Shared) (Q : Value → Shared → Prop) (E : Value → Shared → Prop), Q (.bool (g i j)) s → wpAny (model X.prog X.w) X.A (f (.int i t) (.int j u)) Q E s) :
    OpR X f (rI0 fun i j => .bl (g i j)) := by
  intro pins s σ H x y v u Q I rx ry h
  obtain ⟨i, j, rfl, rfl, q⟩ := h
  obtain ⟨t, rfl⟩ := rx
  obtain ⟨t', rfl⟩ := ry
  exact rule i j t t' s _ _ ⟨.bl (g i j), H, I, rfl, q⟩
def CDiv (i j : Int) : Prop := 0 < j ∧ j < 1073741824
def CMul (i j : Int) : Prop := (-(2 ^ 64) < i ∧ i < 2 ^ 64) ∨ (-(2 ^ 64) < j ∧ j < 2 ^ 64)
theorem CMul.ok {i j : Int} (h : CMul i j) : IntMulOk i j := by
  rcases h with ⟨h1, h2⟩ | ⟨h1, h2⟩
  · exact .of_left (intBits_le_64 h1 h2)
  · exact .of_right (intBits_le_64 h1 h2)
theorem op_add : OpR X (binaryOp .Add) (rI0 fun i j => .int (i + j)) := opI0 fun _ _ _ _ _ _ _ q => add_int q
theorem op_sub : OpR X (binaryOp .Sub) (rI0 fun i j => .int (i - j)) := opI0 fun _ _ _ _ _ _ _ q => sub_int q
theorem op_mul : OpR X (binaryOp .Mult) (rI CMul fun i j => .int (i * j)) := opI fun _ _ _ _ _ _ _ hc q => mul_int q hc.ok
theorem op_fdiv : OpR X (binaryOp .FloorDiv) (rI CDiv fun i j => .int (i / j)) := opI fun i j _ _ _ _ _ hc q => by
  have h1 : (0 : Int) < j := hc.1
  have h2 : j < 1073741824 := hc.2
  exact floordiv_int (by omega) (by rw [Int.fdiv_eq_ediv_of_nonneg i (by omega)]; exact q) (.inl (PyProof.noPylong_small (by omega)))
theorem op_mod : OpR X (binaryOp .Mod) (rI (fun _ j => 0 < j) fun i j => .int (i % j)) := opI fun i j _ _ _ _ _ hc q => by
  have h1 : (0 : Int) < j := hc
  exact mod_int' (by omega) (by rw [Int.fmod_eq_emod_of_nonneg i (by omega)]; exact q)
end
def scal : V → V → Bool
  | .non, .non => true | .non, .int _ => true | .int _, .non => true | .non, .bl _ => true | .bl _, .non => true | .non, .str _ => true | .str _, .non => true
  | .int _, .int _ => true | .bl _, .bl _ => true | .str _, .str _ => true | .byt _, .byt _ => true
  | .int _, .str _ => true | .str _, .int _ => true | .bl _, .str _ => true | .str _, .bl _ => true
  | _, _ => false
def rEq : R2 := fun x y H Q => scal x y = true ∧ Q (.bl (decide (x = y))) H
def rNe : R2 := fun x y H Q => scal x y = true ∧ Q (.bl (!decide (x = y))) H
theorem dec_int {i j : Int} : decide (V.int i = V.int j) = (i == j) := by
  rw [Bool.eq_iff_iff]
  simp
theorem dec_bl {i j : Bool} : decide (V.bl i = V.bl j) = (i == j) := by
  rw [Bool.eq_iff_iff]
  simp
theorem dec_str {i j : Str} : decide (V.str i = V.str j) = (i == j) := by
  rw [Bool.eq_iff_iff]
  simp
theorem dec_byt {i j : Array UInt8} : decide (V.byt i = V.byt j) = (i.toList == j.toList) := by
  rw [Bool.eq_iff_iff]
  cases i
  cases j
  simp
section
variable {X : Cx} {a b c : Expr} {ta tb tc : TE} {pos : Pos}
theorem fin_bl {pins : List (Addr × Obj)} {σ : St} {H : Hp} {s : Shared} {Q : VK} {k k' : Bool} (I : Inv X pins σ H s) (q : Q (.bl k) H) (e : k = k') : EP X pins σ Q (.bool k') s := by
  subst e
  exact ⟨.bl k, H, I, rfl, q⟩
theorem op_eq : OpR X (compareOp .Eq) rEq := by
  intro pins s σ H x y v u Q I rx ry h
  obtain ⟨hs, q⟩ := h
  cases x with
  | non =>
    cases rx
    cases y with
    | non => cases ry; exact PySem.EqNone.eq_none_none (fin_bl I q (by simp))
    | bl j => cases ry; exact PySem.EqNone.eq_none_bool (fin_bl I q (by simp))
    | int j => obtain ⟨t', rfl⟩ := ry; exact PySem.EqNone.eq_none_int (fin_bl I q (by simp))
    | str j => obtain ⟨t', rfl⟩ := ry; exact PySem.EqNone.eq_none_str (fin_bl I q (by simp))
    | _ => exact absurd (show false = true from hs) Bool.false_ne_true
  | bl i =>
    cases rx
    cases y with
    | non => cases ry; exact PySem.EqNone.eq_bool_none (fin_bl I q (by simp))
    | bl j => cases ry; exact eq_bool (fin_bl I q dec_bl)
    | str j => obtain ⟨t', rfl⟩ := ry; exact PySem.EqMixed.eq_bool_str (fin_bl I q (by simp))
    | _ => exact absurd (show false = true from hs) Bool.false_ne_true
  | int i =>
    obtain ⟨t, rfl⟩ := rx
    cases y with
    | non => cases ry; exact PySem.EqNone.eq_int_none (fin_bl I q (by simp))
    | int j => obtain ⟨t', rfl⟩ := ry; exact eq_int (fin_bl I q dec_int)
    | str j => obtain ⟨t', rfl⟩ := ry; exact PySem.EqMixed.eq_int_str (fin_bl I q (by simp))
    | _ => exact absurd (show false = true from hs) Bool.false_ne_true
  | str i =>
    obtain ⟨t, rfl⟩ := rx
    cases y with
    | non => cases ry; exact PySem.EqNone.eq_str_none (fin_bl I q (by simp))
    | bl j => cases ry; exact PySem.EqMixed.eq_str_bool (fin_bl I q (by simp))
    | int j => obtain ⟨t', rfl⟩ := ry; exact PySem.EqMixed.eq_str_int (fin_bl I q (by simp))
    | str j => obtain ⟨t', rfl⟩ := ry; exact eq_str (fin_bl I q dec_str)
    | _ => exact absurd (show false = true from hs) Bool.false_ne_true
  | byt i =>
    obtain ⟨t, rfl⟩ := rx
    cases y with
    | byt j => obtain ⟨t', rfl⟩ := ry; exact PySem.W.eq_bytes (fin_bl I q dec_byt)
    | _ => exact absurd (show false = true from hs) Bool.false_ne_true
  | _ => cases y <;> exact absurd (show false = true from hs) Bool.false_ne_true
theorem op_ne : OpR X (compareOp .NotEq) rNe := by
  intro pins s σ H x y v u Q I rx ry h
  obtain ⟨hs, q⟩ := h
  cases x with
  | non =>
    cases rx
    cases y with
    | non => cases ry; exact PySem.EqNone.ne_none_none (fin_bl I q (by simp))
    | bl j => cases ry; exact PySem.EqNone.ne_none_bool (fin_bl I q (by simp))
    | int j => obtain ⟨t', rfl⟩ := ry; exact PySem.EqNone.ne_none_int (fin_bl I q (by simp))
    | str j => obtain ⟨t', rfl⟩ := ry; exact PySem.EqNone.ne_none_str (fin_bl I q (by simp))
    | _ => exact absurd (show false = true from hs) Bool.false_ne_true
  | bl i =>
    cases rx
    cases y with
    | non => cases ry; exact PySem.EqNone.ne_bool_none (fin_bl I q (by simp))
    | bl j => cases ry; exact ne_bool (fin_bl I q (congrArg not dec_bl))
    | str j => obtain ⟨t', rfl⟩ := ry; exact PySem.EqMixed.ne_bool_str (fin_bl I q (by simp))
    | _ => exact absurd (show false = true from hs) Bool.false_ne_true
  | int i =>
    obtain ⟨t, rfl⟩ := rx
    cases y with
    | non => cases ry; exact PySem.EqNone.ne_int_none (fin_bl I q (by simp))
    | int j => obtain ⟨t', rfl⟩ := ry; exact ne_int (fin_bl I q (congrArg not dec_int))
    | str j => obtain ⟨t', rfl⟩ := ry; exact PySem.EqMixed.ne_int_str (fin_bl I q (by simp))
    | _ => exact absurd (show false = true from hs) Bool.false_ne_true
  | str i =>
    obtain ⟨t, rfl⟩ := rx
    cases y with
    | non => cases ry; exact PySem.EqNone.ne_str_none (fin_bl I q (by simp))
    | bl j => cases ry; exact PySem.EqMixed.ne_str_bool (fin_bl I q (by simp))
    | int j => obtain ⟨t', rfl⟩ := ry; exact PySem.EqMixed.ne_str_int (fin_bl I q (by simp))
    | str j => obtain ⟨t', rfl⟩ := ry; exact ne_str (fin_bl I q (congrArg not dec_str))
    | _ => exact absurd (show false = true from hs) Bool.false_ne_true
  | byt i =>
    obtain ⟨t, rfl⟩ := rx
    cases y with
    | byt j => obtain ⟨t', rfl⟩ := ry; exact PySem.W.ne_bytes (fin_bl I q (congrArg not dec_byt))
    | _ => exact absurd (show false = true from hs) Bool.false_ne_true
  | _ => cases y <;> exact absurd (show false = true from hs) Bool.false_ne_true
theorem op_lt : OpR X (compareOp .Lt) (rI0 fun i j => .bl (decide (i < j))) := opB0 fun _ _ _ _ _ _ _ q => lt_int q
theorem op_le : OpR X (compareOp .LtE) (rI0 fun i j => .bl (decide (i ≤ j))) := opB0 fun _ _ _ _ _ _ _ q => le_int q
theorem op_gt : OpR X (compareOp .Gt) (rI0 fun i j => .bl (decide (j < i))) := opB0 fun _ _ _ _ _ _ _ q => gt_int q
theorem op_ge : OpR X (compareOp .GtE) (rI0 fun i j => .bl (decide (j ≤ i))) := opB0 fun _ _ _ _ _ _ _ q => ge_int q
theorem op_isN : OpR X (compareOp .Is) (fun x y H Q => y = .non ∧ Q (.bl (decide (x = .non))) H) := by
  intro pins s σ H x y v u Q I rx ry h
  obtain ⟨rfl, q⟩ := h
  cases ry
  refine is_none_gen (fin_bl I q ?_)
  cases x <;> first
    | (cases rx; rfl)
    | (obtain ⟨t, rfl⟩ := rx; rfl)
theorem op_notN : OpR X (compareOp .IsNot) (fun x y H Q => y = .non ∧ Q (.bl (!decide (x = .non))) H) := by
  intro pins s σ H x y v u Q I rx ry h
  obtain ⟨rfl, q⟩ := h
  cases ry
  refine isnot_none_gen (fin_bl I q ?_)
  cases x <;> first
    | (cases rx; rfl)
    | (obtain ⟨t, rfl⟩ := rx; rfl)
theorem nomark (b : Expr) {op : CmpOp} (h : op ≠ .In := by decide) (h2 : op ≠ .NotIn := by decide) : behindInMarks op b = false := by
  have e1 : (op == CmpOp.In) = false := by cases op <;> first | rfl | exact absurd rfl h
  have e2 : (op == CmpOp.NotIn) = false := by cases op <;> first | rfl | exact absurd rfl h2
  cases b <;> simp [behindInMarks, e1, e2]
theorem pe_cmpR {op : CmpOp} {r : R2} (ho : OpR X (compareOp op) r) (ha : PE X a ta) (hb : PE X b tb) (hm : behindInMarks op b = false) : PE X (.Compare a [op] [b] pos) (tOp r ta tb) := by
  intro pins s σ H Q I h
  exact wpAny_Compare1 (binT ha hb I h fun v u s2 x y H2 I2 rx ry q => ho pins s2 σ H2 x y v u Q I2 rx ry q) hm
def tTest (t : TE) : TT := fun σ H Q => t σ H fun x H' => ∃ k, x = .bl k ∧ Q k H'
theorem pt_cmpR {op : CmpOp} {r : R2} (ho : OpR X (compareOp op) r) (ha : PE X a ta) (hb : PE X b tb) (hm : behindInMarks op b = false) : PT X (.Compare a [op] [b] pos) (tTest (tOp r ta tb)) := by
  intro pins s σ H Q I h
  refine wpAny_isTrue_Compare1 (thn (ha pins s σ H _ I h) fun v s1 ⟨x, H1, I1, r1, q1⟩ => thn (hb pins s1 σ H1 _ I1 q1) fun u s2 ⟨y, H2, I2, r2, q2⟩ =>
    thn (ho pins s2 σ H2 x y v u _ I2 r1 r2 q2) fun c s3 ⟨z, H3, I3, r3, k, e, q3⟩ => ?_) hm
  subst e
  cases r3
  exact wpAny_truthy_bool ⟨H3, I3, q3⟩
def tChain (r r' : R2) (ta tb tc : TE) : TE := fun σ H Q => ta σ H fun x H1 => tb σ H1 fun y H2 => r x y H2 fun z H3 => ∃ k, z = .bl k ∧
  (if k = true then tc σ H3 fun w' H4 => r' y w' H4 Q else Q (.bl false) H3)
theorem pe_chain {op op' : CmpOp} {r r' : R2} (ho : OpR X (compareOp op) r) (ho' : OpR X (compareOp op') r') (ha : PE X a ta) (hb : PE X b tb) (hc : PE X c tc)
    (hm : lastMarks [op, op'] [b, c] = false := by with_unfolding_all rfl) : PE X (.Compare a [op, op'] [b, c] pos) (tChain r r' ta tb tc) := by
  intro pins s σ H Q I h
  refine Compare_chain (thn (ha pins s σ H _ I h) fun v s1 ⟨x, H1, I1, r1, q1⟩ => chain_link (thn (hb pins s1 σ H1 _ I1 q1) fun u s2 ⟨y, H2, I2, r2, q2⟩ =>
    thn (ho pins s2 σ H2 x y v u _ I2 r1 r2 q2) fun d s3 ⟨z, H3, I3, r3, k, e, q3⟩ => ?_)) hm
  subst e
  cases r3
  refine wpAny_truthy_bool ?_
  cases k with
  | false => exact ite_ff ⟨.bl false, H3, I3, rfl, q3⟩
  | true => exact ite_tt (chain_last (thn (hc pins s3 σ H3 _ I3 q3) fun w' s4 ⟨z', H4, I4, r4, q4⟩ => ho' pins s4 σ H4 y z' u w' Q I4 r2 r4 q4))
theorem pt_chain {op op' : CmpOp} {r r' : R2} (ho : OpR X (compareOp op) r) (ho' : OpR X (compareOp op') r') (ha : PE X a ta) (hb : PE X b tb) (hc : PE X c tc)
    (hm : lastMarks [op, op'] [b, c] = false := by with_unfolding_all rfl) : PT X (.Compare a [op, op'] [b, c] pos) (tTest (tChain r r' ta tb tc)) := by
  intro pins s σ H Q I h
  refine isTrue_chain (thn (ha pins s σ H _ I h) fun v s1 ⟨x, H1, I1, r1, q1⟩ => test_link (thn (hb pins s1 σ H1 _ I1 q1) fun u s2 ⟨y, H2, I2, r2, q2⟩ =>
    thn (ho pins s2 σ H2 x y v u _ I2 r1 r2 q2) fun d s3 ⟨z, H3, I3, r3, k, e, q3⟩ => ?_)) hm
  subst e
  cases r3
  refine wpAny_truthy_bool ?_
  cases k with
  | false =>
    obtain ⟨k', e', q'⟩ := q3
    cases e'
    exact ite_ff ⟨H3, I3, q'⟩
  | true =>
    refine ite_tt (test_last (thn (hc pins s3 σ H3 _ I3 q3) fun w' s4 ⟨z', H4, I4, r4, q4⟩ => thn (ho' pins s4 σ H4 y z' u w' _ I4 r2 r4 q4) fun d' s5 ⟨z2, H5, I5, r5, k2, e2, q5⟩ => ?_))
    subst e2
    cases r5
    exact wpAny_truthy_bool ⟨H5, I5, q5⟩
theorem line63 : (sizeLine : Nat) < 2 ^ 63 := by rw [sizeLine_eq]; decide
theorem vals1 {x : V} {us : List Value} (r : Vals [x] us) : ∃ u, us = [u] ∧ RelV x u := by
  cases r with
  | cons r1 r2 => cases r2; exact ⟨_, rfl, r1⟩
theorem call_str_int : CallR X (.type "str") (fun xs H Q => ∃ i, xs = [.int i] ∧ i.natAbs.log2 < 1920 ∧ Q (.str (toString i)) H) := by
  intro pins s σ H xs us Q I r h
  obtain ⟨i, rfl, hz, q⟩ := h
  obtain ⟨u, rfl, t, rfl⟩ := vals1 r
  exact PySem.P.str_of_int hz ⟨.str _, H, I.tok _, ⟨_, rfl⟩, q⟩
theorem call_ord : CallR X (.builtin "ord") (fun xs H Q => ∃ x, xs = [.str x] ∧ x.length = 1 ∧ Q (.int (x.cps.getD 0 0 : Nat)) H) := by
  intro pins s σ H xs us Q I r h
  obtain ⟨x, rfl, hz, q⟩ := h
  obtain ⟨u, rfl, t, rfl⟩ := vals1 r
  exact ord_of_one hz ⟨.int _, H, I.tok _, ⟨_, rfl⟩, q⟩
end
end L2
namespace L2
open PySem PySem.Spec PyProof.Rows
structure ObjM (h : Heap) (x dx C : Addr) (mA : Str → Option Value) : Prop where
  obj : h.get? x = some (PySem.W.instObj C dx)
  ns : h.Ns1 dx mA
  ne : dx ≠ x
theorem lookIn_ns {h : Heap} {dx : Addr} {mA : Str → Option Value} (n : h.Ns1 dx mA) : ∃ od, h.get? dx = some od ∧ ∀ name, PySem.W.lookIn name od = some (mA name) := by
  obtain ⟨o, es, ep, ho, hd, hk, _, hm⟩ := n
  refine ⟨o, ho, fun name => ?_⟩
  have e := hm name
  unfold nsFind findBy at e
  rw [← Array.find?_toList] at e
  unfold PySem.W.lookIn
  rw [hd]
  dsimp only
  split
  · rename_i y q
    rw [q] at e
    exact congrArg some e
  · rename_i q
    rw [q] at e
    have a : es.toList.any (·.refKey) = false := by
      rw [List.any_eq_false]
      intro y hy
      obtain ⟨z, t, hkey⟩ := hk y (Array.mem_toList_iff.mp hy)
      simp [DictEntry.refKey, hkey]
    have a' : ¬ es.toList.any (·.refKey) = true := by rw [a]; exact Bool.false_ne_true
    rw [if_neg a']
    exact congrArg some e
theorem ObjM.look {h : Heap} {x dx C : Addr} {mA : Str → Option Value} (I : ObjM h x dx C mA) : ∃ od, PySem.W.InstAt h x (PySem.W.instObj C dx) C (some od) ∧ ∀ name, PySem.W.lookIn name od = some (mA name) :=
  let ⟨od, ho, hl⟩ := lookIn_ns I.ns
  ⟨od, ⟨I.obj, rfl, rfl, ho⟩, hl⟩
section
variable {prog : Program} {w : World} {A : Around} {E : Value → Shared → Prop} {s : Shared} {K : PySem.W.Frag} {x dx C f : Addr} {mA : Str → Option Value} {name : Str} {v : Value}
theorem get_map {expr : Bool} {Q : Value → Shared → Prop} (X : K.In s.heap) (I : ObjM s.heap x dx C mA) (hg : PySem.W.plainGet K C name = true) (hh : PySem.W.hasDictIn K C = true)
    (ha : PySem.W.findIn K (.ref C) name = some none) (hv : mA name = some v) (hv' : PySem.W.handedIn v = true) (h : Q v { s with toks := s.toks + 1 }) :
    wpAny (model prog w) A (getAttr (.ref x) name expr) Q E s := by
  obtain ⟨od, J, hl⟩ := I.look
  exact PySem.W.get_value X J (PySem.W.plainGet_of hg).1 (PySem.W.findObj_own hh ha rfl (by rw [hl, hv])) hv' h
theorem get_meth {pl : Sem Bool} {Q : Value × List Value → Shared → Prop} (X : K.In s.heap) (I : ObjM s.heap x dx C mA) (hg : PySem.W.plainGet K C name = true)
    (hf : PySem.W.findIn K (.ref C) name = some (some (.ref f))) (ht : PySem.W.isFn K (.ref f) = true) (hv : mA name = none) (h : Q (.ref f, [.ref x]) s) :
    wpAny (model prog w) A (getMethod (.ref x) name pl) Q E s := by
  obtain ⟨od, J, hl⟩ := I.look
  exact PySem.W.method_fn X J (PySem.W.plainGet_of hg).1 (PySem.W.plainGet_of hg).2 hf (beq_iff_eq.mp ht) (by show (PySem.W.lookIn name od).map (·.isSome) = some false; rw [hl, hv]; rfl) h
theorem set_map {ns : List Str} {Q : Unit → Shared → Prop} (X : K.In s.heap) (I : ObjM s.heap x dx C mA)
    (hs : PySem.W.findIn K (.ref C) "__setattr__" = some (some (.builtin "object.__setattr__"))) (hp : PySem.W.plainOver K C = true) (ht : PySem.W.takerIn K C name = some none) (hh : PySem.W.hasDictIn K C = true)
    (hw : PySem.Within mA ns) (hsz : ns.length ≤ sizeLine)
    (h : ∀ h', ObjM h' x dx C (fun y => if y = name then some v else mA y) → Heap.SameBut dx s.heap h' → Q () { s with heap := h', toks := s.toks + 2 }) :
    wpAny (model prog w) A (setAttr (.ref x) name v) Q E s := by
  obtain ⟨od, J, hl⟩ := I.look
  refine PySem.W.set_plain X J hs (PySem.W.osa_open (s := { s with toks := s.toks + 1 }) (r := none) X J hp ht fun b => ?_)
  obtain ⟨cd, hc, hd'⟩ := PySem.W.any_some hh
  have hx : s.heap.get? x = some ⟨.ref C, some dx, .plain, #[]⟩ := I.obj
  refine wpAny_bind (wpAny_pure (wpAny_bind (wpAny_bind (wpAny_loadPart hx (wpAny_bind (PySem.W.Looks.here (s := { s with toks := s.toks + 1 }) (PySem.W.looks_clsIn X hc) ?_))))))
  rw [hd']
  refine wpAny_pure (a := some dx) (wpAny_bind (wpAny_pure (wpAny_bind ?_)))
  refine wpAny_nsSet1 (s := { s with toks := s.toks + 1 }) I.ns fun h' hn2 hs2 => ?_
  obtain ⟨oD, esD, epD, hoD, hdD, hcD⟩ := hn2.count (PySem.Within.cons name v hw)
  refine wpAny_bind (wpAny_lookBehind hoD (by rw [hdD]; exact pastItsLine_dict (Nat.le_trans hcD (by rw [List.length_cons]; omega))) ?_)
  exact wpAny_pure (h _ ⟨(hs2.2 _ (Ne.symm I.ne)).trans I.obj, hn2, I.ne⟩ hs2)
theorem make_map {R : Result → Shared → Prop} {vs : List Value} {kw : List (Str × Value)} (X : K.In s.heap) (hm : PySem.W.makesIn K C = true)
    (hi : PySem.W.findIn K (.ref C) "__init__" = some (some (.ref f))) (hf : PySem.W.typeIn K (.ref f) = some (.type "function"))
    (h : codeAny (model prog w) (A.under (.builtin "type.__call__" ⟨.ref C :: vs, kw⟩)) (.call (.ref f) ⟨.ref (s.heap.objs.size + 1) :: vs, kw⟩) (PySem.W.InitBack (s.heap.objs.size + 1) R)
      { s with heap := (s.heap.push PySem.W.emptyDict).push (PySem.W.instObj C s.heap.objs.size) }) :
    codeAny (model prog w) A (.call (.ref C) ⟨vs, kw⟩) R s := by
  obtain ⟨hh, g, d, t, os⟩ := s
  exact PySem.W.make_core (PySem.W.makes_of X hm) (PySem.W.looks_findIn X hi) (fun self => PySem.W.bind_fn X self hf) (.inl rfl) h
end
def putF (f : Str) (v : V) : List (Str × V) → List (Str × V)
  | [] => [(f, v)]
  | (g, x) :: r => if g = f then (g, v) :: r else (g, x) :: putF f v r
theorem lookup_putF (f g : Str) (v : V) : ∀ fs : List (Str × V), (putF f v fs).lookup g = if g = f then some v else fs.lookup g
  | [] => by
    show List.lookup g [(f, v)] = _
    by_cases h : g = f
    · have hb : (g == f) = true := beq_iff_eq.mpr h
      simp only [List.lookup, hb, if_pos h]
    · have hb : (g == f) = false := beq_eq_false_iff_ne.mpr h
      simp only [List.lookup, hb, if_neg h]
  | (k, x) :: r => by
    have ih := lookup_putF f g v r
    rw [show putF f v ((k, x) :: r) = (if k = f then (k, v) :: r else (k, x) :: putF f v r) from rfl]
    by_cases hk : k = f
    · rw [if_pos hk]
      by_cases h : g = k
      · have hb : (g == k) = true := beq_iff_eq.mpr h
        simp only [List.lookup, hb, if_pos (h.trans hk)]
      · have hb : (g == k) = false := beq_eq_false_iff_ne.mpr h
        simp only [List.lookup, hb, if_neg (fun e : g = f => h (e.trans hk.symm))]
    · rw [if_neg hk]
      by_cases h : g = k
      · have hb : (g == k) = true := beq_iff_eq.mpr h
        simp only [List.lookup, hb, if_neg (fun e : g = f => hk (h.symm.trans e))]
      · have hb : (g == k) = false := beq_eq_false_iff_ne.mpr h
        simp only [List.lookup, hb]
        exact ih
theorem keys_putF (f : Str) (v : V) : ∀ fs : List (Str × V), f ∈ (putF f v fs).map (·.1) ∧ ∀ g, g ∈ fs.map (·.1) → g ∈ (putF f v fs).map (·.1)
  | [] => ⟨by simp [putF], fun g h => by simp at h⟩
  | (k, x) :: r => by
    obtain ⟨i1, i2⟩ := keys_putF f v r
    rw [show putF f v ((k, x) :: r) = (if k = f then (k, v) :: r else (k, x) :: putF f v r) from rfl]
    by_cases hk : k = f
    · rw [if_pos hk]
      subst hk
      exact ⟨by simp, fun g h => by simpa using h⟩
    · rw [if_neg hk]
      refine ⟨?_, fun g h => ?_⟩
      · rw [List.map_cons]
        exact List.mem_cons_of_mem _ i1
      · rw [List.map_cons] at h ⊢
        rcases List.mem_cons.mp h with e | e
        · exact List.mem_cons.mpr (.inl e)
        · exact List.mem_cons_of_mem _ (i2 g e)
theorem length_putF (f : Str) (v : V) : ∀ fs : List (Str × V), (putF f v fs).length ≤ fs.length + 1
  | [] => by simp [putF]
  | (k, x) :: r => by
    have ih := length_putF f v r
    rw [show putF f v ((k, x) :: r) = (if k = f then (k, v) :: r else (k, x) :: putF f v r) from rfl]
    by_cases hk : k = f
    · rw [if_pos hk, List.length_cons, List.length_cons]; omega
    · rw [if_neg hk, List.length_cons, List.length_cons]; omega
theorem RelO.some_of {v : V} {o : Option Value} (r : RelO (some v) o) : ∃ u, o = some u ∧ RelV v u := by
  cases o with
  | none => exact (show False from r).elim
  | some u => exact ⟨u, rfl, r⟩
theorem RelO.none_of {o : Option Value} (r : RelO none o) : o = none := by
  cases o with
  | none => rfl
  | some u => exact (show False from r).elim
theorem handed_of {v : V} {u : Value} (r : RelV v u) : PySem.W.handedIn u = true := by
  cases v with
  | non => cases (show u = Value.none from r); rfl
  | bl b => cases (show u = Value.bool b from r); rfl
  | int i => obtain ⟨t, e⟩ := (show ∃ t, u = Value.int i t from r); cases e; rfl
  | str x => obtain ⟨t, e⟩ := (show ∃ t, u = Value.str x t from r); cases e; rfl
  | byt b => obtain ⟨t, e⟩ := (show ∃ t, u = Value.bytes b t from r); cases e; rfl
  | flt b => obtain ⟨t, e⟩ := (show ∃ t, u = Value.float b t from r); cases e; rfl
  | ref a => cases (show u = Value.ref a from r); rfl
  | ty n => cases (show u = Value.type n from r); rfl
section
variable {P : Program} {w : World} {H H' : Hp} {h h' : Heap} {a C dx : Addr} {fs fs' : List (Str × V)}
theorem ins_get (hok : HOk P w H h) (e : H a = some (.ins C dx fs)) : ∃ mA, ObjM h a dx C mA ∧ (∀ f, RelO (fs.lookup f) (mA f)) ∧ PySem.Within mA (fs.map (·.1)) ∧ fs.length ≤ 1000 ∧ H dx = some (.own a) := by
  obtain ⟨d, z, ne, ob, mA, n, r, q⟩ := (show ObjOk P w H h a (.ins C dx fs) from hok a _ e)
  exact ⟨mA, ⟨ob, n, ne⟩, r, q, z, d⟩
end
structure Cls (K : PySem.W.Frag) (C : Addr) : Prop where
  pg : PySem.W.plainGet K C Str.empty = true
  hd : PySem.W.hasDictIn K C = true
  po : PySem.W.plainOver K C = true
  sa : PySem.W.findIn K (.ref C) "__setattr__" = some (some (.builtin "object.__setattr__"))
theorem Cls.get {K : PySem.W.Frag} {C : Addr} (c : Cls K C) (f : Str) : PySem.W.plainGet K C f = true := c.pg
def NoAttr (K : PySem.W.Frag) (C : Addr) (f : Str) : Prop := PySem.W.findIn K (.ref C) f = some none
theorem NoAttr.taker {K : PySem.W.Frag} {C : Addr} {f : Str} (n : NoAttr K C f) : PySem.W.takerIn K C f = some none := by
  unfold PySem.W.takerIn
  rw [show PySem.W.findIn K (.ref C) f = some none from n]
  rfl
structure Meth (K : PySem.W.Frag) (C : Addr) (m : Str) (f : Addr) : Prop where
  at_ : PySem.W.findIn K (.ref C) m = some (some (.ref f))
  fn : PySem.W.isFn K (.ref f) = true
  kp : PySem.W.keepIn K (.ref f) = true
section
variable {X : Cx} {pins : List (Addr × Obj)} {σ : St} {H : Hp} {s : Shared} {a C dx : Addr} {fs : List (Str × V)} {f : Str} {v : V} {A : Around} {E : Value → Shared → Prop}
theorem getattr_ok {b : Bool} {Q : Value → Shared → Prop} (I : Inv X pins σ H s) (e : H a = some (.ins C dx fs)) (c : Cls X.K C) (n : NoAttr X.K C f) (l : fs.lookup f = some v)
    (h : ∀ u s', Inv X pins σ H s' → RelV v u → Q u s') : wpAny (model X.prog X.w) A (getAttr (.ref a) f b) Q E s := by
  obtain ⟨mA, O, r, _, _, _⟩ := ins_get I.hok e
  obtain ⟨u, hu, ru⟩ := RelO.some_of (v := v) (o := mA f) (by rw [← l]; exact r f)
  exact get_map I.kIn O (c.get f) c.hd n hu (handed_of ru) (h u _ (I.tok _) ru)
theorem getmeth_ok {m : Str} {g : Addr} {pl : Sem Bool} {Q : Value × List Value → Shared → Prop} (I : Inv X pins σ H s) (e : H a = some (.ins C dx fs)) (c : Cls X.K C) (k : Meth X.K C m g) (l : fs.lookup m = none)
    (h : Q (.ref g, [.ref a]) s) : wpAny (model X.prog X.w) A (getMethod (.ref a) m pl) Q E s := by
  obtain ⟨mA, O, r, _, _, _⟩ := ins_get I.hok e
  have hn : mA m = none := RelO.none_of (by rw [← l]; exact r m)
  exact get_meth I.kIn O (c.get m) k.at_ k.fn hn h
theorem setattr_ok {y : V} {u : Value} {Q : Unit → Shared → Prop} (I : Inv X pins σ H s) (e : H a = some (.ins C dx fs)) (c : Cls X.K C) (n : NoAttr X.K C f) (hl : fs.length < 1000) (ry : RelV y u)
    (h : ∀ s', Inv X pins σ (upd H a (.ins C dx (putF f y fs))) s' → Q () s') : wpAny (model X.prog X.w) A (setAttr (.ref a) f u) Q E s := by
  obtain ⟨mA, O, r, wi, _, ho⟩ := ins_get I.hok e
  have hz : (fs.map (·.1)).length ≤ sizeLine := by rw [List.length_map, sizeLine_eq]; omega
  refine set_map I.kIn O c.sa c.po n.taker c.hd wi hz fun h' O' sb => h _ ?_
  have hd : ∃ o, h'.get? dx = some o := let ⟨o, _, _, e', _⟩ := O'.ns; ⟨o, e'⟩
  refine I.write (x := a) (e := dx) (by rw [e]; exact True.intro) (.inr ho) (fun b q hb z => (sb.2 b hb).trans z) hd ?_
  refine ⟨by rw [upd_ne O.ne]; exact ho, ?_, O.ne, O'.obj, _, O'.ns, fun g => ?_, fun g hg => ?_⟩
  · have := length_putF f y fs; omega
  · show RelO ((putF f y fs).lookup g) (if g = f then some u else mA g)
    rw [lookup_putF]
    by_cases q : g = f
    · rw [if_pos q, if_pos q]; exact ry
    · rw [if_neg q, if_neg q]; exact r g
  · by_cases q : g = f
    · rw [q]; exact (keys_putF f y fs).1
    · refine (keys_putF f y fs).2 g (wi g fun z => hg ?_)
      show (if g = f then some u else mA g) = none
      rw [if_neg q]; exact z
theorem Inv.made (I : Inv X pins σ H s) : Inv X pins σ (upd (upd H s.heap.objs.size (.own (s.heap.objs.size + 1))) (s.heap.objs.size + 1) (.ins C s.heap.objs.size []))
    { s with heap := (s.heap.push PySem.W.emptyDict).push (PySem.W.instObj C s.heap.objs.size) } := by
  have e1 : (s.heap.push PySem.W.emptyDict).get? s.heap.objs.size = some PySem.W.emptyDict := Heap.get?_push_size s.heap rfl
  have e2 : ((s.heap.push PySem.W.emptyDict).push (PySem.W.instObj C s.heap.objs.size)).get? (s.heap.objs.size + 1) = some (PySem.W.instObj C s.heap.objs.size) := by
    have := Heap.get?_push_size (s.heap.push PySem.W.emptyDict) (o := PySem.W.instObj C s.heap.objs.size) rfl
    rwa [Heap.size_push] at this
  have e3 : (s.heap.push PySem.W.emptyDict).Ns s.heap.objs.size (fun _ => none) := ⟨PySem.W.emptyDict, #[], _, e1, rfl, (fun e he => absurd he (by simp)), fun _ => rfl⟩
  have I1 := I.laid (a := s.heap.objs.size) (o := .own (s.heap.objs.size + 1)) (h' := s.heap.push PySem.W.emptyDict) (t' := s.toks) (fun b u q => Heap.get?_push_of_some _ q) (Nat.le_refl _) ⟨_, e1⟩
  refine I1.laid (a := s.heap.objs.size + 1) (o := .ins C s.heap.objs.size []) (t' := s.toks) (fun b u q => Heap.get?_push_of_some _ q) (Nat.le_of_eq (Heap.size_push _ _)) ?_
  have ne : s.heap.objs.size ≠ s.heap.objs.size + 1 := Nat.ne_of_lt (Nat.lt_succ_self _)
  refine ⟨by rw [upd_ne ne, upd_same], Nat.zero_le _, ne, e2, fun _ => none, (Heap.Ns1.of_empty e3).at fun o q => Heap.get?_push_of_some _ q, fun _ => True.intro, fun y hy => absurd rfl hy⟩
theorem attr_of {prog : Program} {w : World} {env : Env} {e : Expr} {f : Str} {pos : Pos} {s : Shared} {Q : Value → Shared → Prop} (hb : attributeBase e f env (eval e env) = eval e env)
    (h : wpAny (model prog w) A (eval e env) (fun o s₁ => wpAny (model prog w) A (getAttr o f true) Q E s₁) E s) : wpAny (model prog w) A (eval (.Attribute e f pos) env) Q E s :=
  Attribute_any_ h (by rw [arm_eval_Attribute, hb])
end
def tFld (K : PySem.W.Frag) (ta : TE) (f : Str) : TE := fun σ H Q => ta σ H fun x H1 => ∃ a C dx fs v, x = .ref a ∧ H1 a = some (.ins C dx fs) ∧ Cls K C ∧ NoAttr K C f ∧ fs.lookup f = some v ∧ Q v H1
def sFld (K : PySem.W.Frag) (ta tv : TE) (f : Str) : TS := fun D σ H => tv σ H fun y H1 => ta σ H1 fun x H2 => ∃ a C dx fs, x = .ref a ∧ H2 a = some (.ins C dx fs) ∧ Cls K C ∧ NoAttr K C f ∧ fs.length < 1000 ∧
  D.nx σ (upd H2 a (.ins C dx (putF f y fs)))
section
variable {X : Cx} {o e value : Expr} {f : Str} {pos pos' tpos : Pos} {ta tv : TE}
theorem pe_fld (he : PE X e ta) (hb : attributeBase e f X.env (eval e X.env) = eval e X.env) : PE X (.Attribute e f pos) (tFld X.K ta f) := by
  intro pins s σ H Q I h
  refine attr_of hb (thn (he pins s σ H _ I h) fun u s1 ⟨x, H1, I1, rx, a, C, dx, fs, v, ex, ea, c, n, l, q⟩ => ?_)
  subst ex
  obtain rfl : u = Value.ref a := rx
  exact getattr_ok I1 ea c n l fun u' s2 I2 ru => ⟨v, H1, I2, ru, q⟩
theorem ps_fld (ha : PE X o ta) (hv : PE X value tv) (hs : swapsWith value (some (.Attribute o f pos')) pos.line X.env = pure false) : PS X (.Assign [.Attribute o f pos'] value pos) (sFld X.K ta tv f) := by
  intro pins s σ H D I h
  refine plainObj_wpAny_Assign_Attribute (thn (hv pins s σ H _ I h) fun u s1 ⟨y, H1, I1, ry, q⟩ => thn (ha pins s1 σ H1 _ I1 q) fun ov s2 ⟨x, H2, I2, rx, a, C, dx, fs, ex, ea, c, n, l, q2⟩ => ?_) hs
  subst ex
  obtain rfl : ov = Value.ref a := rx
  exact setattr_ok I2 ea c n l ry fun s3 I3 => ⟨σ, _, I3, q2⟩
theorem methcall_of {pl : Sem Bool} {m : Str} {apos : Pos} {args : List Expr} {pins : List (Addr × Obj)} {s : Shared} {σ : St} {H : Hp} {Q : Value → Shared → Prop} {te : TE} (he : PE X e te) (I : Inv X pins σ H s)
    (h : te σ H fun x H1 => ∃ a C dx fs g, x = .ref a ∧ H1 a = some (.ins C dx fs) ∧ Cls X.K C ∧ Meth X.K C m g ∧ fs.lookup m = none ∧
      ∀ s1, Inv X pins σ H1 s1 → wpAny (model X.prog X.w) X.A (callWith pos (.ref g) [.ref a] (backTo pos (starEach args X.env)) (backToKw pos (keywordEach [] X.env))) Q X.xe s1)
    (ht : eval (.Call (.Attribute e m apos) args [] pos) X.env = (do
      let ov ← eval e X.env
      standAt apos.atName
      let (f, first) ← holding [ov] (getMethod ov m pl)
      callWith pos f first (backTo pos (starEach args X.env)) (backToKw pos (keywordEach [] X.env)))) :
    wpAny (model X.prog X.w) X.A (eval (.Call (.Attribute e m apos) args [] pos) X.env) Q X.xe s := by
  refine PySem.W.methodCall_KW (pl := pl) (thn (he pins s σ H _ I h) fun u s1 ⟨x, H1, I1, rx, a, C, dx, fs, g, ex, ea, c, k, l, q⟩ => ?_) ht
  subst ex
  obtain rfl : u = Value.ref a := rx
  exact getmeth_ok I1 ea c k l (q s1 I1)
end
section
variable {X : Cx} {pins : List (Addr × Obj)} {σ : St} {H : Hp} {s : Shared} {A : Around} {E : Value → Shared → Prop} {Q : Value → Shared → Prop} {c : Value} {b : Bool}
end
end L2
namespace L2
open PySem PySem.Spec PyProof.Rows
structure Room (k : Nat) (A : Around) : Prop where
  hd : A.handled = none
  dp : A.depth + 3 * k + 5 < recursionLimit
  un : A.units + 16 * k + 200 < cLine
theorem Room.mono {j k : Nat} {A : Around} (r : Room k A) (h : j ≤ k) : Room j A := ⟨r.hd, by have := r.dp; omega, by have := r.un; omega⟩
theorem Room.deeper {k : Nat} {A : Around} (r : Room (k + 1) A) (env : Env) : Room k (A.deeper env) :=
  ⟨r.hd, by have := r.dp; show A.depth + 1 + 3 * k + 5 < _; omega, by have := r.un; show A.units + 3 + 16 * k + 200 < _; omega⟩
theorem make_depth {A : Around} {C : Addr} {us : List Value} {kw : List (Str × Value)} : (A.under (.builtin "type.__call__" ⟨.ref C :: us, kw⟩)).depth = A.depth + 1 := by
  first | rfl | simp [Around.under, Code.weight, Code.isCreation, Code.isGuard, Code.isCaller, Code.frames, Code.isFrame, guardIds]
theorem make_units {A : Around} {C : Addr} {us : List Value} {kw : List (Str × Value)} : (A.under (.builtin "type.__call__" ⟨.ref C :: us, kw⟩)).units = A.units + 1 := by
  first | rfl | simp [Around.under, Code.cUnits, Code.frames, Code.isFrame]
theorem Room.make {k : Nat} {A : Around} (r : Room (k + 1) A) (C : Addr) (us : List Value) (kw : List (Str × Value)) : Room k (A.under (.builtin "type.__call__" ⟨.ref C :: us, kw⟩)) :=
  ⟨r.hd, by have := r.dp; rw [make_depth]; omega, by have := r.un; rw [make_units]; omega⟩
theorem Room.depth {k : Nat} {A : Around} (r : Room k A) : A.depth < recursionLimit := by have := r.dp; omega
def tNil : TA := fun _ H Q => Q [] H
def tCons (ta : TE) (tr : TA) : TA := fun σ H Q => ta σ H fun x H1 => tr σ H1 fun xs H2 => Q (x :: xs) H2
section
variable {X : Cx} {e : Expr} {es : List Expr} {te : TE} {t : TA} {pos : Pos}
theorem pa_nil : PA X [] tNil := fun _ _ _ _ H Q I h => Calls.spliced_nil ⟨[], H, I, .nil, h⟩
theorem pa_cons (ha : PE X e te) (hr : PA X es t) (hs : starEach (e :: es) X.env = (false, eval e X.env) :: starEach es X.env := by rfl) : PA X (e :: es) (tCons te t) := by
  intro pos pins s σ H Q I h
  rw [hs]
  show wpAny _ _ (spliced ((false, eval e X.env) :: backTo pos (starEach es X.env))) _ _ s
  refine Calls.spliced_cons (thn (ha pins s σ H _ I h) fun u s1 ⟨x, H1, I1, r1, q1⟩ => ?_)
  exact thn (hr pos pins s1 σ H1 _ I1 q1) fun us s2 ⟨xs, H2, I2, r2, q2⟩ => ⟨x :: xs, H2, I2, .cons r1 r2, q2⟩
def tLst (t : TA) : TE := fun σ H Q => t σ H fun xs H1 => xs.length ≤ sizeLine ∧ ∀ p, H1 p = none → Q (.ref p) (upd H1 p (.lst xs))
theorem pe_lst (h : PA X es t) : PE X (.List es pos) (tLst t) := by
  intro pins s σ H Q I hq
  refine wpAny_List_spliced (thn (h pos pins s σ H _ I hq) fun us s1 ⟨xs, H1, I1, r, z, q⟩ => ⟨by rw [← r.length]; exact z, ?_⟩)
  have hf : H1 s1.heap.objs.size = none := I1.hok.fresh (Nat.le_refl _)
  refine ⟨.ref s1.heap.objs.size, upd H1 s1.heap.objs.size (.lst xs), I1.laid (t' := s1.toks) (fun b u e => Heap.get?_push_of_some _ e) (Nat.le_refl _) ?_, rfl, q _ hf⟩
  exact ⟨z, us, 0, r, Heap.get?_push_size _ rfl⟩
end
abbrev Sp := List V → Hp → VK → XK → Prop
abbrev CXT := List Env → Hp → Shared → XK → Value → Shared → Prop
structure Env0 (P : Program) (w : World) (K : PySem.W.Frag) (mg : Str → Option Value) (base : Heap) (A : Around) (outer : List Env) (s : Shared) (H : Hp) : Prop where
  frames : A.frames = some outer
  mod : Mod K mg base
  bs : ∀ b o, base.get? b = some o → s.heap.get? b = some o ∧ H b = none
  bsz : base.objs.size ≤ s.heap.objs.size
  funs : s.heap.FunFrames base outer
  frf : ∀ b ∈ frs outer, H b = none
  hok : HOk P w H s.heap
  bare : AllBare s.gens
def CE (outer : List Env) (P : Program) (w : World) (H : Hp) (s : Shared) (Q : VK) (u : Value) (s' : Shared) : Prop :=
  ∃ v H', s'.os = s.os ∧ AllBare s'.gens ∧ Un (frs outer) [] H H' s.heap s'.heap ∧ HOk P w H' s'.heap ∧ RelV v u ∧ Q v H'
def CR (CX : CXT) (outer : List Env) (P : Program) (w : World) (H : Hp) (s : Shared) (Q : VK) (E : XK) (r : Result) (s' : Shared) : Prop :=
  match r with
  | .ok (.ret u) => CE outer P w H s Q u s'
  | .ok _ => False
  | .error e => CX outer H s E e s'
structure FnOk (P : Program) (w : World) (K : PySem.W.Frag) (mg : Str → Option Value) (base : Heap) (CX : CXT) (k : Nat) (f : Addr) (fd : FuncData) (ps : List Str) (sp : Sp) : Prop where
  len : ∀ vs H Q E, sp vs H Q E → vs.length = ps.length
  run : ∀ (A : Around) (outer : List Env) (s : Shared) (H : Hp) (args : Args) (us : List Value) (vs : List V) (Q : VK) (E : XK), Room k A → Env0 P w K mg base A outer s H → BindsTo s fd args (ps.zip us) → Vals vs us → sp vs H Q E →
    codeAny (model P w) A (.call (.ref f) args) (CR CX outer P w H s Q E) s
theorem Env0.make {P : Program} {w : World} {K : PySem.W.Frag} {mg : Str → Option Value} {base : Heap} {A : Around} {outer : List Env} {s : Shared} {H : Hp} (e : Env0 P w K mg base A outer s H) (C : Addr) (us : List Value) (kw : List (Str × Value)) :
    Env0 P w K mg base (A.under (.builtin "type.__call__" ⟨.ref C :: us, kw⟩)) outer s H := ⟨by first | exact e.frames | (simpa [Around.under, Code.envs, Code.isFrame, pushEnvs] using e.frames), e.mod, e.bs, e.bsz, e.funs, e.frf, e.hok, e.bare⟩
section
variable {X : Cx} {pins : List (Addr × Obj)} {σ : St} {H : Hp} {s s' : Shared}
theorem Inv.env0 (I : Inv X pins σ H s) : Env0 X.prog X.w X.K X.mg X.base X.A X.stack s H :=
  ⟨I.ok.frames, I.ok.mod, I.bs, Nat.le_trans I.ok.bsz I.sz, I.stack, I.stkFree, I.hok, I.bare⟩
theorem Inv.after {Q : VK} {u : Value} (I : Inv X pins σ H s) (h : CE X.stack X.prog X.w H s Q u s') : EP X pins σ Q u s' := by
  obtain ⟨v, H', os, bare, un, hok, r, q⟩ := h
  obtain ⟨hh, g, d, t, os'⟩ := s'
  obtain rfl : os' = s.os := os
  exact ⟨v, H', I.call (h' := hh) (g' := g) (d' := d) (t' := t) (ch := []) un hok bare (fun b z => absurd z (by simp)), r, q⟩
end
def tCall (sp : Sp) (dvs : List V) (E : XK) (t : TA) : TE := fun σ H Q => t σ H fun vs H1 => sp (vs ++ dvs) H1 Q E
def tMeth (C : Addr) (m : Str) (sp : Sp) (dvs : List V) (E : XK) (ta : TE) (t : TA) : TE := fun σ H Q => ta σ H fun x H1 => ∃ a dx fs, x = .ref a ∧ H1 a = some (.ins C dx fs) ∧ fs.lookup m = none ∧
  t σ H1 fun vs H2 => sp (x :: (vs ++ dvs)) H2 Q E
def tMake (C : Addr) (sp : Sp) (dvs : List V) (E : XK) (t : TA) : TE := fun σ H Q => t σ H fun vs H1 => ∀ x dx, H1 x = none → H1 dx = none → dx ≠ x →
  sp (.ref x :: (vs ++ dvs)) (upd (upd H1 dx (.own x)) x (.ins C dx [])) (fun v H2 => v = .non ∧ Q (.ref x) H2) E
def Binds (K : PySem.W.Frag) (fd : FuncData) (ps : List Str) (ds : List Value) : Prop :=
  ∀ (s : Shared) (us : List Value), K.In s.heap → (us ++ ds).length = ps.length → BindsTo s fd ⟨us, []⟩ (ps.zip (us ++ ds))
theorem Binds.all {K : PySem.W.Frag} {fd : FuncData} {ps : List Str} (h : ∀ us : List Value, us.length = ps.length → bindArgs fd ⟨us, []⟩ = pure (ps.zip us)) : Binds K fd ps [] := fun s us _ hl => by
  rw [List.append_nil] at hl ⊢
  exact .of_eq (h us hl)
def Passes (CX : CXT) (X : Cx) (E : XK) : Prop := ∀ (pins : List (Addr × Obj)) (σ : St) (H : Hp) (s : Shared) (e : Value) (s' : Shared), Inv X pins σ H s → CX X.stack H s E e s' → X.xe e s'
section
variable {X : Cx} {CX : CXT} {k : Nat} {f C : Addr} {fd : FuncData} {ps : List Str} {sp : Sp} {dvs : List V} {ds : List Value} {E : XK} {x m : Str} {p pos apos : Pos} {e o : Expr} {es : List Expr} {ta : TE} {t : TA}
theorem run_fn {pins : List (Addr × Obj)} {σ : St} {H : Hp} {s : Shared} {Q : VK} {us : List Value} {vs : List V} (F : FnOk X.prog X.w X.K X.mg X.base CX k f fd ps sp) (hr : Room k X.A) (hb : Binds X.K fd ps ds) (hd : Vals dvs ds) (hx : Passes CX X E)
    (I : Inv X pins σ H s) (r : Vals vs us) (h : sp (vs ++ dvs) H Q E) : wpAny (model X.prog X.w) X.A (call (.ref f) us) (EP X pins σ Q) X.xe s := by
  have r2 : Vals (vs ++ dvs) (us ++ ds) := r.append hd
  have hl : (us ++ ds).length = ps.length := by rw [← r2.length]; exact F.len _ _ _ _ h
  refine wpAny_call (codeAny_mono (F.run X.A X.stack s H ⟨us, []⟩ (us ++ ds) (vs ++ dvs) Q E hr I.env0 (hb s us I.kIn hl) r2 h) fun r s' hq => ?_)
  cases r with
  | error e => exact hx pins σ H s e s' I hq
  | ok fl =>
    cases fl with
    | ret u => exact I.after hq
    | next => exact False.elim hq
    | brk => exact False.elim hq
    | cont => exact False.elim hq
theorem pe_call (F : FnOk X.prog X.w X.K X.mg X.base CX k f fd ps sp) (hr : Room k X.A) (hg : Gl X x) (hm : X.mg x = some (.ref f)) (hk : PySem.W.keepIn X.K (.ref f) = true) (hb : Binds X.K fd ps ds) (hd : Vals dvs ds) (hx : Passes CX X E)
    (ha : PA X (e :: es) t) (hdb : (x == ("__debug__" : Str)) = false := by decide) (he : starEach (e :: es) X.env = (false, eval e X.env) :: starEach es X.env := by rfl) (hpl : (backTo pos (starEach es X.env)).any (·.1) = false := by rfl) :
    PE X (.Call (.Name x p) (e :: es) [] pos) (tCall sp dvs E t) := by
  intro pins s σ H Q I h
  refine wpAny_Call_Name_kw (ld_glob I hg hm ?_ hdb)
  refine PySem.W.callWith_K (h₀ := X.base) I.ok.mod.kin hk (thn (ha pos pins s σ H _ I h) fun us s1 ⟨vs, H1, I1, r, q⟩ => ⟨I1.kIn, ?_⟩) he hpl
  exact run_fn F hr hb hd hx I1 r q
theorem pe_meth {pl : Sem Bool} (he : PE X o ta) (c : Cls X.K C) (hm : Meth X.K C m f) (F : FnOk X.prog X.w X.K X.mg X.base CX k f fd ps sp) (hr : Room k X.A) (hb : Binds X.K fd ps ds) (hd : Vals dvs ds) (hx : Passes CX X E) (ha : PA X (e :: es) t)
    (hst : starEach (e :: es) X.env = (false, eval e X.env) :: starEach es X.env := by rfl) (hpl : (backTo pos (starEach es X.env)).any (·.1) = false := by rfl)
    (ht : eval (.Call (.Attribute o m apos) (e :: es) [] pos) X.env = (do
      let ov ← eval o X.env
      standAt apos.atName
      let (f, first) ← holding [ov] (getMethod ov m pl)
      callWith pos f first (backTo pos (starEach (e :: es) X.env)) (backToKw pos (keywordEach [] X.env))) := by rfl) :
    PE X (.Call (.Attribute o m apos) (e :: es) [] pos) (tMeth C m sp dvs E ta t) := by
  intro pins s σ H Q I h
  refine PySem.W.methodCall_KW (pl := pl) (thn (he pins s σ H _ I h) fun u s1 ⟨x, H1, I1, rx, a, dx, fs, ex, ea, l, q⟩ => ?_) ht
  subst ex
  obtain rfl : u = Value.ref a := rx
  refine getmeth_ok I1 ea c hm l ?_
  refine PySem.W.callWith_K (first := [.ref a]) (h₀ := X.base) I.ok.mod.kin hm.kp (thn (ha pos pins s1 σ H1 _ I1 q) fun us s2 ⟨vs, H2, I2, r, q2⟩ => ⟨I2.kIn, ?_⟩) hst hpl
  exact run_fn (us := .ref a :: us) (vs := .ref a :: vs) F hr hb hd hx I2 (.cons rfl r) q2
theorem pe_meth0 {pl : Sem Bool} (he : PE X o ta) (c : Cls X.K C) (hm : Meth X.K C m f) (F : FnOk X.prog X.w X.K X.mg X.base CX k f fd ps sp) (hr : Room k X.A) (hb : Binds X.K fd ps ds) (hd : Vals dvs ds) (hx : Passes CX X E)
    (ht : eval (.Call (.Attribute o m apos) [] [] pos) X.env = (do
      let ov ← eval o X.env
      standAt apos.atName
      let (f, first) ← holding [ov] (getMethod ov m pl)
      callWith pos f first (backTo pos (starEach [] X.env)) (backToKw pos (keywordEach [] X.env))) := by rfl) :
    PE X (.Call (.Attribute o m apos) [] [] pos) (tMeth C m sp dvs E ta tNil) := by
  intro pins s σ H Q I h
  refine PySem.W.methodCall_KW (pl := pl) (thn (he pins s σ H _ I h) fun u s1 ⟨x, H1, I1, rx, a, dx, fs, ex, ea, l, q⟩ => ?_) ht
  subst ex
  obtain rfl : u = Value.ref a := rx
  refine getmeth_ok I1 ea c hm l ?_
  exact PySem.W.callWith_K0 (first := [.ref a]) I1.kIn hm.kp (run_fn (us := [.ref a]) (vs := [.ref a]) F hr hb hd hx I1 (.cons rfl .nil) q)
structure Mk (K : PySem.W.Frag) (C f : Addr) : Prop where
  makes : PySem.W.makesIn K C = true
  init : PySem.W.findIn K (.ref C) "__init__" = some (some (.ref f))
  fn : PySem.W.isFn K (.ref f) = true
  kp : PySem.W.keepIn K (.ref C) = true
theorem run_make {pins : List (Addr × Obj)} {σ : St} {H : Hp} {s : Shared} {Q : VK} {us : List Value} {vs : List V} (M : Mk X.K C f) (F : FnOk X.prog X.w X.K X.mg X.base CX k f fd ps sp) (hr : Room (k + 1) X.A) (hb : Binds X.K fd ps ds) (hd : Vals dvs ds)
    (hx : Passes CX X E) (I : Inv X pins σ H s) (r : Vals vs us)
    (h : ∀ x dx, H x = none → H dx = none → dx ≠ x → sp (.ref x :: (vs ++ dvs)) (upd (upd H dx (.own x)) x (.ins C dx [])) (fun v H2 => v = .non ∧ Q (.ref x) H2) E) :
    wpAny (model X.prog X.w) X.A (call (.ref C) us) (EP X pins σ Q) X.xe s := by
  have hq := h (s.heap.objs.size + 1) s.heap.objs.size (I.hok.fresh (Nat.le_succ _)) (I.hok.fresh (Nat.le_refl _)) (Nat.ne_of_lt (Nat.lt_succ_self _))
  have I2 := Inv.made (C := C) I
  have r2 : Vals (V.ref (s.heap.objs.size + 1) :: (vs ++ dvs)) (Value.ref (s.heap.objs.size + 1) :: (us ++ ds)) := .cons rfl (r.append hd)
  have hl : (Value.ref (s.heap.objs.size + 1) :: us ++ ds).length = ps.length := by
    have e := r2.length
    rw [F.len _ _ _ _ hq] at e
    exact e.symm
  refine wpAny_call (make_map (f := f) I.kIn M.makes M.init (beq_iff_eq.mp M.fn) (codeAny_mono (F.run _ X.stack _ _ ⟨Value.ref (s.heap.objs.size + 1) :: us, []⟩ (Value.ref (s.heap.objs.size + 1) :: (us ++ ds)) _ _ E (hr.make C us [])
    (I2.env0.make C us []) (hb _ (Value.ref (s.heap.objs.size + 1) :: us) I2.kIn hl) r2 hq) fun r s' hq' => ?_))
  cases r with
  | error e => exact hx pins σ _ _ e s' I2 hq'
  | ok fl =>
    cases fl with
    | ret u =>
      obtain ⟨v, H', I3, rv, ev, q3⟩ := I2.after hq'
      subst ev
      exact ⟨rv, ⟨V.ref (s.heap.objs.size + 1), H', I3, rfl, q3⟩⟩
    | next => exact False.elim hq'
    | brk => exact False.elim hq'
    | cont => exact False.elim hq'
theorem pe_make (M : Mk X.K C f) (F : FnOk X.prog X.w X.K X.mg X.base CX k f fd ps sp) (hr : Room (k + 1) X.A) (hg : Gl X x) (hm : X.mg x = some (.ref C)) (hb : Binds X.K fd ps ds) (hd : Vals dvs ds) (hx : Passes CX X E)
    (ha : PA X (e :: es) t) (hdb : (x == ("__debug__" : Str)) = false := by decide) (he : starEach (e :: es) X.env = (false, eval e X.env) :: starEach es X.env := by rfl) (hpl : (backTo pos (starEach es X.env)).any (·.1) = false := by rfl) :
    PE X (.Call (.Name x p) (e :: es) [] pos) (tMake C sp dvs E t) := by
  intro pins s σ H Q I h
  refine wpAny_Call_Name_kw (ld_glob I hg hm ?_ hdb)
  refine PySem.W.callWith_K (h₀ := X.base) I.ok.mod.kin M.kp (thn (ha pos pins s σ H _ I h) fun us s1 ⟨vs, H1, I1, r, q⟩ => ⟨I1.kIn, ?_⟩) he hpl
  exact run_make M F hr hb hd hx I1 r q
end
section
variable {X : Cx} {CX : CXT} {k : Nat} {f C : Addr} {fd : FuncData} {ps ks : List Str} {sp : Sp} {E : XK} {x m : Str} {p pos apos kpos : Pos} {e o : Expr} {es : List Expr} {kws : List Keyword} {te ta : TE} {t tk : TA} {nm : Option Str}
variable {g : List Value → List Value → List Value} {gV : List V → List V → List V}
end
structure FnScope (N P : List Str) (sc : Scope) : Prop where
  kind : sc.kind = .function
  co : sc.isCoroutine = false
  gen : sc.isGenerator = false
  nd : N.Nodup
  pre : N.take P.length = P
  par : ∀ x ∈ P, sc.names.lookup x = some .local ∨ sc.names.lookup x = some .cell
  nofree : ∀ y ∈ sc.names, y.2 ≠ .free
theorem bindL_out {kindOf : Str → Option NameKind} {x : Str} : ∀ {binds : List (Str × Value)} {m : Str → Option Value}, (∀ v, (x, v) ∉ binds) → bindL kindOf binds m x = m x
  | [], _, _ => rfl
  | (n, v) :: r, m, h => by
    unfold bindL
    rw [bindL_out fun w hw => h w (List.mem_cons_of_mem _ hw)]
    split
    · have : x ≠ n := by rintro rfl; exact h v List.mem_cons_self
      simp [this]
    · rfl
theorem bindC_out {kindOf : Str → Option NameKind} {x : Str} : ∀ {binds : List (Str × Value)} {m : Str → Option Value}, (∀ v, (x, v) ∉ binds) → bindC kindOf binds m x = m x
  | [], _, _ => rfl
  | (n, v) :: r, m, h => by
    unfold bindC
    rw [bindC_out fun w hw => h w (List.mem_cons_of_mem _ hw)]
    split
    · rfl
    · have : x ≠ n := by rintro rfl; exact h v List.mem_cons_self
      simp [this]
theorem bindL_get {kindOf : Str → Option NameKind} {x : Str} {v : Value} : ∀ {P : List Str} {vs : List Value} {i : Nat} {m : Str → Option Value}, P.Nodup → P[i]? = some x → vs[i]? = some v → kindOf x = some .local →
    bindL kindOf (P.zip vs) m x = some v
  | [], _, _, _, _, h, _, _ => by simp at h
  | _ :: _, [], _, _, _, _, h, _ => by simp at h
  | p :: P, w :: vs, 0, m, nd, h1, h2, hk => by
    simp at h1 h2; subst h1; subst h2
    show bindL kindOf ((p, w) :: P.zip vs) m p = _
    unfold bindL
    rw [bindL_out fun v hv => (List.nodup_cons.mp nd).1 (List.of_mem_zip hv).1, if_pos hk]
    simp
  | p :: P, w :: vs, i + 1, m, nd, h1, h2, hk => by
    show bindL kindOf ((p, w) :: P.zip vs) m x = _
    unfold bindL
    exact bindL_get (i := i) (List.nodup_cons.mp nd).2 (by simpa using h1) (by simpa using h2) hk
theorem bindC_get {kindOf : Str → Option NameKind} {x : Str} {v : Value} : ∀ {P : List Str} {vs : List Value} {i : Nat} {m : Str → Option Value}, P.Nodup → P[i]? = some x → vs[i]? = some v → kindOf x ≠ some .local →
    bindC kindOf (P.zip vs) m x = some v
  | [], _, _, _, _, h, _, _ => by simp at h
  | _ :: _, [], _, _, _, _, h, _ => by simp at h
  | p :: P, w :: vs, 0, m, nd, h1, h2, hk => by
    simp at h1 h2; subst h1; subst h2
    show bindC kindOf ((p, w) :: P.zip vs) m p = _
    unfold bindC
    rw [bindC_out fun v hv => (List.nodup_cons.mp nd).1 (List.of_mem_zip hv).1, if_neg hk]
    simp
  | p :: P, w :: vs, i + 1, m, nd, h1, h2, hk => by
    show bindC kindOf ((p, w) :: P.zip vs) m x = _
    unfold bindC
    exact bindC_get (i := i) (List.nodup_cons.mp nd).2 (by simpa using h1) (by simpa using h2) hk
def start (N : List Str) (vs : List V) : St := vs.map some ++ List.replicate (N.length - vs.length) none
def cxOf (CX : CXT) (P : Program) (w : World) (K : PySem.W.Frag) (mg : Str → Option Value) (base : Heap) (N : List Str) (qual : Str) (scope : Scope) (f : Addr) (cd : Value) (A : Around) (outer : List Env) (s : Shared) (H : Hp) (E : XK) : Cx where
  prog := P
  w := w
  K := K
  mg := mg
  base := base
  A := A.deeper (envOfC qual scope s.heap.objs.size f cd)
  N := N
  s₀ := s
  H₀ := H
  env := envOfC qual scope s.heap.objs.size f cd
  outer := outer
  stack := envOfC qual scope s.heap.objs.size f cd :: outer
  ex := []
  calm := true
  fn := fun _ => true
  pn := []
  xe := fun e s' => wpAny (model P w) (A.deeper (envOfC qual scope s.heap.objs.size f cd)) (leaving (envOfC qual scope s.heap.objs.size f cd) e) (fun _ s'' => CX outer H s E e s'') (fun e' s'' => CX outer H s E e' s'') s'
theorem cell_has {sc : Scope} {n : Nat} {x : Str} (h : sc.names.lookup x = some .cell) : ∃ c, (cellsFrom n sc.names []).lookup x = some c := by
  have q := PySem.W.cellsFrom_some sc.names n [] (.inl h)
  exact Option.isSome_iff_exists.mp q
theorem inv_start {CX : CXT} {P : Program} {w : World} {K : PySem.W.Frag} {mg : Str → Option Value} {base : Heap} {N ps : List Str} {qual : Str} {scope : Scope} {f : Addr} {cd : Value} {A : Around} {outer : List Env} {s s1 : Shared} {H : Hp} {E : XK} {us : List Value} {vs : List V}
    (S : FnScope N ps scope) (hd : A.handled = none) (e0 : Env0 P w K mg base A outer s H) (hl : vs.length = ps.length) (r : Vals vs us)
    (x : InCallC s s.heap.objs.size (bindL (envOfC qual scope s.heap.objs.size f cd).kindOf (ps.zip us) fun _ => none) (cellsFrom (s.heap.objs.size + 1) scope.names []) (bindC (envOfC qual scope s.heap.objs.size f cd).kindOf (ps.zip us) fun _ => none) s1) :
    Inv (cxOf CX P w K mg base N qual scope f cd A outer s H E) [] (start N vs) H s1 := by
  have hpl : ps.length ≤ N.length := by have := congrArg List.length S.pre; rw [List.length_take] at this; omega
  obtain ⟨h1, tk, rfl, hk⟩ := x.done
  have noA : ∀ b : Addr, b ∉ (cxOf CX P w K mg base N qual scope f cd A outer s H E).ex := fun b z => absurd (show b ∈ ([] : List Addr) from z) (by simp)
  refine ⟨⟨e0.mod, S.kind, rfl, rfl, Nat.le_refl _, fun y z c h1 h2 => ?_, fun y hy => ?_, fun y c _ h => ?_, fun _ => hd, Around.frames_deeper e0.frames, .inr ⟨rfl, rfl⟩, fun b z => absurd z (noA b), e0.bs, e0.bsz, fun b _ _ => noA b, fun b z => absurd z (noA b), e0.funs, e0.frf⟩,
    rfl, e0.bare, Un.kept hk, ⟨_, x.toInCall.ns, fun i y v h1 h2 h3 => ?_⟩, fun y c h => ⟨_, x.cell y c h⟩, e0.hok.fresh (Nat.le_refl _), fun y c h => ?_, fun p hp => absurd (show p ∈ ([] : List (Addr × Obj)) from hp) (by simp), e0.hok.kept hk, ?_⟩
  · exact name_of_addr x.apart (PySem.mem_of_lookup h1) (PySem.mem_of_lookup h2)
  · have hy : scope.names.lookup y = some .cell ∨ scope.names.lookup y = some .free := hy
    rcases hy with hy | hy
    · exact cell_has hy
    · exact absurd rfl (S.nofree _ (PySem.mem_of_lookup hy))
  · exact Nat.le_of_lt (x.above y c (PySem.mem_of_lookup h))
  · have hi : i < vs.length := by
      unfold start at h2
      by_cases hi : i < vs.length
      · exact hi
      · rw [List.getElem?_append_right (by simpa using hi)] at h2
        rw [List.getElem?_replicate] at h2
        split at h2 <;> cases h2
    have ha : vs[i]? = some v := by
      unfold start at h2
      rw [List.getElem?_append_left (by simpa using hi), List.getElem?_map] at h2
      cases e : vs[i]? with
      | none => rw [e] at h2; cases h2
      | some a => rw [e] at h2; cases h2; rfl
    obtain ⟨u, hu, rv⟩ := r.get ha
    have hp : ps[i]? = some y := by
      rw [← S.pre, List.getElem?_take_of_lt (by omega)]; exact h1
    have ndP : ps.Nodup := by rw [← S.pre]; exact S.nd.sublist (List.take_sublist _ _)
    refine ⟨u, rv, ?_⟩
    rcases S.par y (List.mem_of_getElem? hp) with k | k
    · exact .inl ⟨k, bindL_get ndP hp hu k⟩
    · obtain ⟨c, e⟩ := cell_has (n := s.heap.objs.size + 1) k
      refine .inr ⟨.inl k, c, e, ?_⟩
      have q := x.cell y c e
      rw [bindC_get ndP hp hu (by show scope.names.lookup y ≠ _; rw [k]; decide)] at q
      exact q
  · exact e0.hok.fresh (Nat.le_of_lt (x.above y c (PySem.mem_of_lookup h)))
  · unfold start
    show _ = N.length
    rw [List.length_append, List.length_map, List.length_replicate]
    omega
theorem fn_of {CX : CXT} {P : Program} {w : World} {K : PySem.W.Frag} {mg : Str → Option Value} {base : Heap} {k : Nat} {f : Addr} {name qual : Str} {params : Arguments} {body : List Stmt} {scope : Scope} {dV kV doc pm cdv ct oc : Value} {an od : Option Addr}
    {osl : Array (Option Value)} {N ps : List Str} {sp : Sp} (lk : K.lookup f = some ⟨oc, od, .func (PySem.W.fnOf name qual params body scope dV kV doc pm an cdv ct), osl⟩) (hcd : PySem.W.codeIn K cdv qual = true) (S : FnScope N ps scope)
    (len : ∀ vs H Q E, sp vs H Q E → vs.length = ps.length)
    (hbody : ∀ (A : Around) (outer : List Env) (s : Shared) (H : Hp) (vs : List V) (Q : VK) (E : XK), Room k (A.deeper (envOfC qual scope s.heap.objs.size f cdv)) → sp vs H Q E →
      ∃ t, PSs (cxOf CX P w K mg base N qual scope f cdv A outer s H E) body t ∧ t { nx := fun _ H' => Q .non H', rt := Q } (start N vs) H) :
    FnOk P w K mg base CX (k + 1) f (PySem.W.fnOf name qual params body scope dV kV doc pm an cdv ct) ps sp := by
  refine ⟨len, fun A outer s H args us vs Q E hr e0 hb r hsp => ?_⟩
  have hl := len _ _ _ _ hsp
  have KX : K.In s.heap := e0.mod.kin.keeps fun b o e => (e0.bs b o e).1
  have lim : s.heap.NoLimit := e0.mod.nolimit.keeps fun b o e => (e0.bs b o e).1
  have hkind : ∀ y ∈ ps.zip us, scope.names.lookup y.1 = some .local ∨ (scope.names.lookup y.1 = some .cell ∧ ((cellsFrom (s.heap.objs.size + 1) scope.names []).lookup y.1).isSome = true) := fun ⟨n, v⟩ hy => by
    rcases S.par n (List.of_mem_zip hy).1 with q | q
    · exact .inl q
    · exact .inr ⟨q, PySem.W.cellsFrom_some _ _ _ (.inl q)⟩
  refine codeAny_call_function hr.depth (KX _ _ lk) rfl S.co S.gen rfl (PySem.W.codeRec_of KX hcd) (hb _ _ _ _ ?_)
  refine wpAny_newFunctionEnv_cells S.kind hkind fun env he s1 x => ?_
  subst he
  refine ⟨lim.keeps x.toInCall.keep, codeAny_func ?_⟩
  obtain ⟨t, ht, hq⟩ := hbody A outer s H vs Q E (hr.deeper _) hsp
  have I : Inv (cxOf CX P w K mg base N qual scope f cdv A outer s H E) [] (start N vs) H s1 := inv_start S hr.hd e0 hl r x
  refine wpAny_mono (ht [] s1 (start N vs) H _ I hq) (fun fl s' hs => ?_) fun e s' hs => hs
  have fin : ∀ {σ' : St} {H' : Hp} {v : V} {u : Value}, Inv (cxOf CX P w K mg base N qual scope f cdv A outer s H E) [] σ' H' s' → RelV v u → Q v H' → CE outer P w H s Q u s' :=
    fun {σ' H' v u} J rv q => ⟨v, H', J.os, J.bare, J.base, J.hok, rv, q⟩
  cases fl with
  | ret u =>
    obtain ⟨v, σ', H', J, rv, q⟩ := hs
    exact fin J rv q
  | next =>
    obtain ⟨σ', H', J, q⟩ := hs
    exact fin (v := V.non) (u := Value.none) J rfl q
  | brk =>
    obtain ⟨_, _, _, q⟩ := hs
    exact False.elim q
  | cont =>
    obtain ⟨_, _, _, q⟩ := hs
    exact False.elim q
end L2
namespace L2
open PySem PySem.Spec PyProof.Rows
section
variable {X : Cx} {x : Str} {p pos : Pos} {e : Expr} {es : List Expr} {t : TA} {id T : String} {r : List V → Hp → VK → Prop}
def tCB (r : List V → Hp → VK → Prop) (t : TA) : TE := fun σ H Q => t σ H fun vs H1 => r vs H1 Q
theorem pe_callB (hc : CallR X (.builtin id) r) (hg : Gl X x) (hm : X.mg x = none) (hv : bootBuiltins x = some (.builtin id)) (ha : PA X (e :: es) t) (hn : x ≠ "__name__" := by decide) (hdb : (x == ("__debug__" : Str)) = false := by decide)
    (he : starEach (e :: es) X.env = (false, eval e X.env) :: starEach es X.env := by rfl) (hpl : (backTo pos (starEach es X.env)).any (·.1) = false := by rfl) : PE X (.Call (.Name x p) (e :: es) [] pos) (tCB r t) := by
  intro pins s σ H Q I h
  refine wpAny_Call_Name_kw (ld_blt I hg hm hv ?_ hn hdb)
  exact PyProof.Rows.callWith_builtin1 (thn (ha pos pins s σ H _ I h) fun us s1 ⟨vs, H1, I1, r1, q1⟩ => hc pins s1 σ H1 vs us Q I1 r1 q1) he hpl
theorem pe_callTy (hc : CallR X (.type T) r) (hg : Gl X x) (hm : X.mg x = none) (hv : bootBuiltins x = some (.type T)) (ha : PA X (e :: es) t) (hn : x ≠ "__name__" := by decide) (hdb : (x == ("__debug__" : Str)) = false := by decide)
    (he : starEach (e :: es) X.env = (false, eval e X.env) :: starEach es X.env := by rfl) (hpl : (backTo pos (starEach es X.env)).any (·.1) = false := by rfl) : PE X (.Call (.Name x p) (e :: es) [] pos) (tCB r t) := by
  intro pins s σ H Q I h
  refine wpAny_Call_Name_kw (ld_blt I hg hm hv ?_ hn hdb)
  exact PyProof.Rows.callWith_type1 (thn (ha pos pins s σ H _ I h) fun us s1 ⟨vs, H1, I1, r1, q1⟩ => hc pins s1 σ H1 vs us Q I1 r1 q1) he hpl
end
end L2
namespace HT
open PySem PyProof.Rows
section
open PySem.SeqAt
open PySem.AutoSeq1 (wpAny_loadPart')
open PySem.MeetsSeq PySem.MeetsSeq2 PySem.MeetsSeq3
end
section
variable {prog : Program} {w : World} {A : Around} {E : Value → Shared → Prop} {s : Shared}
def sIx (n d : Nat) : Option Int → Nat
  | none => d
  | some v => if v < 0 then (v + (n : Int)).toNat else min v.toNat n
theorem sIx_nat (n d k : Nat) : sIx n d (some (k : Int)) = min k n := by
  show (if (k : Int) < 0 then ((k : Int) + (n : Int)).toNat else min (k : Int).toNat n) = min k n
  rw [if_neg (by omega), Int.toNat_natCast]
end
end HT
namespace L2
open PySem PySem.Spec PyProof.Rows
abbrev TO := St → Hp → (Option Int → Hp → Prop) → Prop
def PO (X : Cx) (e : Option Expr) (t : TO) : Prop :=
  ∀ (pins : List (Addr × Obj)) (s : Shared) (σ : St) (H : Hp) (Q : Option Int → Hp → Prop), Inv X pins σ H s → t σ H Q →
    wpAny (model X.prog X.w) X.A (evalPart e X.env) (fun u s' => ∃ o H', Inv X pins σ H' s' ∧ IsPart u o ∧ Q o H') X.xe s
def tPart (t : TE) : TO := fun σ H Q => t σ H fun x H1 => ∃ i, x = .int i ∧ Q (some i) H1
section
variable {X : Cx} {e : Expr} {te : TE} {lo hi : Option Expr} {tl th : TO} {pos p2 : Pos}
theorem po_some (h : PE X e te) : PO X (some e) (tPart te) := by
  intro pins s σ H Q I hw
  rw [evalPart_some]
  refine thn (h pins s σ H _ I hw) fun u s1 ⟨x, H1, I1, r1, q1⟩ => ?_
  obtain ⟨i, rfl, q⟩ := q1
  obtain ⟨t, rfl⟩ := r1
  exact ⟨some i, H1, I1, .int i t, q⟩
def SlR (X : Cx) (r : V → Option Int → Option Int → Hp → VK → Prop) : Prop :=
  ∀ (pins : List (Addr × Obj)) (s : Shared) (σ : St) (H : Hp) (x : V) (v vl vu : Value) (lo hi : Option Int) (sl : Addr) (Q : VK), Inv X pins σ H s → RelV x v → s.heap.IsSliceOf sl vl vu .none → IsPart vl lo → IsPart vu hi → r x lo hi H Q →
    ∃ T id, typeLookup (.type T) "__getitem__" = pure (some (.builtin id)) ∧ s.TypeIs v T ∧ wpAny (model X.prog X.w) X.A (getItem v (.ref sl)) (EP X pins σ Q) X.xe s
def tSl (r : V → Option Int → Option Int → Hp → VK → Prop) (te : TE) (tl th : TO) : TE := fun σ H Q => te σ H fun x H1 => tl σ H1 fun l H2 => th σ H2 fun u H3 => r x l u H3 Q
theorem pe_slice {r : V → Option Int → Option Int → Hp → VK → Prop} (hr : SlR X r) (he : PE X e te) (hl : PO X lo tl) (hu : PO X hi th) : PE X (.Subscript e (.Slice lo hi none p2) pos) (tSl r te tl th) := by
  intro pins s σ H Q I h
  refine Subscript_ (thn (he pins s σ H _ I h) fun v s1 ⟨x, H1, I1, r1, q1⟩ => ?_)
  refine wpAny_Slice (thn (hl pins s1 σ H1 _ I1 q1) fun vl s2 ⟨l, H2, I2, pl, q2⟩ => thn (hu pins s2 σ H2 _ I2 q2) fun vu s3 ⟨u, H3, I3, pu, q3⟩ => ?_)
  rw [evalPart_none]
  refine wpAny_pure ?_
  have I4 : Inv X pins σ H3 { s3 with heap := s3.heap.push { cls := .type "slice", data := .fields #[vl, vu, .none] } } := I3.kept (t' := s3.toks) fun b ob q => Heap.get?_push_of_some _ q
  obtain ⟨T, id, hT, ht, hg⟩ := hr pins { s3 with heap := s3.heap.push { cls := .type "slice", data := .fields #[vl, vu, .none] } } σ H3 x v vl vu l u s3.heap.objs.size Q I4 r1 (Heap.IsSliceOf.new ..) pl pu q3
  show wpAny (model X.prog X.w) X.A (subscriptTail e (.Slice lo hi none p2) v (.ref s3.heap.objs.size)) (EP X pins σ Q) X.xe { s3 with heap := s3.heap.push { cls := .type "slice", data := .fields #[vl, vu, .none] } }
  exact tail_any (ops := [.ref s3.heap.objs.size, v]) ht hT hg (by with_unfolding_all rfl)
def cutV (xs : List V) (lo hi : Option Int) : List V := (xs.drop (HT.sIx xs.length 0 lo)).take (HT.sIx xs.length xs.length hi - HT.sIx xs.length 0 lo)
theorem cutV_length (xs : List V) (lo hi : Option Int) : (cutV xs lo hi).length ≤ xs.length := by
  unfold cutV
  rw [List.length_take, List.length_drop]
  omega
end
end L2
namespace L2
open PySem PySem.Spec PyProof.Rows
def ixN (n : Nat) (i : Int) : Option Nat := if 0 ≤ i then (if i < n then some i.toNat else none) else if -(n : Int) ≤ i then some (i + n).toNat else none
def atI {α : Type} (xs : List α) (i : Int) : Option α := (ixN xs.length i).bind fun j => xs[j]?
theorem ixN_seq {n : Nat} {i : Int} {j : Nat} (h : ixN n i = some j) : seqIndex? i n = some j ∧ j < n ∧ -(n : Int) ≤ i ∧ i < n := by
  unfold ixN at h
  by_cases h0 : 0 ≤ i
  · rw [if_pos h0] at h
    by_cases h1 : i < n
    · rw [if_pos h1] at h
      have e : i.toNat = j := Option.some.inj h
      exact ⟨by rw [seqIndex_of h0 h1, e], by omega, by omega, h1⟩
    · rw [if_neg h1] at h; cases h
  · rw [if_neg h0] at h
    by_cases h1 : -(n : Int) ≤ i
    · rw [if_pos h1] at h
      have e : (i + n).toNat = j := Option.some.inj h
      exact ⟨by rw [seqIndex_neg (by omega) h1, e], by omega, h1, by omega⟩
    · rw [if_neg h1] at h; cases h
theorem atI_get {α : Type} {xs : List α} {i : Int} {v : α} (h : atI xs i = some v) : ∃ j, seqIndex? i xs.length = some j ∧ xs[j]? = some v ∧ j < xs.length ∧ -(xs.length : Int) ≤ i ∧ i < xs.length := by
  unfold atI at h
  cases e : ixN xs.length i with
  | none => rw [e] at h; cases h
  | some j =>
    rw [e] at h
    obtain ⟨h1, h2, h3, h4⟩ := ixN_seq e
    exact ⟨j, h1, h, h2, h3, h4⟩
theorem atI_nat {α : Type} {xs : List α} {j : Nat} {v : α} (h : xs[j]? = some v) : atI xs (j : Int) = some v := by
  have hj : j < xs.length := (List.getElem?_eq_some_iff.mp h).1
  have e : ixN xs.length (j : Int) = some j := by
    unfold ixN
    rw [if_pos (by omega), if_pos (by omega)]; simp
  unfold atI; rw [e]; exact h
def PlainIx (b : Expr) : Prop := ∀ o i, subscripted b false o i = operate [o, i] (getItem o i)
def IxR (X : Cx) (r : R2) : Prop :=
  ∀ (value slice : Expr) (pins : List (Addr × Obj)) (s : Shared) (σ : St) (H : Hp) (x y : V) (v u : Value) (Q : VK), Inv X pins σ H s → RelV x v → RelV y u → r x y H Q →
    subscripted slice false v u = operate [v, u] (getItem v u) → wpAny (model X.prog X.w) X.A (subscriptTail value slice v u) (EP X pins σ Q) X.xe s
def MtR (X : Cx) (id : String) (r : V → List V → Hp → VK → Prop) : Prop :=
  ∀ (pins : List (Addr × Obj)) (s : Shared) (σ : St) (H : Hp) (x : V) (xs : List V) (v : Value) (us : List Value) (Q : VK), Inv X pins σ H s → RelV x v → Vals xs us → r x xs H Q →
    wpAny (model X.prog X.w) X.A (call (.builtin id) (v :: us)) (EP X pins σ Q) X.xe s
section
variable {X : Cx} {a b : Expr} {ta tb : TE} {pos : Pos}
theorem pe_ix {r : R2} (hr : IxR X r) (ha : PE X a ta) (hb : PE X b tb) (hs : PlainIx b) : PE X (.Subscript a b pos) (tOp r ta tb) := by
  intro pins s σ H Q I h
  exact Subscript_ (binT ha hb I h fun v u s2 x y H2 I2 rx ry q => hr a b pins s2 σ H2 x y v u Q I2 rx ry q (hs _ _))
def rIxL (K : PySem.W.Frag) : R2 := fun x y H Q => ∃ p xs i v, x = .ref p ∧ y = .int i ∧ SqL K H p xs ∧ atI xs i = some v ∧ Q v H
def rIxT (K : PySem.W.Frag) : R2 := fun x y H Q => ∃ p xs i v, x = .ref p ∧ y = .int i ∧ SqT K H p xs ∧ atI xs i = some v ∧ Q v H
def rIxS : R2 := fun x y H Q => ∃ z i c, x = .str z ∧ y = .int i ∧ z.length ≤ sizeLine ∧ atI z.cps.toList i = some c ∧ Q (.str ⟨#[c]⟩) H
theorem ix_list : IxR X (rIxL X.K) := by
  intro value slice pins s σ H x y v u Q I rx ry h hs
  obtain ⟨p, xs, i, z, rfl, rfl, hq, he, q⟩ := h
  cases rx
  obtain ⟨t, rfl⟩ := ry
  obtain ⟨its, r, pl, hz⟩ := I.list hq
  obtain ⟨j, h1, h2, h3, h4, h5⟩ := atI_get he
  obtain ⟨w, ew, rw'⟩ := r.get h2
  have hl := r.length
  have hn := line63
  have fin : EP X pins σ Q w s := ⟨z, H, I, rw', q⟩
  by_cases h0 : 0 ≤ i
  · have hj : i.toNat = j := by
      rw [seqIndex_of h0 h5] at h1
      exact Option.some.inj h1
    exact item_listR pl.isList h0 (by omega) (by rw [hj]; simpa using ew) fin hs
  · have hj : (i + (its.toArray.size : Int)).toNat = j := by
      rw [seqIndex_neg (by omega) h4] at h1
      rw [List.size_toArray, ← hl]
      exact Option.some.inj h1
    exact subscriptTail_builtinR (x := w) pl.isList.typeIs slot_list_getitem.lookup
      (wpAny_getItem_list_neg (Q := fun r s' => r = w ∧ EP X pins σ Q r s') pl.isList (by omega) (by rw [List.size_toArray] <;> omega) (by omega) (by rw [hj]; simpa using ew) ⟨rfl, fin⟩) hs
theorem ix_tup : IxR X (rIxT X.K) := by
  intro value slice pins s σ H x y v u Q I rx ry h hs
  obtain ⟨p, xs, i, z, rfl, rfl, hq, he, q⟩ := h
  cases rx
  obtain ⟨t, rfl⟩ := ry
  obtain ⟨its, r, pl, hz⟩ := I.tuple hq
  obtain ⟨j, h1, h2, h3, h4, h5⟩ := atI_get he
  obtain ⟨w, ew, rw'⟩ := r.get h2
  have hl := r.length
  have hn := line63
  have fin : EP X pins σ Q w s := ⟨z, H, I, rw', q⟩
  exact subscriptTail_builtinR (x := w) pl.typeIs slot_tuple_getitem.lookup
    (getItem_tuple (j := j) (Q := fun r s' => r = w ∧ EP X pins σ Q r s') pl (by omega) (by omega) (by rw [List.size_toArray, ← hl]; exact h1) (by simpa using ew) ⟨rfl, fin⟩) hs
theorem ix_str : IxR X rIxS := by
  intro value slice pins s σ H x y v u Q I rx ry h hs
  obtain ⟨z, i, c, rfl, rfl, hz, he, q⟩ := h
  obtain ⟨t, rfl⟩ := rx
  obtain ⟨t', rfl⟩ := ry
  obtain ⟨j, h1, h2, h3, h4, h5⟩ := atI_get he
  have hl : z.cps.toList.length = z.length := by simp [Str.length]
  rw [hl] at h1 h4 h5
  have hn := line63
  exact tail_any (typeIs_str s z t) slot_str_getitem.lookup (getItem_str (c := c) (by
    have e1 : decide (i < -(2 ^ 63 : Int)) = false := decide_eq_false (by omega)
    have e2 : decide (i ≥ 2 ^ 63) = false := decide_eq_false (by omega)
    rw [e1, e2, Bool.or_false]) (by rw [h1]; simpa using h2) ⟨.str ⟨#[c]⟩, H, I.tok _, ⟨_, rfl⟩, q⟩) hs
theorem slice_bounds (lo hi : Option Int) (n : Nat) : (sliceBounds lo hi none n).1 = ((HT.sIx n 0 lo : Nat) : Int) ∧ (sliceBounds lo hi none n).2.1 = ((HT.sIx n n hi : Nat) : Int) ∧ (sliceBounds lo hi none n).2.2 = 1 := by
  refine ⟨?_, ?_, rfl⟩
  · cases lo with
    | none => simp [sliceBounds, HT.sIx]
    | some i =>
      simp only [sliceBounds, HT.sIx, Option.getD_none, show (1 : Int) > 0 by decide, if_true]
      by_cases h : i < 0
      · simp only [h, if_true] <;> omega
      · simp only [h, if_false] <;> omega
  · cases hi with
    | none => simp [sliceBounds, HT.sIx]
    | some i =>
      simp only [sliceBounds, HT.sIx, Option.getD_none, show (1 : Int) > 0 by decide, if_true]
      by_cases h : i < 0
      · simp only [h, if_true] <;> omega
      · simp only [h, if_false] <;> omega
theorem slicePick_cut (its : List Value) (lo hi : Option Int) : slicePick its.toArray lo hi none = ((its.drop (HT.sIx its.length 0 lo)).take (HT.sIx its.length its.length hi - HT.sIx its.length 0 lo)).toArray := by
  obtain ⟨h1, h2, h3⟩ := slice_bounds lo hi its.toArray.size
  unfold slicePick
  rw [h1, h2, h3]
  simp only [sliceRange_one, pick_run, List.size_toArray] <;> rfl
def rSlL (K : PySem.W.Frag) : V → Option Int → Option Int → Hp → VK → Prop := fun x lo hi H Q => ∃ a xs, x = .ref a ∧ SqL K H a xs ∧ ∀ p, H p = none → Q (.ref p) (upd H p (.lst (cutV xs lo hi)))
theorem sl_list : SlR X (rSlL X.K) := by
  intro pins s σ H x v vl vu lo hi sl Q I rx hs pl pu h
  obtain ⟨a, xs, rfl, hx, q⟩ := h
  cases rx
  obtain ⟨its, r, ht, hz⟩ := I.list hx
  have hlen := r.length
  refine ⟨"list", _, slot_list_getitem.lookup, ht.isList.typeIs, ?_⟩
  refine wpAny_getItem_list_slice ht.isList hs pl pu .none (by simp) ?_ (by rw [List.size_toArray] <;> omega)
  rw [slicePick_cut, ← hlen]
  refine ⟨.ref s.heap.objs.size, _, I.laid (t' := s.toks) (o := .lst (cutV xs lo hi)) (fun b ob q => Heap.get?_push_of_some _ q) (Nat.le_refl _) ?_, rfl, q _ (I.hok.fresh (Nat.le_refl _))⟩
  exact ⟨Nat.le_trans (cutV_length xs lo hi) hz, _, 0, (r.drop (HT.sIx xs.length 0 lo)).take (HT.sIx xs.length xs.length hi - HT.sIx xs.length 0 lo), Heap.get?_push_size _ rfl⟩
theorem call_len_seq : CallR X (.builtin "len") (fun xs H Q => ∃ p ys, xs = [.ref p] ∧ (SqL X.K H p ys ∨ SqT X.K H p ys) ∧ Q (.int ys.length) H) := by
  intro pins s σ H xs us Q I r h
  obtain ⟨p, ys, rfl, hq, q⟩ := h
  obtain ⟨u, rfl, rx⟩ := vals1 r
  cases rx
  have hn := line63
  rcases hq with hq | hq
  · obtain ⟨its, r', pl, hz⟩ := I.list hq
    have hlen := r'.length
    exact Calls.call_len_list pl.isList (by simp only [List.size_toArray] <;> omega) ⟨.int ys.length, H, I.tok _, ⟨s.toks + 1, by rw [List.size_toArray, hlen]⟩, q⟩
  · obtain ⟨its, r', pl, hz⟩ := I.tuple hq
    have hlen := r'.length
    exact len_tuple pl (by simp only [List.size_toArray] <;> omega) ⟨.int ys.length, H, I.tok _, ⟨s.toks + 1, by rw [List.size_toArray, hlen]⟩, q⟩
def tyV (K : PySem.W.Frag) (T : String) (x : V) (H : Hp) : Prop := match x with
  | .str _ => T = "str"
  | .int _ => T = "int"
  | .ref p => (T = "list" ∧ ∃ xs, SqL K H p xs) ∨ (T = "tuple" ∧ ∃ o, K.lookup p = some o ∧ o.cls = .type "tuple" ∧ o.dict = none) ∨
      (T = "dict" ∧ ((∃ kvs, H p = some (.dK kvs)) ∨ ∃ kvs, H p = some (.dT kvs))) ∨ (T = "set" ∧ ∃ S n, H p = some (.set S n))
  | _ => False
theorem tyV_is {pins : List (Addr × Obj)} {σ : St} {H : Hp} {s : Shared} {T : String} {x : V} {v : Value} (I : Inv X pins σ H s) (r : RelV x v) (ty : tyV X.K T x H) :
    s.TypeIs v T ∧ ∀ a, v = .ref a → ∃ ob, s.heap.get? a = some ob ∧ ob.dict = none := by
  cases x with
  | str z =>
    obtain ⟨t, rfl⟩ := r
    cases (show T = "str" from ty)
    exact ⟨typeIs_str s z t, fun _ e => nomatch e⟩
  | int i =>
    obtain ⟨t, rfl⟩ := r
    cases (show T = "int" from ty)
    exact ⟨typeIs_int s i t, fun _ e => nomatch e⟩
  | ref p =>
    cases r
    rcases ty with ⟨rfl, xs, hq⟩ | ⟨rfl, o, hk, hc, hd⟩ | ⟨rfl, hk⟩ | ⟨rfl, S, n, hk⟩
    · obtain ⟨its, _, pl, _⟩ := I.list hq
      refine ⟨pl.isList.typeIs, fun a e => ?_⟩
      cases e
      obtain ⟨o, n, e, c, hd, _⟩ := pl
      exact ⟨o, e, hd⟩
    · refine ⟨⟨o, I.kIn p o hk, hc⟩, fun a e => ?_⟩
      cases e
      exact ⟨o, I.kIn _ o hk, hd⟩
    · have z : ∃ o, s.heap.get? p = some o ∧ o.ExactDict := by
        rcases hk with ⟨kvs, hk⟩ | ⟨kvs, hk⟩
        · obtain ⟨_, _, _, _, o, _, _, e, ex, _⟩ := I.hok p _ hk
          exact ⟨o, e, ex⟩
        · obtain ⟨_, _, _, _, o, _, _, e, ex, _⟩ := I.hok p _ hk
          exact ⟨o, e, ex⟩
      obtain ⟨o, e, ex⟩ := z
      refine ⟨⟨o, e, ex.1⟩, fun a e2 => ?_⟩
      cases e2
      exact ⟨o, e, ex.2.1⟩
    · obtain ⟨o, _, _, _, e, ex, _⟩ := I.hok p _ hk
      refine ⟨⟨o, e, ex.1⟩, fun a e2 => ?_⟩
      cases e2
      exact ⟨o, e, ex.2.1⟩
  | _ => exact False.elim ty
def tBM (K : PySem.W.Frag) (T : String) (r : V → List V → Hp → VK → Prop) (to : TE) (t : TA) : TE := fun σ H Q => to σ H fun x H1 => tyV K T x H1 ∧ t σ H1 fun xs H2 => r x xs H2 Q
variable {o e : Expr} {es : List Expr} {to : TE} {t : TA} {name : Str} {apos cpos : Pos} {T id : String} {r : V → List V → Hp → VK → Prop}
theorem pe_bm (pa : PlainAttrs T) (slot : Slot T name id) (hty : typeOf (.builtin id) = pure (.type "method_descriptor")) (hm : MtR X id r) (ho : PE X o to) (ha : PA X (e :: es) t)
    (hbase : attributeBase o name X.env (eval o X.env) = eval o X.env := by rfl)
    (hfew : ((backTo cpos (starEach (e :: es) X.env)).all (fun x => !x.1) && (backToKw cpos (keywordEach [] X.env)).all (fun x => x.1.isSome)
      && decide ((e :: es).length + ([] : List Keyword).length + (if ([] : List Keyword).isEmpty then 0 else 1) < 30)) = true := by rfl)
    (hline : (apos.endLine == cpos.line) = true := by rfl) (hs : starEach (e :: es) X.env = (false, eval e X.env) :: starEach es X.env := by rfl) (hplain : (backTo cpos (starEach es X.env)).any (·.1) = false := by rfl) :
    PE X (.Call (.Attribute o name apos) (e :: es) [] cpos) (tBM X.K T r to t) := by
  intro pins s σ H Q I h
  refine wpAny_Call_method_late hbase hfew hline rfl (thn (ho pins s σ H _ I h) fun v s1 ⟨x, H1, I1, r1, ty, q1⟩ => ?_)
  obtain ⟨h1, h2⟩ := tyV_is I1 r1 ty
  refine ⟨T, id, pa, slot, hty, h1, h2, ?_⟩
  have hA := ha cpos pins s1 σ H1 _ I1 q1
  rw [hs] at hA ⊢
  refine Calls.callWith_builtin (by show (false || (backTo cpos (starEach es X.env)).any (·.1)) = false; rw [hplain] <;> rfl) (Calls.evalArgs_plain ?_)
  exact thn hA fun us s2 ⟨vs, H2, I2, r2, q2⟩ => hm pins s2 σ H2 x vs v us Q I2 r1 r2 q2
end
end L2
namespace L2
open PySem PySem.Spec PyProof.Rows
def MtM (X : Cx) (id : String) (r : V → List V → Hp → VK → Prop) : Prop :=
  ∀ (pins : List (Addr × Obj)) (s : Shared) (σ : St) (H : Hp) (x : V) (xs : List V) (v : Value) (us : List Value) (Q : VK), Inv X pins σ H s → RelV x v → Vals xs us → r x xs H Q →
    wpAny (model X.prog X.w) X.A (call (.builtin id) (v :: us)) (EP X pins σ Q) X.xe s
theorem Vals.one : ∀ {x : V} {us : List Value}, Vals [x] us → ∃ u, us = [u] ∧ RelV x u
  | _, _, .cons r .nil => ⟨_, rfl, r⟩
section
variable {X : Cx} {pins : List (Addr × Obj)} {σ : St} {H : Hp} {s : Shared} {l b : Addr} {xs ys zs : List V}
theorem Inv.lset {its its' : List Value} {n : Nat} {f : Array Value → Array Value} {t' : Nat} (I : Inv X pins σ H s) (hH : H l = some (.lst xs))
    (e : s.heap.get? l = some { cls := .type "list", data := .seq its.toArray n }) (hf : f its.toArray = its'.toArray) (hv : Vals ys its') (hz : ys.length ≤ sizeLine) :
    Inv X pins σ (upd H l (.lst ys)) { s with heap := s.heap.update l (Obj.mapSeq f), toks := t' } := by
  have q := PySem.IsL.update e f
  rw [hf] at q
  refine I.write (x := l) (e := l) (by rw [hH]; exact trivial) (.inl rfl) (fun b' u hb hu => (Heap.get?_update_other s.heap (Obj.mapSeq f) (Ne.symm hb)).trans hu) ⟨_, q⟩ ?_
  exact ⟨hz, its', _, hv, q⟩
theorem Inv.lnew {its : List Value} {t' : Nat} (I : Inv X pins σ H s) (hv : Vals ys its) (hz : ys.length ≤ sizeLine) :
    Inv X pins σ (upd H s.heap.objs.size (.lst ys)) { s with heap := s.heap.push { cls := .type "list", data := .seq its.toArray }, toks := t' } :=
  I.laid (fun _ _ q => Heap.get?_push_of_some _ q) (Nat.le_refl _) ⟨hz, its, 0, hv, Heap.get?_push_size _ rfl⟩
theorem Inv.fresh (I : Inv X pins σ H s) : H s.heap.objs.size = none := I.hok.fresh (Nat.le_refl _)
theorem Inv.lstM (I : Inv X pins σ H s) (hH : H l = some (.lst xs)) : xs.length ≤ sizeLine ∧ ∃ (its : List Value) (n : Nat), Vals xs its ∧ xs.length = its.length ∧ s.heap.get? l = some { cls := .type "list", data := .seq its.toArray n } := by
  obtain ⟨z, its, n, r, e⟩ := I.hok l _ hH
  exact ⟨z, its, n, r, r.length, e⟩
theorem notLongL {n : Nat} (h : n ≤ sizeLine) : Builtin.List.listTooLong n = false := by
  unfold Builtin.List.listTooLong
  exact decide_eq_false (by omega)
end
section
variable {X : Cx}
def rAppend : V → List V → Hp → VK → Prop := fun x vs H Q => ∃ l xs y, x = .ref l ∧ vs = [y] ∧ H l = some (.lst xs) ∧ xs.length < sizeLine ∧ Q .non (upd H l (.lst (xs ++ [y])))
theorem mt_append : MtM X "list.append" rAppend := by
  intro pins s σ H x vs v us Q I rx rv h
  obtain ⟨l, xs, y, rfl, rfl, hH, hz, q⟩ := h
  cases rx
  obtain ⟨u, rfl, ru⟩ := rv.one
  obtain ⟨z, its, n, r, hl, e⟩ := I.lstM hH
  refine call_meets F.slot_list_append ⟨_, e, rfl⟩ F.entry_list_append (F.args_list_append_2 _ _) (PySem.list_append l its.toArray n u (by rw [List.size_toArray]; omega)) ⟨e, ?_⟩
  refine ⟨.non, _, I.lset (its' := its ++ [u]) hH e (by simp) (r.append (.cons ru .nil)) ?_, rfl, q⟩
  rw [List.length_append, List.length_singleton]
  omega
def rExtend : V → List V → Hp → VK → Prop := fun x vs H Q => ∃ l b xs zs, x = .ref l ∧ vs = [.ref b] ∧ H l = some (.lst xs) ∧ H b = some (.lst zs) ∧ xs.length + zs.length ≤ sizeLine ∧ Q .non (upd H l (.lst (xs ++ zs)))
theorem mt_extend : MtM X "list.extend" rExtend := by
  intro pins s σ H x vs v us Q I rx rv h
  obtain ⟨l, b, xs, zs, rfl, rfl, hH, hB, hz, q⟩ := h
  cases rx
  obtain ⟨u, rfl, ru⟩ := rv.one
  cases ru
  obtain ⟨z, its, n, r, hl, e⟩ := I.lstM hH
  obtain ⟨z2, its2, n2, r2, hl2, e2⟩ := I.lstM hB
  have hsz : its.toArray.size + its2.toArray.size ≤ sizeLine := by rw [List.size_toArray, List.size_toArray]; omega
  have hlong : ¬ (!its.toArray.isEmpty && Builtin.List.listTooLong (its.toArray.size + its2.toArray.size)) = true := by
    rw [notLongL hsz, Bool.and_false]
    exact Bool.false_ne_true
  refine call_meets F.slot_list_extend ⟨_, e, rfl⟩ F.entry_list_extend (F.args_list_extend_2 _ _)
    (AutoSeq1.list_extend_list_list_0 l its.toArray n b its2.toArray n2 hlong (by rw [List.size_toArray]; omega) (by omega)) ⟨e, e2, ?_⟩
  refine ⟨.non, _, I.lset (its' := its ++ its2) hH e (by simp) (r.append r2) ?_, rfl, q⟩
  rw [List.length_append]
  omega
def rCat : R2 := fun x y H Q => ∃ l b xs zs, x = .ref l ∧ y = .ref b ∧ H l = some (.lst xs) ∧ H b = some (.lst zs) ∧ xs.length + zs.length ≤ sizeLine ∧ ∀ p, H p = none → Q (.ref p) (upd H p (.lst (xs ++ zs)))
theorem op_cat : OpR X (binaryOp .Add) rCat := by
  intro pins s σ H x y v u Q I rx ry h
  obtain ⟨l, b, xs, zs, rfl, rfl, hH, hB, hz, q⟩ := h
  cases rx
  cases ry
  obtain ⟨z, its, n, r, hl, e⟩ := I.lstM hH
  obtain ⟨z2, its2, n2, r2, hl2, e2⟩ := I.lstM hB
  refine PySem.P.add_list e e2 ?_ (by rw [List.size_toArray, List.size_toArray]; omega)
  have ea : its.toArray ++ its2.toArray = (its ++ its2).toArray := by simp
  rw [ea]
  exact ⟨.ref _, _, I.lnew (t' := s.toks) (r.append r2) (by rw [List.length_append]; omega), rfl, q _ I.fresh⟩
end
section
variable {prog : Program} {w : World} {A : Around} {E : Value → Shared → Prop} {s : Shared}
set_option maxRecDepth 100000 in
end
section
variable {X : Cx}
end
end L2
namespace L2
open PySem PySem.Spec PyProof.Rows
theorem vals_of_ints : ∀ {us : List Value} {ns : List Int}, IntsAre us ns → Vals (ns.map V.int) us
  | _, _, .nil => by rw [List.map_nil]; exact Paired.nil
  | _, _, .cons n t h => by rw [List.map_cons]; exact Paired.cons (show RelV (V.int n) (Value.int n t) from ⟨t, rfl⟩) (vals_of_ints h)
section
variable {prog : Program} {w : World} {A : Around} {E : Value → Shared → Prop} {s : Shared} {l : Addr} {its : List Value} {ns : List Int} {Q : Value → Shared → Prop}
end
section
variable {X : Cx}
end
section
variable {X : Cx}
end
section
variable {X : Cx}
end
section
variable {X : Cx}
end
mutual
inductive Dp (K : PySem.W.Frag) (H : Hp) : V → PyData → Prop
  | non : Dp K H .non .none
  | bl (b : Bool) : Dp K H (.bl b) (.bool b)
  | int (i : Int) : Dp K H (.int i) (.int i)
  | str (x : Str) : Dp K H (.str x) (.str x)
  | lst {a : Addr} {xs : List V} {ds : List PyData} : SqL K H a xs → DpAll K H xs ds → Dp K H (.ref a) (.list ds)
  | tup {a : Addr} {xs : List V} {ds : List PyData} : SqT K H a xs → DpAll K H xs ds → Dp K H (.ref a) (.tuple ds)
inductive DpAll (K : PySem.W.Frag) (H : Hp) : List V → List PyData → Prop
  | nil : DpAll K H [] []
  | cons {v : V} {vs : List V} {d : PyData} {ds : List PyData} : Dp K H v d → DpAll K H vs ds → DpAll K H (v :: vs) (d :: ds)
end
section
variable {X : Cx} {pins : List (Addr × Obj)} {σ : St} {H : Hp} {s : Shared}
mutual
theorem Dp.reads (I : Inv X pins σ H s) : ∀ (d : PyData) (v : V) (u : Value), Dp X.K H v d → RelV v u → ∃ as, Reads s.heap u d as
  | .none, _, _, h, r => by
    cases h
    cases r
    exact ⟨_, Reads.none⟩
  | .bool b, _, _, h, r => by
    cases h
    cases r
    exact ⟨_, Reads.bool b⟩
  | .int i, _, _, h, r => by
    cases h
    obtain ⟨t, rfl⟩ := r
    exact ⟨_, Reads.int i t⟩
  | .str x, _, _, h, r => by
    cases h
    obtain ⟨t, rfl⟩ := r
    exact ⟨_, Reads.str x t⟩
  | .list ds, _, _, h, r => by
    cases h with
    | lst hs ha =>
      cases r
      obtain ⟨its, rv, ⟨o, n, ho, hc, _, hd⟩, _⟩ := I.list hs
      obtain ⟨as, hr⟩ := Dp.readsAll I ds _ its ha rv
      exact ⟨_, Reads.list ho hc hd hr⟩
  | .tuple ds, _, _, h, r => by
    cases h with
    | tup hs ha =>
      cases r
      obtain ⟨its, rv, ⟨o, ho, hc, n, hd⟩, _⟩ := I.tuple hs
      obtain ⟨as, hr⟩ := Dp.readsAll I ds _ its ha rv
      exact ⟨_, Reads.tuple ho hc hd hr⟩
  | .dict _, _, _, h, _ => by cases h
theorem Dp.readsAll (I : Inv X pins σ H s) : ∀ (ds : List PyData) (vs : List V) (us : List Value), DpAll X.K H vs ds → Vals vs us → ∃ as, ReadsAll s.heap us ds as
  | [], _, _, h, r => by
    cases h
    cases r
    exact ⟨_, ReadsAll.nil⟩
  | d :: ds, _, _, h, r => by
    cases h with
    | cons h1 h2 =>
      cases r with
      | cons r1 r2 =>
        obtain ⟨as, q1⟩ := Dp.reads I d _ _ h1 r1
        obtain ⟨bs, q2⟩ := Dp.readsAll I ds _ _ h2 r2
        exact ⟨_, ReadsAll.cons q1 q2⟩
end
end
section
variable {X : Cx}
end
end L2
namespace L2
open PySem PySem.Spec PyProof.Rows
abbrev CellAt (h : Heap) (c : Addr) (v : Option Value) : Prop := h.IsCell c v
def relS (scope sc : Scope) : Scope :=
  { scope with names := scope.names.map fun (n, k) => if (k == .free && sc.kind == .function && sc.names.lookup n == some .cell) then (n, .cell) else (n, k) }
def cloFrom (cells : List (Str × Addr)) : List (Str × NameKind) → List (Str × Addr) → List (Str × Addr)
  | [], acc => acc
  | (n, k) :: r, acc => if k == .free then cloFrom cells r ((n, (cells.lookup n).getD 0) :: acc) else cloFrom cells r acc
theorem closure_loop (env : Env) (f : Str × NameKind → List (Str × Addr) → Sem (ForInStep (List (Str × Addr))))
    (hf : ∀ n k c, f (n, k) c = if k == .free then (do let a ← cellOf env n; pure (.yield ((n, a) :: c))) else pure (.yield c)) :
    ∀ (names : List (Str × NameKind)) (acc : List (Str × Addr)), (∀ y ∈ names, y.2 = .free → ∃ c, env.cells.lookup y.1 = some c) → forIn names acc f = pure (cloFrom env.cells names acc)
  | [], acc, _ => by rw [List.forIn_nil]; rfl
  | (n, k) :: r, acc, h => by
    rw [List.forIn_cons, hf]
    have ih := fun acc => closure_loop env f hf r acc fun y hy => h y (List.mem_cons_of_mem _ hy)
    unfold cloFrom
    by_cases hk : (k == NameKind.free) = true
    · rw [if_pos hk, if_pos hk]
      obtain ⟨c, hc⟩ := h (n, k) List.mem_cons_self (by simpa using hk)
      have e : cellOf env n = pure c := by unfold cellOf; rw [hc]
      rw [e]
      have e2 : (env.cells.lookup n).getD 0 = c := by rw [hc]; rfl
      rw [e2]
      exact ih _
    · rw [if_neg hk, if_neg hk]
      exact ih _
theorem closure_ok {scope : Scope} {env : Env} (h : ∀ y ∈ scope.names, y.2 = .free → ∃ c, env.cells.lookup y.1 = some c) : closureFor scope env = pure (cloFrom env.cells scope.names []) := by
  simp only [closureFor]
  rw [closure_loop env _ (fun n k c => rfl) scope.names [] h]
  rfl
theorem mem_lookup {α : Type} : ∀ {l : List (Str × α)} {n : Str} {c : α}, (n, c) ∈ l → ∃ c', l.lookup n = some c'
  | (k, v) :: r, n, c, h => by
    rw [List.lookup_cons]
    cases hb : n == k with
    | true => exact ⟨_, rfl⟩
    | false =>
      rcases List.mem_cons.mp h with e | h
      · cases e; simp at hb
      · exact mem_lookup h
theorem cloFrom_mem {cells : List (Str × Addr)} : ∀ {names : List (Str × NameKind)} {acc : List (Str × Addr)} {n : Str} {c : Addr}, (n, c) ∈ cloFrom cells names acc → (n, c) ∈ acc ∨ ((n, .free) ∈ names ∧ c = (cells.lookup n).getD 0)
  | [], _, _, _, h => .inl h
  | (m, k) :: r, acc, n, c, h => by
    unfold cloFrom at h
    split at h
    · rename_i hk
      have hk : k = .free := by simpa using hk
      rcases cloFrom_mem h with h | ⟨h1, h2⟩
      · rcases List.mem_cons.mp h with e | h
        · cases e; exact .inr ⟨hk ▸ List.mem_cons_self, rfl⟩
        · exact .inl h
      · exact .inr ⟨List.mem_cons_of_mem _ h1, h2⟩
    · rcases cloFrom_mem h with h | ⟨h1, h2⟩
      · exact .inl h
      · exact .inr ⟨List.mem_cons_of_mem _ h1, h2⟩
theorem cloFrom_acc {cells : List (Str × Addr)} : ∀ {names : List (Str × NameKind)} {acc : List (Str × Addr)} {p : Str × Addr}, p ∈ acc → p ∈ cloFrom cells names acc
  | [], _, _, h => h
  | (m, k) :: r, acc, p, h => by
    unfold cloFrom
    split
    · exact cloFrom_acc (List.mem_cons_of_mem _ h)
    · exact cloFrom_acc h
theorem cloFrom_has {cells : List (Str × Addr)} : ∀ {names : List (Str × NameKind)} {acc : List (Str × Addr)} {n : Str}, (n, .free) ∈ names → (n, (cells.lookup n).getD 0) ∈ cloFrom cells names acc
  | (m, k) :: r, acc, n, h => by
    unfold cloFrom
    rcases List.mem_cons.mp h with e | h
    · cases e
      exact cloFrom_acc List.mem_cons_self
    · split
      · exact cloFrom_has h
      · exact cloFrom_has h
theorem cells_mem : ∀ {names : List (Str × NameKind)} {h : Heap} {acc : List (Str × Addr)} {x : Str} {c : Addr}, (x, c) ∈ cellsFrom h.objs.size names acc →
    (x, c) ∈ acc ∨ ((x, .cell) ∈ names ∧ h.objs.size ≤ c ∧ CellAt (pushCells h names) c none)
  | [], _, _, _, _, h => .inl h
  | (n, k) :: r, h, acc, x, c, hm => by
    unfold cellsFrom at hm
    unfold pushCells
    split at hm
    · rename_i hk
      rw [if_pos hk]
      have hk : k = .cell := by simpa using hk
      rw [← Heap.size_push h { cls := .type "cell", data := .cell none }] at hm
      rcases cells_mem hm with hm | ⟨h1, h2, h3⟩
      · rcases List.mem_cons.mp hm with e | hm
        · cases e
          exact .inr ⟨hk ▸ List.mem_cons_self, Nat.le_refl _, _, pushCells_keeps r _ _ _ (Heap.get?_push_size _ rfl), rfl⟩
        · exact .inl hm
      · rw [Heap.size_push] at h2
        exact .inr ⟨List.mem_cons_of_mem _ h1, Nat.le_of_succ_le h2, h3⟩
    · rename_i hk
      rw [if_neg hk]
      rcases cells_mem hm with hm | ⟨h1, h2, h3⟩
      · exact .inl hm
      · exact .inr ⟨List.mem_cons_of_mem _ h1, h2, h3⟩
theorem cells_acc : ∀ {names : List (Str × NameKind)} {n : Nat} {acc : List (Str × Addr)} {p : Str × Addr}, p ∈ acc → p ∈ cellsFrom n names acc
  | [], _, _, _, h => h
  | (m, k) :: r, n, acc, p, h => by
    unfold cellsFrom
    split
    · exact cells_acc (List.mem_cons_of_mem _ h)
    · exact cells_acc h
theorem cells_has : ∀ {names : List (Str × NameKind)} {n : Nat} {acc : List (Str × Addr)} {x : Str}, (x, .cell) ∈ names → ∃ c, (x, c) ∈ cellsFrom n names acc
  | (m, k) :: r, n, acc, x, h => by
    unfold cellsFrom
    rcases List.mem_cons.mp h with e | h
    · cases e
      exact ⟨n, cells_acc List.mem_cons_self⟩
    · split
      · exact cells_has h
      · exact cells_has h
theorem cells_inj : ∀ {names : List (Str × NameKind)} {h : Heap} {acc : List (Str × Addr)} {x y : Str} {c : Addr}, (∀ p ∈ acc, p.2 < h.objs.size) → (∀ x y c, (x, c) ∈ acc → (y, c) ∈ acc → x = y) →
    (x, c) ∈ cellsFrom h.objs.size names acc → (y, c) ∈ cellsFrom h.objs.size names acc → x = y
  | [], _, _, _, _, _, _, hi, h1, h2 => hi _ _ _ h1 h2
  | (n, k) :: r, h, acc, x, y, c, hl, hi, h1, h2 => by
    unfold cellsFrom at h1 h2
    split at h1
    · rename_i hk
      rw [if_pos hk] at h2
      rw [← Heap.size_push h { cls := .type "cell", data := .cell none }] at h1 h2
      refine cells_inj (h := h.push _) (fun p hp => ?_) (fun x y c a b => ?_) h1 h2
      · rw [Heap.size_push]
        rcases List.mem_cons.mp hp with rfl | hp
        · exact Nat.lt_succ_self _
        · exact Nat.lt_succ_of_lt (hl p hp)
      · rcases List.mem_cons.mp a with e | a <;> rcases List.mem_cons.mp b with e' | b
        · cases e; cases e'; rfl
        · cases e; exact absurd (hl _ b) (Nat.lt_irrefl _)
        · cases e'; exact absurd (hl _ a) (Nat.lt_irrefl _)
        · exact hi _ _ _ a b
    · rename_i hk
      rw [if_neg hk] at h2
      exact cells_inj hl hi h1 h2
theorem newEnv_comp {M : Model} {A : Around} {E : Value → Shared → Prop} {s : Shared} {scope : Scope} {globals : Addr} {closure : List (Str × Addr)} {qual : Str} {func : Option Addr} {code : Value} {around : Env} {builtins : Addr} {Q : Env → Shared → Prop}
    (h : Q (newEnv scope s.heap.objs.size globals (cellsFrom (s.heap.objs.size + 1) scope.names closure) qual func code (some around) builtins)
      { s with heap := pushCells (s.heap.push { cls := .type "dict", data := .dict #[] }) scope.names }) :
    wpAny M A (newFunctionEnv scope globals closure [] qual func code (some around) builtins) Q E s := by
  simp only [newFunctionEnv, Option.isSome_some, if_true]
  refine wpAny_bind (wpAny_alloc ?_)
  refine wpAny_bind (wpAny_layCells _ (fun n k c => rfl) scope.names closure _ _ ?_)
  rw [show ({ s with heap := s.heap.push { cls := .type "dict", data := .dict #[] } } : Shared).heap.objs.size = s.heap.objs.size + 1 from Heap.size_push ..]
  rw [List.forIn_nil]
  exact wpAny_bind (wpAny_pure (wpAny_pure h))
theorem lookup_relS {sc : Scope} : ∀ {names : List (Str × NameKind)} {x : Str} {k : NameKind},
    (names.map fun (n, k) => if (k == NameKind.free && sc.kind == .function && sc.names.lookup n == some .cell) then (n, NameKind.cell) else (n, k)).lookup x = some k →
    ∃ k', names.lookup x = some k' ∧ (k = k' ∨ (k' = .free ∧ k = .cell))
  | [], _, _, h => by simp at h
  | (n, k₀) :: r, x, k, h => by
    have ih := @lookup_relS sc r x k
    have h' : List.lookup x ((if (k₀ == NameKind.free && sc.kind == .function && sc.names.lookup n == some .cell) = true then (n, NameKind.cell) else (n, k₀)) :: (r.map _)) = some k := h
    cases hx : x == n with
    | true =>
      simp only [List.lookup_cons, hx]
      by_cases hc : (k₀ == NameKind.free && sc.kind == .function && sc.names.lookup n == some .cell) = true
      · rw [if_pos hc] at h'
        simp only [List.lookup_cons, hx] at h'
        cases h'
        simp only [Bool.and_eq_true, beq_iff_eq] at hc
        exact ⟨k₀, rfl, .inr ⟨hc.1.1, rfl⟩⟩
      · rw [if_neg hc] at h'
        simp only [List.lookup_cons, hx] at h'
        cases h'
        exact ⟨_, rfl, .inl rfl⟩
    | false =>
      simp only [List.lookup_cons, hx]
      by_cases hc : (k₀ == NameKind.free && sc.kind == .function && sc.names.lookup n == some .cell) = true
      · rw [if_pos hc] at h'
        simp only [List.lookup_cons, hx] at h'
        exact ih h'
      · rw [if_neg hc] at h'
        simp only [List.lookup_cons, hx] at h'
        exact ih h'
structure BlkOk (N : List Str) (sc scope : Scope) (own : List (Str × Nat)) : Prop where
  kind : scope.kind = .function
  uniq : ∀ y ∈ scope.names, scope.names.lookup y.1 = some y.2
  ix : ∀ p ∈ own, N[p.2]? = some p.1
  free : ∀ y ∈ scope.names, y.2 = .free → sc.names.lookup y.1 = some .cell ∨ sc.names.lookup y.1 = some .free
  own : ∀ y ∈ scope.names, y.2 = .local ∨ y.2 = .cell → y.1 ∈ own.map (·.1) ∨ y.1 ∉ N
def wipe (σ : St) : List Nat → St
  | [] => σ
  | v :: vs => (wipe σ vs).set v none
theorem wipe_length (σ : St) : ∀ vs : List Nat, (wipe σ vs).length = σ.length
  | [] => rfl
  | v :: vs => by unfold wipe; rw [List.length_set, wipe_length σ vs]
theorem wipe_some {σ : St} {i : Nat} {x : V} : ∀ {vs : List Nat}, (wipe σ vs)[i]? = some (some x) → σ[i]? = some (some x) ∧ i ∉ vs
  | [], h => ⟨h, by simp⟩
  | v :: vs, h => by
    unfold wipe at h
    by_cases hi : v = i
    · subst hi
      by_cases hv : v < (wipe σ vs).length
      · rw [List.getElem?_set_self hv] at h; cases h
      · rw [List.getElem?_eq_none (by simpa using hv)] at h; cases h
    · rw [List.getElem?_set_ne hi] at h
      obtain ⟨h1, h2⟩ := wipe_some h
      exact ⟨h1, by simp only [List.mem_cons, not_or]; exact ⟨fun e => hi e.symm, h2⟩⟩
abbrev Cx.blk (X : Cx) (s : Shared) (H : Hp) (scope : Scope) (cenv : Env) (fp : List Addr) : Cx := { X with s₀ := s, H₀ := H, env := cenv, outer := X.stack, ex := fp, fn := fun x => scope.names.lookup x == some .cell, pn := [], xe := fun _ _ => False }
section
variable {X : Cx} {pins : List (Addr × Obj)} {σ : St} {H : Hp} {s : Shared}
theorem block_start {scope : Scope} {own : List (Str × Nat)} {fp : List Addr} (I : Inv X pins σ H s) (ok : BlkOk X.N X.env.scope scope own) (hN : X.N.Nodup) (hfp : ∀ b ∈ fp, FpOk X pins H b ∧ b < s.heap.objs.size) :
    Inv (X.blk s H scope (compEnvC scope (cellsFrom (s.heap.objs.size + 1) scope.names (cloFrom X.env.cells scope.names [])) s.heap.objs.size X.env) fp) [] (wipe σ (own.map (·.2))) H { s with heap := pushCells (s.heap.push { cls := .type "dict", data := .dict #[] }) scope.names } := by
  have hfree : ∀ y ∈ scope.names, y.2 = .free → ∃ c, X.env.cells.lookup y.1 = some c := fun y hy e => by
    rcases ok.free y hy e with k | k
    · exact I.ok.has _ (.inl k)
    · exact I.ok.has _ (.inr k)
  generalize hcenv : compEnvC scope (cellsFrom (s.heap.objs.size + 1) scope.names (cloFrom X.env.cells scope.names [])) s.heap.objs.size X.env = cenv
  have kp : ∀ b o, s.heap.get? b = some o → (pushCells (s.heap.push { cls := .type "dict", data := .dict #[] }) scope.names).get? b = some o := fun b o e => pushCells_keeps _ _ _ _ (Heap.get?_push_of_some _ e)
  have hL : cenv.locals = s.heap.objs.size := by rw [← hcenv]; rfl
  have hcl : cenv.cells = cellsFrom (s.heap.objs.size + 1) scope.names (cloFrom X.env.cells scope.names []) := by rw [← hcenv]; rfl
  have hsc : cenv.scope = relS scope X.env.scope := by rw [← hcenv]; rfl
  rw [← Heap.size_push s.heap { cls := .type "dict", data := .dict #[] }] at hcl
  have cm : ∀ {y c}, (y, c) ∈ cloFrom X.env.cells scope.names [] → X.env.cells.lookup y = some c ∧ c < s.heap.objs.size := fun {y c} hm => by
    rcases cloFrom_mem hm with hm | ⟨h1, rfl⟩
    · cases hm
    · obtain ⟨c, hc⟩ := hfree _ h1 rfl
      rw [hc]
      obtain ⟨w, z⟩ := I.cell _ _ hc
      exact ⟨rfl, z.lt⟩
  have mem : ∀ {y c}, cenv.cells.lookup y = some c → (X.env.cells.lookup y = some c ∧ c < s.heap.objs.size) ∨ (s.heap.objs.size + 1 ≤ c ∧ CellAt (pushCells (s.heap.push { cls := .type "dict", data := .dict #[] }) scope.names) c none) := fun {y c} e => by
    rw [hcl] at e
    rcases cells_mem (PySem.mem_of_lookup e) with hm | ⟨_, h2, h3⟩
    · exact .inl (cm hm)
    · rw [Heap.size_push] at h2; exact .inr ⟨h2, h3⟩
  have look : ∀ {y}, scope.names.lookup y = some .free → ∃ c, cenv.cells.lookup y = some c ∧ X.env.cells.lookup y = some c := fun {y} hl => by
    have hy : (y, NameKind.free) ∈ scope.names := PySem.mem_of_lookup hl
    obtain ⟨c', e'⟩ := mem_lookup (cells_acc (names := scope.names) (n := (s.heap.push { cls := .type "dict", data := .dict #[] }).objs.size) (cloFrom_has (cells := X.env.cells) (acc := []) hy))
    rw [← hcl] at e'
    refine ⟨c', e', ?_⟩
    rw [hcl] at e'
    rcases cells_mem (PySem.mem_of_lookup e') with hm | ⟨h1, _, _⟩
    · exact (cm hm).1
    · have := ok.uniq _ h1
      rw [hl] at this; cases this
  have okB : (X.blk s H scope cenv fp).Ok := by
    refine ⟨I.ok.mod, by show cenv.scope.kind = _; rw [hsc]; exact ok.kind, by show cenv.globals = _; rw [← hcenv]; exact I.ok.glob, by show cenv.builtins = _; rw [← hcenv]; exact I.ok.blt, by show s.heap.objs.size ≤ cenv.locals; rw [hL]; exact Nat.le_refl _,
      fun y z c e1 e2 => ?_, fun y hy => ?_, fun y c z e => ?_, I.ok.hd, I.ok.frames, .inl rfl, fun b hb => ⟨?_, fun y c e z => ?_⟩, I.bs, Nat.le_trans I.ok.bsz I.sz, fun b o e hb => ?_, fun b hb z => ?_, I.stack, I.stkFree⟩
    · have e1 : cenv.cells.lookup y = some c := e1
      have e2 : cenv.cells.lookup z = some c := e2
      rw [hcl] at e1 e2
      refine cells_inj (fun p hp => ?_) (fun y z c a b => I.ok.inj y z c (cm a).1 (cm b).1) (PySem.mem_of_lookup e1) (PySem.mem_of_lookup e2)
      rw [Heap.size_push]
      exact Nat.lt_succ_of_lt (cm (y := p.1) (c := p.2) hp).2
    · show ∃ c, cenv.cells.lookup y = some c
      have key : ∀ k, cenv.kindOf y = some k → (k = .cell ∨ k = .free) → ∃ c, cenv.cells.lookup y = some c := fun k hk hk' => by
        unfold Env.kindOf at hk
        rw [hsc] at hk
        obtain ⟨k', e, r⟩ := lookup_relS hk
        have : k' = .cell ∨ k' = .free := by
          rcases r with rfl | ⟨rfl, _⟩
          · exact hk'
          · exact .inr rfl
        rcases this with rfl | rfl
        · obtain ⟨c, hm⟩ := cells_has (n := (s.heap.push { cls := .type "dict", data := .dict #[] }).objs.size) (acc := cloFrom X.env.cells scope.names []) (PySem.mem_of_lookup e)
          obtain ⟨c', e'⟩ := mem_lookup hm
          exact ⟨c', by rw [hcl]; exact e'⟩
        · obtain ⟨c, h1, _⟩ := look e
          exact ⟨c, h1⟩
      rcases hy with hy | hy
      · exact key _ hy (.inl rfl)
      · exact key _ hy (.inr rfl)
    · have z : (scope.names.lookup y == some NameKind.cell) = true := z
      have z : scope.names.lookup y = some .cell := by simpa using z
      have e : cenv.cells.lookup y = some c := e
      rw [hcl] at e
      rcases cells_mem (PySem.mem_of_lookup e) with hm | ⟨_, h2, _⟩
      · rcases cloFrom_mem hm with hm | ⟨h1, _⟩
        · cases hm
        · have q := ok.uniq _ h1
          rw [z] at q; cases q
      · rw [Heap.size_push] at h2
        exact Nat.le_of_succ_le h2
    · show b ≠ cenv.locals
      rw [hL]; exact Nat.ne_of_lt (hfp b hb).2
    · have e : cenv.cells.lookup y = some c := e
      rcases mem e with ⟨h1, _⟩ | ⟨h1, _⟩
      · exact (hfp b hb).1.2.2.2.2.1 y c h1 z
      · have h2 : s.heap.objs.size + 1 ≤ b := by rw [← z]; exact h1
        exact absurd (Nat.lt_of_lt_of_le (hfp b hb).2 (Nat.le_of_succ_le h2)) (Nat.lt_irrefl _)
    · rcases (hfp b hb).1.2.2.2.1 with z | z
      · exact I.ok.noex b o e z
      · exact absurd (Nat.lt_of_lt_of_le (Heap.lt_size e) (Nat.le_trans I.ok.bsz z)) (Nat.lt_irrefl _)
    · rcases List.mem_cons.mp (I.stkSub b z) with z | z
      · exact (hfp b hb).1.2.1 z
      · exact (hfp b hb).1.2.2.1 z
  refine ⟨okB, rfl, I.bare, Un.kept kp, ⟨fun _ => none, ?_, fun i y av e1 e2 e3 => ?_⟩, fun y c e => ?_, ?_, fun y c e => ?_, fun p hp => ?_, I.hok.kept kp, by rw [wipe_length]; exact I.len⟩
  · show Heap.Ns _ cenv.locals _
    rw [hL]
    exact Heap.Ns.keeps (Heap.Ns.new ..) fun b o e => pushCells_keeps _ _ _ _ e
  · obtain ⟨e2, hne⟩ := wipe_some e2
    have hfr : scope.names.lookup y = some .free ∧ (cenv.kindOf y = some .cell ∨ cenv.kindOf y = some .free) := by
      have key : ∀ k, cenv.scope.names.lookup y = some k → k = .local ∨ k = .cell ∨ k = .free → scope.names.lookup y = some .free ∧ (cenv.kindOf y = some .cell ∨ cenv.kindOf y = some .free) := fun k hk hk' => by
        have hk0 := hk
        rw [hsc] at hk
        obtain ⟨k', e, r⟩ := lookup_relS hk
        have no : ¬ (k' = .local ∨ k' = .cell) := fun hh => by
          rcases ok.own _ (PySem.mem_of_lookup e) hh with e' | e'
          · obtain ⟨p, hp, hpy⟩ := List.mem_map.mp e'
            have e3 := ok.ix p hp
            have : p.1 = y := hpy
            rw [this] at e3
            exact hne (List.mem_map.mpr ⟨p, hp, nodup_ix hN e3 e1⟩)
          · exact e' (List.mem_of_getElem? e1)
        rcases r with rfl | ⟨rfl, rfl⟩
        · rcases hk' with rfl | rfl | rfl
          · exact absurd (.inl rfl) no
          · exact absurd (.inr rfl) no
          · exact ⟨e, .inr hk0⟩
        · exact ⟨e, .inl hk0⟩
      have e3 : Vis cenv.scope y := e3
      rcases e3 with e3 | e3 | e3
      · exact key _ e3 (.inl rfl)
      · exact key _ e3 (.inr (.inl rfl))
      · exact key _ e3 (.inr (.inr rfl))
    obtain ⟨m, hn, hl⟩ := I.loc
    have hvis : Vis X.env.scope y := (ok.free _ (PySem.mem_of_lookup hfr.1) rfl).elim (fun k => .inr (.inl k)) (fun k => .inr (.inr k))
    obtain ⟨w, r, q⟩ := hl i y av e1 e2 hvis
    refine ⟨w, r, .inr ⟨hfr.2, ?_⟩⟩
    obtain ⟨c, h1, h2⟩ := look hfr.1
    rcases q with ⟨k, _⟩ | ⟨_, c', e', z⟩
    · have k : X.env.scope.names.lookup y = some .local := k
      rcases ok.free _ (PySem.mem_of_lookup hfr.1) rfl with k' | k' <;> rw [show X.env.scope.names.lookup y = _ from k'] at k <;> cases k
    · rw [h2] at e'; cases e'
      exact ⟨c, h1, z.keeps kp⟩
  · have e : cenv.cells.lookup y = some c := e
    rcases mem e with ⟨h1, _⟩ | ⟨_, z⟩
    · obtain ⟨w, z⟩ := I.cell y c h1
      exact ⟨w, z.keeps kp⟩
    · exact ⟨_, z⟩
  · show H cenv.locals = none
    rw [hL]; exact I.hok.fresh (Nat.le_refl _)
  · have e : cenv.cells.lookup y = some c := e
    rcases mem e with ⟨h1, _⟩ | ⟨h1, _⟩
    · exact I.freeC y c h1
    · exact I.hok.fresh (Nat.le_of_succ_le h1)
  · exact absurd (show p ∈ ([] : List (Addr × Obj)) ++ [] from hp) (by simp)
theorem app_ok {E : Value → Shared → Prop} {D : Addr} {xs : List V} {y : V} {v : Value} {Q : Value → Shared → Prop} (I : Inv X pins σ H s) (hD : H D = some (.lst xs)) (hz : xs.length < sizeLine) (r : RelV y v)
    (h : ∀ s', Inv X pins σ (upd H D (.lst (xs ++ [y]))) s' → Q .none s') : wpAny (model X.prog X.w) X.A (call (.builtin "list.append") [.ref D, v]) Q E s := by
  obtain ⟨hz', its, n, ri, e⟩ := I.hok D _ hD
  have hl := ri.length
  refine append_at (hsz := by rw [List.size_toArray]; omega) e fun h' sb ho' => ?_
  refine h { s with heap := h' } (I.write (t' := s.toks) (by rw [hD]; trivial) (.inl rfl) (fun b u hb q => (sb.2 b hb).trans q) ⟨_, ho'⟩ ⟨by rw [List.length_append]; exact hz, its ++ [v], n + 1, ri.append (.cons r .nil), ?_⟩)
  rw [ho']
  simp
def PTs (X : Cx) (ifs : List Expr) (t : TT) : Prop :=
  ∀ (pins : List (Addr × Obj)) (s : Shared) (σ : St) (H : Hp) (Q : Bool → Hp → Prop), Inv X pins σ H s → t σ H Q →
    wpAny (model X.prog X.w) X.A (forIn ifs true fun c r => if r = true then do let ok ← isTrue c X.env (eval c X.env); pure (ForInStep.yield ok) else pure (ForInStep.yield r)) (TP X pins σ Q) X.xe s
def tYes : TT := fun _ H Q => Q true H
theorem pts_nil : PTs X [] tYes := fun _ _ _ H _ I h => wpAny_tests_nil ⟨H, I, h⟩
end
theorem thnF {α : Type} {t : Sem α} {Q Q' : α → Shared → Prop} {M : Model} {A : Around} {E : Value → Shared → Prop} {s : Shared} (h : wpAny M A t Q (fun _ _ => False) s) (hQ : ∀ a s, Q a s → Q' a s) : wpAny M A t Q' E s := wpAny_mono h hQ fun _ _ z => False.elim z
theorem compLoop_any {prog : Program} {w : World} {A : Around} {R : Result → Shared → Prop} {s : Shared} {elt target iter : Expr} {ifs : List Expr} {scope : Scope} {pos : Pos} {it acc : Value} {env : Env} (I : Nat → Shared → Prop)
    (turn : ∀ n s, I n s → wpAny (model prog w) A (pyNext it) (fun r s₁ => match r with
      | none => R (.ok .next) s₁
      | some v => wpAny (model prog w) A (letOwnedTupleGo target it v) (fun _ s₁' => wpAny (model prog w) A (assign target env v) (fun _ s₂ =>
          wpAny (model prog w) A (forIn ifs true fun c r => if r = true then do let ok ← isTrue c env (eval c env); pure (ForInStep.yield ok) else pure (ForInStep.yield r)) (fun ok s₃ =>
            if ok = true then wpAny (model prog w) A (eval elt env) (fun x s₄ =>
              wpAny (model prog w) A (call (.builtin "list.append") [acc, x]) (fun _ s₅ => ∃ m, m < n ∧ I m s₅) (notedBy (model prog w) A env fun e s' => R (.error e) s') s₄) (notedBy (model prog w) A env fun e s' => R (.error e) s') s₃
            else ∃ m, m < n ∧ I m s₃) (notedBy (model prog w) A env fun e s' => R (.error e) s') s₂) (notedBy (model prog w) A env fun e s' => R (.error e) s') s₁') (notedBy (model prog w) A env fun e s' => R (.error e) s') s₁) (notedBy (model prog w) A env fun e s' => R (.error e) s') s)
    (n : Nat) (h : I n s) :
    codeAny (model prog w) A (.compLoop (.ListComp elt [⟨target, iter, ifs, 0⟩] scope pos) 0 it acc env) R s := by
  refine codeAny_loop rfl I (fun n s hI => ?_) n h
  show wpAny _ A ((compTurn (.ListComp elt [⟨target, iter, ifs, 0⟩] scope pos) 0 it acc env).onRaise (fun x => do noteFrame x env; theTreesLotGoes x)) _ _ s
  refine wpAny_noted ?_
  rw [compTurn_list]
  refine wpAny_bind (wpAny_standAt (wpAny_bind (wpAny_mono (turn n s hI) (fun r s₁ h₁ => ?_) fun _ _ h' => h')))
  cases r with
  | none => exact wpAny_pure h₁
  | some v =>
    refine wpAny_bind (wpAny_mono h₁ (fun _ s₁' h₁' => ?_) fun _ _ h' => h')
    refine wpAny_bind (wpAny_mono h₁' (fun _ s₂ h₂ => wpAny_bind (wpAny_mono h₂ (fun ok s₃ h₃ => ?_) fun _ _ h' => h')) fun _ _ h' => h')
    cases ok with
    | false => exact wpAny_pure ⟨rfl, h₃⟩
    | true =>
      exact wpAny_bind (wpAny_bind (wpAny_mono h₃ (fun x s₄ h₄ => wpAny_bind (wpAny_mono h₄ (fun _ s₅ h₅ => wpAny_pure (wpAny_pure ⟨rfl, h₅⟩)) fun _ _ h' => h')) fun _ _ h' => h'))
section
variable {X : Cx}
def tLc (wi : TI) (g : TG) (tt : TT) (te : TE) (vs : List Nat) : TE := fun σ H Q => wi σ H fun J H1 => ∀ D, H1 D = none → ∃ W : Nat → Nat → Hp → Prop, (∃ m, W 0 m (upd H1 D (.lst []))) ∧ ∀ i m H, W i m H →
  (J.stop i H ∧ Q (.ref D) H) ∨ (J.go i H ∧ ∃ Nx : Hp → Prop, (∀ H', Nx H' → ∃ m', m' < m ∧ W (i + 1) m' H') ∧ ∀ x H', J.yld i H x H' → g x (wipe σ vs) H' fun σ2 H2 => wipe σ2 vs = wipe σ vs ∧ tt σ2 H2 fun b H3 =>
    if b = true then te σ2 H3 fun y H4 => ∃ acc, H4 D = some (.lst acc) ∧ acc.length < sizeLine ∧ Nx (upd H4 D (.lst (acc ++ [y]))) else Nx H3)
theorem lc_core {pins : List (Addr × Obj)} {s : Shared} {σ : St} {H : Hp} {Q : VK} {elt tg iter : Expr} {ifs : List Expr} {scope : Scope} {own : List (Str × Nat)} {pos pos' : Pos} {wi : TI} {g : TG} {tt : TT} {te : TE} {use : Option (Value → Sem Unit)} {Qf : Value → Shared → Prop}
    (hc : X.calm = true) (hN : X.N.Nodup) (I : Inv X pins σ H s) (hi : PI X tg iter wi) (ok : BlkOk X.N X.env.scope scope own)
    (hg : ∀ (s : Shared) (H : Hp) (C : Addr) (cl : List (Str × Addr)) (fp : List Addr), PG (X.blk s H scope (compEnvC scope cl C X.env) fp) tg g) (ht : ∀ (s : Shared) (H : Hp) (C : Addr) (cl : List (Str × Addr)) (fp : List Addr), PTs (X.blk s H scope (compEnvC scope cl C X.env) fp) ifs tt)
    (he : ∀ (s : Shared) (H : Hp) (C : Addr) (cl : List (Str × Addr)) (fp : List Addr), PE (X.blk s H scope (compEnvC scope cl C X.env) fp) elt te) (hs : ∀ x, foldedSetIterable iter X.env x = pure x)
    (h : tLc wi g tt te (own.map (·.2)) σ H Q)
    (hRR : ∀ D C s' m H', Inv X pins σ H' s' → Q (.ref D) H' → s'.heap.Ns C m → FpOk X pins H' C → compPost (model X.prog X.w) X.A X.xe use Qf (.ref D) C (.ok .next) s') :
    wpAny (model X.prog X.w) X.A (comprehension (.ListComp elt [⟨tg, iter, ifs, 0⟩] scope pos) scope X.env pos' (newList []) false (eval iter X.env) use) Qf X.xe s := by
  have hfree : ∀ y ∈ scope.names, y.2 = .free → ∃ c, X.env.cells.lookup y.1 = some c := fun y hy e => by
    rcases ok.free y hy e with k | k
    · exact I.ok.has _ (.inl k)
    · exact I.ok.has _ (.inr k)
  refine wpAny_comprehension_free (use := use) rfl hs (closure_ok hfree) ok.kind (fun y hy e => by rw [ok.uniq y hy, e])
    (thn (hi pins s σ H _ I h) fun xv s1 hx => thn hx fun itv s2 h2 => ?_)
  obtain ⟨it, fp, tn, J, H2, e, I2, T, st2, f2, q⟩ := h2
  subst e
  refine wpAny_newObj_type (newEnv_comp ?_) (by show 0 ≤ sizeLine; decide)
  generalize hD : s2.heap.objs.size = D
  have hDn : H2 D = none := I2.hok.fresh (Nat.le_of_eq hD)
  obtain ⟨W, ⟨m0, w0⟩, turn⟩ := q D hDn
  -- the new list
  generalize hs3 : ({ s2 with heap := s2.heap.push { cls := .type "list", data := .seq ([] : List Value).toArray } } : Shared) = s3
  have I3 : Inv X pins σ (upd H2 D (.lst [])) s3 := by
    rw [← hs3]
    refine I2.laid (t' := s2.toks) (fun b o e => Heap.get?_push_of_some _ e) (Nat.le_of_eq hD) ⟨Nat.zero_le _, [], 0, .nil, ?_⟩
    rw [← hD]
    exact Heap.get?_push_size _ rfl
  have h3 : s3.heap = s2.heap.push { cls := .type "list", data := .seq ([] : List Value).toArray } := by rw [← hs3]
  have sz : ∀ b ∈ fp, b < s2.heap.objs.size := fun b hb => by
    obtain ⟨o, e, _⟩ := T.obj _ _ st2 b hb
    exact Heap.lt_size e
  have f3 : ∀ b ∈ fp, FpOk X pins (upd H2 D (.lst [])) b ∧ b < s3.heap.objs.size := fun b hb => by
    have hlt := sz b hb
    refine ⟨⟨?_, (f2 b hb).2⟩, by rw [h3, Heap.size_push]; exact Nat.lt_succ_of_lt hlt⟩
    rw [upd_ne (by rw [← hD]; exact Nat.ne_of_lt hlt)]
    exact (f2 b hb).1
  have st3 : tn 0 s3.heap := T.keep _ _ _ st2 fun b _ o e => by rw [h3]; exact Heap.get?_push_of_some _ e
  have I4 := block_start I3 ok hN f3
  have pg := hg s3 (upd H2 D (.lst [])) s3.heap.objs.size (cellsFrom (s3.heap.objs.size + 1) scope.names (cloFrom X.env.cells scope.names [])) fp
  have pt := ht s3 (upd H2 D (.lst [])) s3.heap.objs.size (cellsFrom (s3.heap.objs.size + 1) scope.names (cloFrom X.env.cells scope.names [])) fp
  have pe := he s3 (upd H2 D (.lst [])) s3.heap.objs.size (cellsFrom (s3.heap.objs.size + 1) scope.names (cloFrom X.env.cells scope.names [])) fp
  show codeAny _ _ (.compStart (.ListComp elt [⟨tg, iter, ifs, 0⟩] scope pos) 0 (.ref it) (.ref D) (compEnvC scope (cellsFrom (s3.heap.objs.size + 1) scope.names (cloFrom X.env.cells scope.names [])) s3.heap.objs.size X.env)) (compPost (model X.prog X.w) X.A X.xe use Qf (.ref D) s3.heap.objs.size) { s3 with heap := pushCells (s3.heap.push { cls := .type "dict", data := .dict #[] }) scope.names }
  have nfp : ∀ b ∈ fp, (upd H2 D (.lst [])) b = none := fun b hb => (f3 b hb).1.1
  generalize hce : compEnvC scope (cellsFrom (s3.heap.objs.size + 1) scope.names (cloFrom X.env.cells scope.names [])) s3.heap.objs.size X.env = ce at I4 pg pt pe ⊢
  have cL : ce.locals = s3.heap.objs.size := by subst hce; rfl
  generalize hH3 : upd H2 D (.lst []) = H3 at I3 I4 pg pt pe w0 nfp f3
  generalize hs4 : ({ s3 with heap := pushCells (s3.heap.push { cls := .type "dict", data := .dict #[] }) scope.names } : Shared) = s4 at I4 ⊢
  have st4 : tn 0 s4.heap := T.keep _ _ _ st3 fun b _ o e => by rw [← hs4]; exact pushCells_keeps _ _ _ _ (Heap.get?_push_of_some _ e)
  have stat : ∀ {σ' : St} {H' : Hp} {s' : Shared}, Inv (X.blk s3 H3 scope ce fp) [] σ' H' s' → (∀ b ∈ fp, H' b = none) → ∀ b ∈ fp, FpOk (X.blk s3 H3 scope ce fp) [] H' b := fun {σ' H' s'} I' hn b hb =>
    ⟨hn b hb, (I'.ok.exf b hb).1, I'.ok.exfs b hb, .inl hb, fun x c e => (I'.ok.exf b hb).2 x c e, fun p hp => absurd (show p ∈ ([] : List (Addr × Obj)) ++ [] from hp) (by simp)⟩
  have loop : codeAny (model X.prog X.w) X.A (.compLoop (.ListComp elt [⟨tg, iter, ifs, 0⟩] scope pos) 0 (.ref it) (.ref D) ce) (compPost (model X.prog X.w) X.A X.xe use Qf (.ref D) s3.heap.objs.size) s4 := by
    refine compLoop_any (fun n s' => ∃ i H', Inv (X.blk s3 H3 scope ce fp) [] (wipe σ (own.map (·.2))) H' s' ∧ tn i s'.heap ∧ (∀ b ∈ fp, H' b = none) ∧ W i n H') ?_ m0 ⟨0, H3, I4, st4, nfp, w0⟩
    rintro n s5 ⟨i, H5, I5, st5, n5, w5⟩
    rcases turn i n H5 w5 with ⟨stop, qq⟩ | ⟨go, Nx, hNx, step⟩
    · have td := T.done (X.blk s3 H3 scope ce fp) rfl rfl rfl hc i [] s5 _ H5 (fun _ _ => False) I5 (stat I5 n5) st5 stop
      refine thnF td fun r s6 ⟨hr, I6⟩ => ?_
      subst hr
      -- back in the def's context
      have I7 : Inv X pins σ H5 s6 := I3.call' (ch := fp) I6.os I6.base I6.hok I6.bare fun b hb => ⟨(f3 b hb).1.2.2.2.1, (f3 b hb).1.2.1, (f3 b hb).1.2.2.2.2.1, (f3 b hb).1.2.2.2.2.2⟩
      have nC : H5 s3.heap.objs.size = none := by
        have z : H5 ce.locals = none := I6.free
        rw [cL] at z
        exact z
      obtain ⟨m, hn, _⟩ := I6.loc
      have hn : s6.heap.Ns ce.locals m := hn
      rw [cL] at hn
      exact hRR D s3.heap.objs.size s6 m H5 I7 qq hn (I3.fpOk (Nat.le_refl _) nC)
    · have ti := T.item (X.blk s3 H3 scope ce fp) rfl rfl rfl hc i [] s5 _ H5 (fun _ _ => False) I5 (stat I5 n5) st5 go
      refine thnF ti fun r s6 ⟨u, hr, h6⟩ => ?_
      subst hr
      refine thnF h6 fun _ s7 ⟨x, H7, I7, r7, y7, st7, n7⟩ => ?_
      have I7' := I7.pinned (stat I7 n7) (T.obj _ _ st7)
      refine thnF (pg _ s7 _ H7 x u _ I7' r7 (step x H7 y7)) fun _ s8 ⟨σ8, H8, I8, hw8, q8⟩ => ?_
      refine thnF (pt _ s8 σ8 H8 _ I8 q8) fun b s9 ⟨H9, I9, q9⟩ => ?_
      -- the turn's end
      have fin : ∀ {s' : Shared} {H' : Hp}, Inv (X.blk s3 H3 scope ce fp) ([] ++ pinsAt fp s7.heap) σ8 H' s' → Nx H' → ∃ m, m < n ∧ ∃ i H', Inv (X.blk s3 H3 scope ce fp) [] (wipe σ (own.map (·.2))) H' s' ∧ tn i s'.heap ∧ (∀ b ∈ fp, H' b = none) ∧ W i m H' := fun {s' H'} I' nx => by
        obtain ⟨m', hm, w'⟩ := hNx H' nx
        have pin' : ∀ b ∈ fp, ∀ o, s7.heap.get? b = some o → s'.heap.get? b = some o ∧ H' b = none := fun b hb o e =>
          let z := I'.pin (b, o) (List.mem_append_right _ (List.mem_append_right _ (mem_pinsAt hb e)))
          ⟨z.1, z.2.1⟩
        have hl : (wipe σ (own.map (·.2))).length = σ8.length := by rw [← hw8, wipe_length]
        refine ⟨m', hm, i + 1, H', (I'.unpinned (pins := [])).weak hl (fun j v e => ?_), T.keep _ _ _ st7 fun b hb o e => (pin' b hb o e).1, fun b hb => ?_, w'⟩
        · rw [← hw8] at e
          exact (wipe_some e).1
        · obtain ⟨o, e, _⟩ := T.obj _ _ st7 b hb
          exact (pin' b hb o e).2
      cases b with
      | false =>
        simp only [Bool.false_eq_true, if_false] at q9 ⊢
        exact fin I9 q9
      | true =>
        simp only [if_true] at q9 ⊢
        refine thnF (pe _ s9 σ8 H9 _ I9 q9) fun z s10 ⟨yv, H10, I10, r10, acc, hD10, hz10, nx⟩ => ?_
        exact app_ok (X := X.blk s3 H3 scope ce fp) I10 hD10 hz10 r10 fun s11 I11 => fin I11 nx
  exact codeAny_compStart_list loop (T.self X.A 0 _ _ _ st4 loop)
theorem pe_lc {elt tg iter : Expr} {ifs : List Expr} {scope : Scope} {own : List (Str × Nat)} {pos : Pos} {wi : TI} {g : TG} {tt : TT} {te : TE} (hc : X.calm = true) (hN : X.N.Nodup) (hi : PI X tg iter wi) (ok : BlkOk X.N X.env.scope scope own)
    (hg : ∀ (s : Shared) (H : Hp) (C : Addr) (cl : List (Str × Addr)) (fp : List Addr), PG (X.blk s H scope (compEnvC scope cl C X.env) fp) tg g) (ht : ∀ (s : Shared) (H : Hp) (C : Addr) (cl : List (Str × Addr)) (fp : List Addr), PTs (X.blk s H scope (compEnvC scope cl C X.env) fp) ifs tt)
    (he : ∀ (s : Shared) (H : Hp) (C : Addr) (cl : List (Str × Addr)) (fp : List Addr), PE (X.blk s H scope (compEnvC scope cl C X.env) fp) elt te) (hs : ∀ x, foldedSetIterable iter X.env x = pure x := by intro _; rfl) :
    PE X (.ListComp elt [⟨tg, iter, ifs, 0⟩] scope pos) (tLc wi g tt te (own.map (·.2))) := by
  intro pins s σ H Q I h
  rw [eval_ListComp]
  refine lc_core hc hN I hi ok hg ht he hs h fun D C s' m H' I' q hn f => ⟨m, hn, fun h'' sb => ?_⟩
  obtain ⟨f0, f1, f2, f3, f4, f5⟩ := f
  exact ⟨.ref D, H', I'.turned (t' := s'.toks) (fun b o hb e => (sb.2 b hb).trans e) f0 f1 f3 f4 f5, rfl, q⟩
theorem ps_setLc {i : Nat} {y : Str} {py : Pos} {elt tg iter : Expr} {ifs : List Expr} {scope : Scope} {own : List (Str × Nat)} {pos spos : Pos} {wi : TI} {g : TG} {tt : TT} {te : TE} (hc : X.calm = true) (hN : X.N.Nodup) (hy : X.N[i]? = some y) (hyl : X.env.scope.names.lookup y = some .local)
    (hsw : swapsWith (.ListComp elt [⟨tg, iter, ifs, 0⟩] scope pos) (some (.Name y py)) spos.line X.env = pure true) (hi : PI X tg iter wi) (ok : BlkOk X.N X.env.scope scope own)
    (hg : ∀ (s : Shared) (H : Hp) (C : Addr) (cl : List (Str × Addr)) (fp : List Addr), PG (X.blk s H scope (compEnvC scope cl C X.env) fp) tg g) (ht : ∀ (s : Shared) (H : Hp) (C : Addr) (cl : List (Str × Addr)) (fp : List Addr), PTs (X.blk s H scope (compEnvC scope cl C X.env) fp) ifs tt)
    (he : ∀ (s : Shared) (H : Hp) (C : Addr) (cl : List (Str × Addr)) (fp : List Addr), PE (X.blk s H scope (compEnvC scope cl C X.env) fp) elt te) (hs : ∀ x, foldedSetIterable iter X.env x = pure x := by intro _; rfl) :
    PS X (.Assign [.Name y py] (.ListComp elt [⟨tg, iter, ifs, 0⟩] scope pos) spos) (tAsg (tLc wi g tt te (own.map (·.2))) (gName i)) := by
  intro pins s σ H D I h
  rw [exec_Assign_Name_used _ _ _ _ hsw]
  refine wpAny_bind (wpAny_standAt (wpAny_bind ?_))
  show wpAny _ X.A (do let _ ← comprehension (.ListComp elt [⟨tg, iter, ifs, 0⟩] scope pos) scope X.env (firstIterPos [⟨tg, iter, ifs, 0⟩] pos) (newList []) false (eval iter X.env) (some (assign (.Name y py) X.env))) _ _ s
  have h : tLc wi g tt te (own.map (·.2)) σ H (fun x H1 => gName i x σ H1 D.nx) := h
  refine wpAny_bind (thn (lc_core (Qf := fun _ s' => SP X pins D .next s') hc hN I hi ok hg ht he hs h fun L C s' m H' I' q hn f => ?_) fun _ s' hq => wpAny_pure (wpAny_pure hq))
  show wpAny _ _ (assign (.Name y py) X.env (.ref L)) _ _ _
  refine wpAny_assign_Name (store_ok2 (v := V.ref L) I' hN hy (.inl hyl) rfl (fun s2 I2 ⟨a, sb, ha⟩ => ?_) (.inr hyl))
  obtain ⟨f0, f1, f2, f3, f4, f5⟩ := f
  have haC : C ≠ a := by
    rcases ha with z | z
    · rw [z]; exact f1
    · exact fun e => f4 y a z e.symm
  refine ⟨m, hn.sameBut sb haC, fun h3 sb3 => ?_⟩
  exact ⟨_, H', I2.turned (t' := s2.toks) (fun b o hb e => (sb3.2 b hb).trans e) f0 f1 f3 f4 f5, q⟩
theorem sw_true {elt : Expr} {gs : List Comprehension} {scope : Scope} {pos py : Pos} {y : Str} {l : Nat} {env : Env} (hk : env.scope.kind = .function) (hy : env.scope.names.lookup y = some .local) (hl : (py.line == pos.line) = true)
    (ha : (scope.names.any fun (n, k) => n == y && (k == .local || k == .cell)) = false) : swapsWith (.ListComp elt gs scope pos) (some (.Name y py)) l env = pure true := by
  have ky : env.kindOf y = some .local := hy
  have hb : env.blockKind = .function := by unfold Env.blockKind; rw [hk]; rfl
  unfold swapsWith
  simp only [hb, ky, ha, Expr.pos, hl]
  rfl
end
theorem lc_range {lo : Int} {n : Nat} {g : TG} {tt : TT} {te : TE} {vs : List Nat} {σ : St} {H1 : Hp} {D : Addr} {Qd : Hp → Prop} (Pv : Nat → Hp → Prop) (h0 : Pv 0 (upd H1 D (.lst [])))
    (hs : ∀ i H, i < n → Pv i H → g (.int (lo + i)) (wipe σ vs) H fun σ2 H2 => wipe σ2 vs = wipe σ vs ∧ tt σ2 H2 fun b H3 =>
      if b = true then te σ2 H3 fun y H4 => ∃ acc, H4 D = some (.lst acc) ∧ acc.length < sizeLine ∧ Pv (i + 1) (upd H4 D (.lst (acc ++ [y]))) else Pv (i + 1) H3) (hd : ∀ H, Pv n H → Qd H) :
    ∃ W : Nat → Nat → Hp → Prop, (∃ m, W 0 m (upd H1 D (.lst []))) ∧ ∀ i m H, W i m H →
      ((Itr lo n).stop i H ∧ Qd H) ∨ ((Itr lo n).go i H ∧ ∃ Nx : Hp → Prop, (∀ H', Nx H' → ∃ m', m' < m ∧ W (i + 1) m' H') ∧ ∀ x H', (Itr lo n).yld i H x H' → g x (wipe σ vs) H' fun σ2 H2 => wipe σ2 vs = wipe σ vs ∧ tt σ2 H2 fun b H3 =>
        if b = true then te σ2 H3 fun y H4 => ∃ acc, H4 D = some (.lst acc) ∧ acc.length < sizeLine ∧ Nx (upd H4 D (.lst (acc ++ [y]))) else Nx H3) := by
  refine ⟨fun i m H => m = n - i ∧ i ≤ n ∧ Pv i H, ⟨n, by simp, Nat.zero_le _, h0⟩, ?_⟩
  rintro i m H ⟨rfl, hi, p⟩
  by_cases hlt : i < n
  · refine .inr ⟨hlt, Pv (i + 1), fun H' p' => ⟨n - (i + 1), by omega, rfl, hlt, p'⟩, fun x H' y => ?_⟩
    obtain ⟨e, y⟩ := y
    subst e y
    exact hs i _ hlt p
  · have e : i = n := by omega
    subst e
    exact .inl ⟨Nat.le_refl _, hd H p⟩
theorem lc_list {K : PySem.W.Frag} {a : Addr} {xs : List V} {g : TG} {tt : TT} {te : TE} {vs : List Nat} {σ : St} {H1 : Hp} {D : Addr} {Qd : Hp → Prop} (Pv : Nat → Hp → Prop) (h0 : Pv 0 (upd H1 D (.lst []))) (hl : ∀ i H, i ≤ xs.length → Pv i H → SqL K H a xs)
    (hs : ∀ i x H, xs[i]? = some x → Pv i H → g x (wipe σ vs) H fun σ2 H2 => wipe σ2 vs = wipe σ vs ∧ tt σ2 H2 fun b H3 =>
      if b = true then te σ2 H3 fun y H4 => ∃ acc, H4 D = some (.lst acc) ∧ acc.length < sizeLine ∧ Pv (i + 1) (upd H4 D (.lst (acc ++ [y]))) else Pv (i + 1) H3) (hd : ∀ H, Pv xs.length H → Qd H) :
    ∃ W : Nat → Nat → Hp → Prop, (∃ m, W 0 m (upd H1 D (.lst []))) ∧ ∀ i m H, W i m H →
      ((Itl K a).stop i H ∧ Qd H) ∨ ((Itl K a).go i H ∧ ∃ Nx : Hp → Prop, (∀ H', Nx H' → ∃ m', m' < m ∧ W (i + 1) m' H') ∧ ∀ x H', (Itl K a).yld i H x H' → g x (wipe σ vs) H' fun σ2 H2 => wipe σ2 vs = wipe σ vs ∧ tt σ2 H2 fun b H3 =>
        if b = true then te σ2 H3 fun y H4 => ∃ acc, H4 D = some (.lst acc) ∧ acc.length < sizeLine ∧ Nx (upd H4 D (.lst (acc ++ [y]))) else Nx H3) := by
  refine ⟨fun i m H => m = xs.length - i ∧ i ≤ xs.length ∧ Pv i H, ⟨xs.length, by simp, Nat.zero_le _, h0⟩, ?_⟩
  rintro i m H ⟨rfl, hi, p⟩
  have q := hl i H hi p
  by_cases hlt : i < xs.length
  · refine .inr ⟨⟨xs, xs[i], q, by simp [hlt]⟩, Pv (i + 1), fun H' p' => ⟨xs.length - (i + 1), by omega, rfl, hlt, p'⟩, fun x H' y => ?_⟩
    obtain ⟨e, y⟩ := y
    subst e
    exact hs i x _ (y xs q) p
  · have e : i = xs.length := by omega
    subst e
    exact .inl ⟨⟨xs, q, Nat.le_refl _⟩, hd H p⟩
theorem lc_tup {K : PySem.W.Frag} {a : Addr} {xs : List V} {g : TG} {tt : TT} {te : TE} {vs : List Nat} {σ : St} {H1 : Hp} {D : Addr} {Qd : Hp → Prop} (Pv : Nat → Hp → Prop) (h0 : Pv 0 (upd H1 D (.lst []))) (hl : ∀ i H, i ≤ xs.length → Pv i H → SqT K H a xs)
    (hs : ∀ i x H, xs[i]? = some x → Pv i H → g x (wipe σ vs) H fun σ2 H2 => wipe σ2 vs = wipe σ vs ∧ tt σ2 H2 fun b H3 =>
      if b = true then te σ2 H3 fun y H4 => ∃ acc, H4 D = some (.lst acc) ∧ acc.length < sizeLine ∧ Pv (i + 1) (upd H4 D (.lst (acc ++ [y]))) else Pv (i + 1) H3) (hd : ∀ H, Pv xs.length H → Qd H) :
    ∃ W : Nat → Nat → Hp → Prop, (∃ m, W 0 m (upd H1 D (.lst []))) ∧ ∀ i m H, W i m H →
      ((Itt K a).stop i H ∧ Qd H) ∨ ((Itt K a).go i H ∧ ∃ Nx : Hp → Prop, (∀ H', Nx H' → ∃ m', m' < m ∧ W (i + 1) m' H') ∧ ∀ x H', (Itt K a).yld i H x H' → g x (wipe σ vs) H' fun σ2 H2 => wipe σ2 vs = wipe σ vs ∧ tt σ2 H2 fun b H3 =>
        if b = true then te σ2 H3 fun y H4 => ∃ acc, H4 D = some (.lst acc) ∧ acc.length < sizeLine ∧ Nx (upd H4 D (.lst (acc ++ [y]))) else Nx H3) := by
  refine ⟨fun i m H => m = xs.length - i ∧ i ≤ xs.length ∧ Pv i H, ⟨xs.length, by simp, Nat.zero_le _, h0⟩, ?_⟩
  rintro i m H ⟨rfl, hi, p⟩
  have q := hl i H hi p
  by_cases hlt : i < xs.length
  · refine .inr ⟨⟨xs, xs[i], q, by simp [hlt]⟩, Pv (i + 1), fun H' p' => ⟨xs.length - (i + 1), by omega, rfl, hlt, p'⟩, fun x H' y => ?_⟩
    obtain ⟨e, y⟩ := y
    subst e
    exact hs i x _ (y xs q) p
  · have e : i = xs.length := by omega
    subst e
    exact .inl ⟨⟨xs, q, Nat.le_refl _⟩, hd H p⟩
def blkC (N : List Str) (sc scope : Scope) (own : List (Str × Nat)) : Bool :=
  (match scope.kind with | .function => true | _ => false) && (scope.names.all fun y => decide (scope.names.lookup y.1 = some y.2)) && (own.all fun p => decide (N[p.2]? = some p.1)) &&
    (scope.names.all fun y => match y.2 with
      | .free => (match sc.names.lookup y.1 with | some .cell => true | some .free => true | _ => false)
      | .local => decide (y.1 ∈ own.map (·.1)) || decide (y.1 ∉ N)
      | .cell => decide (y.1 ∈ own.map (·.1)) || decide (y.1 ∉ N)
      | _ => true)
theorem blkOk_by {N : List Str} {sc scope : Scope} {own : List (Str × Nat)} (h : blkC N sc scope own = true) : BlkOk N sc scope own := by
  unfold blkC at h
  simp only [Bool.and_eq_true, List.all_eq_true, decide_eq_true_eq] at h
  obtain ⟨⟨⟨h1, h2⟩, h3⟩, h4⟩ := h
  refine ⟨?_, h2, h3, fun y hy e => ?_, fun y hy e => ?_⟩
  · split at h1
    · assumption
    · cases h1
  · have q := h4 y hy
    simp only [e] at q
    split at q <;> first | exact .inl (by assumption) | exact .inr (by assumption) | cases q
  · have q := h4 y hy
    rcases e with e | e <;> (simp only [e, Bool.or_eq_true, decide_eq_true_eq] at q; exact q)
end L2
namespace L2
open PySem PySem.Spec PyProof.Rows
section
variable {prog : Program} {w : World} {A : Around} {R : Result → Shared → Prop} {s : Shared} {elt t0 i0 t1 i1 : Expr} {ifs0 ifs1 : List Expr} {scope : Scope} {pos : Pos} {it acc : Value} {env : Env}
end
section
variable {X : Cx}
end
end L2
namespace L2
open PySem PySem.Spec PyProof.Rows
section
variable {κ : Type} [DecidableEq κ]
def valV (kvs : List (κ × V)) (k : κ) : Option V := (kvs.find? fun kv => decide (kv.1 = k)).map (·.2)
theorem valV_pos {p : κ × V} {r : List (κ × V)} {k : κ} (e : p.1 = k) : valV (p :: r) k = some p.2 := by simp [valV, List.find?_cons, e]
theorem valV_neg {p : κ × V} {r : List (κ × V)} {k : κ} (e : ¬ p.1 = k) : valV (p :: r) k = valV r k := by simp [valV, List.find?_cons, e]
theorem RelO.isSome_eq {o : Option V} {u : Option Value} (r : RelO o u) : o.isSome = u.isSome := by
  cases o with
  | none => cases u with
    | none => rfl
    | some _ => exact (show False from r).elim
  | some _ => cases u with
    | none => exact (show False from r).elim
    | some _ => rfl
theorem KV.val {kvs : List (κ × V)} {vs : List (κ × Value)} (r : KV kvs vs) (k : κ) : RelO (valV kvs k) (valueAt vs k) := by
  unfold KV at r
  induction r with
  | nil => exact True.intro
  | @cons p q ps qs h t ih =>
    obtain ⟨h1, h2⟩ := h
    by_cases e : p.1 = k
    · have e' : q.1 = k := h1.symm.trans e
      have b : valueAt (q :: qs) k = some q.2 := by simp [valueAt, List.find?_cons, e']
      rw [valV_pos e, b]; exact h2
    · have e' : ¬ q.1 = k := fun z => e (h1.trans z)
      have b : valueAt (q :: qs) k = valueAt qs k := by simp [valueAt, List.find?_cons, e']
      rw [valV_neg e, b]; exact ih
end
theorem kV_is {P : Program} {w : World} {k : Key} {u : Value} (r : RelV (kV k) u) : (mixKind P w).is k u = true := by
  cases k with
  | inl i => obtain ⟨t, e⟩ := (show ∃ t, u = Value.int i t from r); subst e; exact mixKind_int P w i t
  | inr x => obtain ⟨t, e⟩ := (show ∃ t, u = Value.str x t from r); subst e; exact mixKind_str P w x t
section
variable {P : Program} {w : World} {H : Hp} {h : Heap} {a : Addr}
end
section
variable {X : Cx} {pins : List (Addr × Obj)} {σ : St} {H : Hp} {s : Shared} {a : Addr} {y v : V} {u r : Value} {o : Option V} {A : Around} {E : Value → Shared → Prop}
end
section
variable {X : Cx} {pins : List (Addr × Obj)} {σ : St} {H : Hp} {s : Shared} {a : Addr} {kvs : List (Key × V)} {k : Key} {u : Value} {A : Around} {E : Value → Shared → Prop}
end
def NoSl (i : Expr) : Prop := ∀ ov iv, subscripted i false ov iv = operate [ov, iv] (getItem ov iv)
theorem subD_of {prog : Program} {w : World} {A : Around} {E : Value → Shared → Prop} {s : Shared} {env : Env} {value slice : Expr} {pos : Pos} {T id : String} {Q : Value → Shared → Prop}
    (hl : typeLookup (.type T) "__getitem__" = pure (some (.builtin id))) (hs : NoSl slice)
    (h : wpAny (model prog w) A (eval value env) (fun o s₁ => wpAny (model prog w) A (eval slice env) (fun i s₂ => s₂.TypeIs o T ∧ wpAny (model prog w) A (getItem o i) Q E s₂) E s₁) E s) :
    wpAny (model prog w) A (eval (.Subscript value slice pos) env) Q E s := by
  refine Subscript_ (wpAny_mono h (fun o s₁ h₁ => wpAny_mono h₁ (fun i s₂ h₂ => ?_) fun _ _ x => x) fun _ _ x => x)
  obtain ⟨hT, h₂⟩ := h₂
  unfold subscriptTail
  refine wpAny_bind ?_
  rw [getitemInPython_of_ne hT.not_modules]
  refine wpAny_bind (wpAny_specialOf hT hl ?_)
  have fin : wpAny (model prog w) A (subscripted slice false o i) (fun r s₃ => wpAny (model prog w) A (letTemporaryGo value o r >>= fun _ => pure r) Q E s₃) E s₂ := by
    rw [hs o i]
    exact wpAny_operating (wpAny_mono h₂ (fun r s₃ h₃ => wpAny_bind (wpAny_letTemporaryGo (wpAny_pure h₃))) fun _ _ x => x)
  first
    | exact wpAny_pure (wpAny_bind fin)
    | exact wpAny_bind (wpAny_pure (wpAny_bind fin))
    | exact wpAny_bind fin
section
variable {X : Cx} {o i e value : Expr} {pos pos' tpos : Pos} {td ty tv : TE}
end
section
variable {X : Cx} {pos : Pos}
end
section
variable {X : Cx} {pins : List (Addr × Obj)} {σ : St} {H : Hp} {s : Shared} {a : Addr} {y d : V} {u r : Value} {o : Option V} {A : Around} {E : Value → Shared → Prop}
end
section
variable {X : Cx} {o e f : Expr} {apos cpos : Pos} {td ty tx : TE}
end
section
variable {X : Cx} {pins : List (Addr × Obj)} {σ : St} {H : Hp} {s : Shared} {a : Addr} {kvs : List (Key × V)} {A : Around} {E : Value → Shared → Prop}
end
section
variable {X : Cx} {pins : List (Addr × Obj)} {σ : St} {H : Hp} {s : Shared} {a : Addr} {y : V} {u : Value} {A : Around} {E : Value → Shared → Prop}
end
end L2
namespace L2
open PySem PySem.Spec PyProof.Rows
section
variable {prog : Program} {w : World} {A : Around} {E : Value → Shared → Prop}
end
section
variable {X : Cx}
end
end L2
namespace L2
open PySem PySem.Spec PyProof.Rows
section
variable {X : Cx} {pins : List (Addr × Obj)} {σ : St} {H : Hp} {s : Shared} {h' : Heap}
theorem Inv.turnedNew {t' : Nat} {ch : List Addr} {T : Addr} {ob : HO} (I : Inv X pins σ H s) (k : ∀ b o, b ∉ ch → s.heap.get? b = some o → h'.get? b = some o) (hf : ∀ b ∈ ch, FpOk X pins H b) (hT : s.heap.objs.size ≤ T)
    (new : ObjOk X.prog X.w (upd H T ob) h' T ob) : Inv X pins σ (upd H T ob) { s with heap := h', toks := t' } := by
  have hn : H T = none := I.hok.fresh hT
  have nit : ∀ b u, H b = some u → b ∉ ch := fun b u e z => by
    have q := (hf b z).1
    rw [q] at e; cases e
  refine I.step (g' := s.gens) (d' := s.drawn) (ch := ch) (fun b hb => ⟨(hf b hb).2.2.2.1, (hf b hb).2.1, (hf b hb).2.2.2.2.1, (hf b hb).2.2.2.2.2⟩) (fun b o _ _ hc e _ => k b o hc e) (fun b o _ _ hc e _ => ⟨o.slots, k b o hc e⟩)
    (fun b o _ e n => ?_) (fun b o hc e => ⟨o, k b o hc e⟩) (fun b xs e => ?_) (fun b o u e => ?_) (fun b ps e => ⟨#[], ?_⟩) (fun m hm => ?_) (fun b u e => ?_) I.bare
  · rw [upd_ne (Nat.ne_of_lt (Nat.lt_of_lt_of_le (Heap.lt_size e) hT))]; exact n
  · rw [upd_ne (ne_of_none e hn)]; exact e
  · rw [upd_ne (ne_of_none e hn)]; exact e
  · rw [upd_ne (ne_of_none e hn), e]; simp
  · obtain ⟨o, es, ep, ho, r⟩ := hm
    exact ⟨o, es, ep, k _ o (fun z => (hf _ z).2.1 rfl) ho, r⟩
  · by_cases hb : b = T
    · subst hb
      rw [upd_same] at e
      cases e
      exact new
    · rw [upd_ne hb] at e
      refine (I.hok b u e).stay (fun c v hc q => k c v ?_ q) (fun c q => by rw [upd_ne (ne_of_none q hn)]; exact q) fun c xs q => by rw [upd_ne (ne_of_none q hn)]; exact q
      rcases hc with z | z
      · rw [z]; exact nit b u e
      · exact nit c _ z
end
section
variable {X : Cx}
theorem pi_one {tg : Expr} {pins : List (Addr × Obj)} {σ : St} {H : Hp} {s : Shared} {R : It → Hp → Prop} {J : It} {tn : Nat → Heap → Prop} {tk : Nat} (I : Inv X pins σ H s) (o : Obj)
    (T : Turn X.prog X.w X.K tg J [s.heap.objs.size] s.heap.objs.size tn) (st : tn 0 (s.heap.push o)) (q : R J H) : PIE X pins σ tg R (.ref s.heap.objs.size) { s with heap := s.heap.push o, toks := tk } := by
  refine ⟨s.heap.objs.size, [s.heap.objs.size], tn, J, H, rfl, I.kept fun b ob e => Heap.get?_push_of_some _ e, T, st, fun b hb => ?_, q⟩
  have e : b = s.heap.objs.size := by simpa using hb
  subst e
  exact I.fpOk (Nat.le_refl _) (I.hok.fresh (Nat.le_refl _))
end
def Itc (lo c : Int) (n : Nat) : It := ⟨fun i _ => i < n, fun i H x H' => H' = H ∧ x = .int (lo + (i : Nat) * c), fun i _ => n ≤ i⟩
theorem turn_rangeC {P : Program} {w : World} {K : PySem.W.Frag} {tg : Expr} (it : Addr) (lo c : Int) (n : Nat) : Turn P w K tg (Itc lo c n) [it] it (fun i h => IsRangeIter h it (lo + (i : Nat) * c) ((n : Int) - (i : Nat)) c) where
  mem := by simp
  obj := fun i h st b hb => by
    have e : b = it := by simpa using hb
    subst e
    exact ⟨_, st, fun v z => nomatch z⟩
  keep := fun i h h' st k => k it (by simp) _ st
  item := by
    intro X hP hw hK hc i pins s σ H E I hf st hg
    subst hP hw hK
    obtain ⟨f0, f1, f2, f3, f4, f5⟩ := hf it (by simp)
    have W := Walks.range (prog := X.prog) (w := X.w) (I.ok.hd hc) it lo c n
    refine W.item i s _ _ hg st fun v h' tk hv st' kk => ?_
    obtain ⟨t, rfl⟩ := hv
    have I1 : Inv X pins σ H { s with heap := h', toks := tk } := I.turned (fun b o hb e => kk b o (by simpa using hb) e) f0 f1 f3 f4 f5
    exact ⟨_, rfl, go_of (s := { s with heap := h', toks := tk }) (n := "range_iterator") st' rfl rfl (by decide) ⟨.int (lo + (i : Nat) * c), H, I1, ⟨t, rfl⟩, ⟨rfl, rfl⟩, st', fun b hb => (hf b hb).1⟩⟩
  done := by
    intro X hP hw hK hc i pins s σ H E I hf st hg
    subst hP hw hK
    obtain ⟨f0, f1, f2, f3, f4, f5⟩ := hf it (by simp)
    exact wpAny_pyNext_range_end (I.ok.hd hc) st (by have : n ≤ i := hg; omega) fun h' eb => ⟨rfl, I.turned (t' := s.toks) (fun b o hb e => eb b o hb e) f0 f1 f3 f4 f5⟩
  self := fun A i s Q E st h => wpAny_pyIter_rangeiter st h
def RgC (i j c : Int) (n : Nat) : Prop := c ≠ 0 ∧ c.natAbs < 1073741824 ∧ Builtin.Range.small i j c = true ∧ Builtin.Range.rangeSize i j c = n
def iRng3 (ta : TA) : TI := fun σ H R => ta σ H fun vs H1 => ∃ (i j c : Int) (n : Nat), vs = [.int i, .int j, .int c] ∧ RgC i j c n ∧ R (Itc i c n) H1
section
variable {X : Cx} {tg : Expr}
theorem pi_range3 {a b c : Expr} {ta : TA} {p pos : Pos} (hg : Gl X "range") (hm : X.mg "range" = none) (ha : PA X [a, b, c] ta)
    (hs : starEach [a, b, c] X.env = (false, eval a X.env) :: starEach [b, c] X.env := by rfl) (hpl : (backTo pos (starEach [b, c] X.env)).any (·.1) = false := by rfl) :
    PI X tg (.Call (.Name "range" p) [a, b, c] [] pos) (iRng3 ta) := by
  intro pins s σ H R I h
  refine Call_ (ld_blt I hg hm boot_range (PyProof.Rows.callWith_type1 (thn (ha pos pins s σ H _ I h) fun us s1 ⟨vs, H1, I1, r1, q1⟩ => ?_) hs hpl))
  obtain ⟨i, j, k, n, e, ⟨c0, c1, c2, c3⟩, q⟩ := q1
  subst e
  cases r1 with
  | cons r rr =>
    cases rr with
    | cons r' rr =>
      cases rr with
      | cons r'' rr =>
        cases rr
        obtain ⟨t, rfl⟩ := r
        obtain ⟨t', rfl⟩ := r'
        obtain ⟨t'', rfl⟩ := r''
        refine call_range_3 c0 ?_ (.inl (PyProof.noPylong_small c1))
        refine wpAny_pyIter_range (IsRange.new ..) c2 ?_
        have I2 : Inv X pins σ H1 { s1 with heap := s1.heap.push { cls := .type "range", data := .fields #[.int i t, .int j t', .int k t''] } } := I1.kept (t' := s1.toks) fun b o e => Heap.get?_push_of_some _ e
        refine pi_one (tk := s1.toks) I2 _ (turn_rangeC _ i k n) ?_ q
        have e1 : i + ((0 : Nat) : Int) * k = i := by simp
        have e2 : (n : Int) - ((0 : Nat) : Int) = Builtin.Range.rangeSize i j k := by rw [c3]; simp
        show IsRangeIter _ _ (i + ((0 : Nat) : Int) * k) ((n : Int) - ((0 : Nat) : Int)) k
        rw [e1, e2]
        exact Heap.get?_push_size _ rfl
end
section
variable {X : Cx} {tg : Expr}
end
def Its (x : Str) : It := ⟨fun i _ => i < x.cps.size, fun i H v H' => H' = H ∧ ∃ c, x.cps[i]? = some c ∧ v = .str ⟨#[c]⟩, fun i _ => x.cps.size ≤ i⟩
theorem turn_str {P : Program} {w : World} {K : PySem.W.Frag} {tg : Expr} (it : Addr) (x : Str) (t : Tok) (ty : String) (hty : ty = "str_ascii_iterator" ∨ ty = "str_iterator") :
    Turn P w K tg (Its x) [it] it (fun i h => h.IsStrIter it ty x t i) where
  mem := by simp
  obj := fun i h st b hb => by
    have e : b = it := by simpa using hb
    subst e
    obtain ⟨o, e, c, d⟩ := st
    exact ⟨o, e, fun v z => by rw [d] at z; cases z⟩
  keep := fun i h h' st k => let ⟨o, ho, r⟩ := st; ⟨o, k it (by simp) o ho, r⟩
  item := by
    intro X hP hw hK hc i pins s σ H E I hf st hg
    subst hP hw hK
    obtain ⟨f0, f1, f2, f3, f4, f5⟩ := hf it (by simp)
    have W : Walks X.prog X.w X.A it [it] [it] x.cps.size (SignAt x) (fun i h => h.IsStrIter it ty x t i) := by
      rcases hty with e | e
      · rw [e]; exact Walks.strAscii (I.ok.hd hc) it x t
      · rw [e]; exact Walks.strWide (I.ok.hd hc) it x t
    have hno : ["enumerate", "zip", "dict_itemiterator", "dict_reverseitemiterator", "odict_iterator", "itertools.zip_longest", "itertools.pairwise"].contains ty = false := by
      rcases hty with e | e
      · rw [e]; decide
      · rw [e]; decide
    refine W.item i s _ _ hg st fun v h' tk hv st' kk => ?_
    obtain ⟨c, u, hcx, rfl⟩ := hv
    have I1 : Inv X pins σ H { s with heap := h', toks := tk } := I.turned (fun b o hb e => kk b o (by simpa using hb) e) f0 f1 f3 f4 f5
    obtain ⟨oi, e, cc, dd⟩ := id st'
    exact ⟨_, rfl, go_of (s := { s with heap := h', toks := tk }) e cc dd hno ⟨.str ⟨#[c]⟩, H, I1, ⟨u, rfl⟩, ⟨rfl, c, hcx, rfl⟩, st', fun b hb => (hf b hb).1⟩⟩
  done := by
    intro X hP hw hK hc i pins s σ H E I hf st hg
    subst hP hw hK
    obtain ⟨f0, f1, f2, f3, f4, f5⟩ := hf it (by simp)
    have hx : x.cps[i]? = none := Array.getElem?_eq_none hg
    rcases hty with e | e
    · rw [e] at st
      exact wpAny_pyNext_ascii_end (I.ok.hd hc) st hx fun h' eb => ⟨rfl, I.turned (t' := s.toks) (fun b o hb e => eb b o hb e) f0 f1 f3 f4 f5⟩
    · rw [e] at st
      exact wpAny_pyNext_wide_end (I.ok.hd hc) st hx fun h' eb => ⟨rfl, I.turned (t' := s.toks) (fun b o hb e => eb b o hb e) f0 f1 f3 f4 f5⟩
  self := fun A i s Q E st h => by
    rcases hty with e | e
    · rw [e] at st; exact wpAny_pyIter_striter_ascii st h
    · rw [e] at st; exact wpAny_pyIter_striter_wide st h
def iStr (te : TE) : TI := fun σ H R => te σ H fun v H1 => ∃ x, v = .str x ∧ R (Its x) H1
theorem pi_str {X : Cx} {tg e : Expr} {te : TE} (he : PE X e te) : PI X tg e (iStr te) := by
  intro pins s σ H R I h
  refine thn (he pins s σ H _ I h) fun v s1 ⟨y, H1, I1, r1, x, ex, q⟩ => ?_
  subst ex
  obtain ⟨t, rfl⟩ := r1
  cases ha : x.cps.all (· < 128)
  · exact wpAny_pyIter_wide ha (pi_one (tk := s1.toks) I1 _ (turn_str _ x t "str_iterator" (.inr rfl)) ⟨_, Heap.get?_push_size _ rfl, rfl, rfl⟩ q)
  · exact wpAny_pyIter_ascii ha (pi_one (tk := s1.toks) I1 _ (turn_str _ x t "str_ascii_iterator" (.inl rfl)) ⟨_, Heap.get?_push_size _ rfl, rfl, rfl⟩ q)
section
variable {prog : Program} {w : World} {A : Around} {E : Value → Shared → Prop} {s : Shared}
end
theorem paired_get {α β : Type} {G : α → β → Prop} {l₁ : List α} {l₂ : List β} (h : Paired G l₁ l₂) : ∀ {i : Nat} {a : α}, l₁[i]? = some a → ∃ b, l₂[i]? = some b ∧ G a b := by
  induction h with
  | nil => intro i a e; simp at e
  | @cons a b l₁ l₂ r t ih =>
    intro i a' e
    cases i with
    | zero =>
      simp only [List.getElem?_cons_zero, Option.some.injEq] at e
      subst e
      exact ⟨b, rfl, r⟩
    | succ j =>
      simp only [List.getElem?_cons_succ] at e ⊢
      exact ih e
section
variable {X : Cx} {pins : List (Addr × Obj)} {σ : St} {H : Hp} {s : Shared} {d : Addr} {o : Obj}
end
section
variable {P : Program} {w : World} {K : PySem.W.Frag} {tg : Expr} {d : Addr} {o : Obj} {es : Array DictEntry} {ep : Nat}
end
section
variable {X : Cx} {tg e : Expr} {td : TE} {apos cpos : Pos}
end
def Ite (K : PySem.W.Frag) (a : Addr) : It :=
  ⟨fun i H => ∃ (xs : List V) (x : V), SqL K H a xs ∧ xs[i]? = some x, fun i H v H' => ∃ T x, v = .ref T ∧ H T = none ∧ H' = upd H T (.tup [.int (i : Nat), x]) ∧ ∀ xs, SqL K H a xs → xs[i]? = some x, fun i H => ∃ xs : List V, SqL K H a xs ∧ xs.length ≤ i⟩
theorem turn_enum {P : Program} {w : World} {K : PySem.W.Frag} {elts : List Expr} {kk : Nat} {tpos : Pos} (a e it : Addr) :
    Turn P w K (.Tuple elts kk tpos) (Ite K a) [e, it] e (fun i h => (∃ old, IsEnum h e it ((i : Nat) : Int) old) ∧ h.IsListIter it a i ∧ e ≠ it) where
  mem := by simp
  obj := fun i h st b hb => by
    obtain ⟨⟨old, he⟩, ⟨o, ho, hc, hd⟩, _⟩ := st
    have e' : b = e ∨ b = it := by simpa using hb
    rcases e' with z | z
    · rw [z]; exact ⟨_, he, fun v q => nomatch q⟩
    · rw [z]; exact ⟨o, ho, fun v q => by rw [hd] at q; cases q⟩
  keep := fun i h h' st k => let ⟨⟨old, he⟩, hi, hne⟩ := st; ⟨⟨old, k e (by simp) _ he⟩, hi.at fun o q => k it (by simp) o q, hne⟩
  item := by
    intro X hP hw hK hc i pins s σ H E I hf st hg
    subst hP hw hK
    obtain ⟨⟨old, he⟩, hit, hne⟩ := st
    obtain ⟨xs, x, hq, hx⟩ := hg
    obtain ⟨its, rv, p, hz⟩ := I.list hq
    obtain ⟨u, hu, ru⟩ := rv.get hx
    have hel : e < s.heap.objs.size := Heap.lt_size he
    have hil : it < s.heap.objs.size := by obtain ⟨_, q, _⟩ := hit; exact Heap.lt_size q
    refine wpAny_pyNext_enum_item he hit p.isList (x := u) (by simpa using hu) hne fun h' ho hit' hT hsz hk => ?_
    refine ⟨_, rfl, wpAny_letOwnedTupleGo_enum (s := { s with heap := h', toks := s.toks + 1 }) ho fun h'' he' sb => ?_⟩
    have hT2 : h''.get? s.heap.objs.size = some { cls := .type "tuple", data := .seq #[.int i s.toks, u] } := (sb.2 _ (Nat.ne_of_gt hel)).trans hT
    have new : ObjOk X.prog X.w (upd H s.heap.objs.size (.tup [.int (i : Nat), x])) h'' s.heap.objs.size (.tup [.int (i : Nat), x]) :=
      ⟨by show 2 ≤ sizeLine; decide, [.int i s.toks, u], .cons ⟨_, rfl⟩ (.cons ru .nil), ⟨_, hT2, rfl, _, rfl⟩⟩
    have I1 : Inv X pins σ (upd H s.heap.objs.size (.tup [.int (i : Nat), x])) { s with heap := h'', toks := s.toks + 1 } :=
      I.turnedNew (ch := [e, it]) (fun b ob hb q => (sb.2 b (fun z => hb (by simp [z]))).trans (hk b ob (fun z => hb (by simp [z])) (fun z => hb (by simp [z])) q)) hf (Nat.le_refl _) new
    refine ⟨.ref s.heap.objs.size, _, I1, rfl, ⟨_, x, rfl, I.hok.fresh (Nat.le_refl _), rfl, fun ys hy => by rw [I.list_inj hy hq]; exact hx⟩, ⟨⟨u, ?_⟩, hit'.at fun o q => (sb.2 it (Ne.symm hne)).trans q, hne⟩, fun b hb => ?_⟩
    · have e1 : ((i + 1 : Nat) : Int) = (i : Int) + 1 := by omega
      rw [e1]; exact he'
    · have hb' : b < s.heap.objs.size := by
        have e' : b = e ∨ b = it := by simpa using hb
        rcases e' with z | z
        · rw [z]; exact hel
        · rw [z]; exact hil
      rw [upd_ne (Nat.ne_of_lt hb')]
      exact (hf b hb).1
  done := by
    intro X hP hw hK hc i pins s σ H E I hf st hg
    subst hP hw hK
    obtain ⟨⟨old, he⟩, hit, hne⟩ := st
    obtain ⟨xs, hq, hx⟩ := hg
    obtain ⟨its, rv, p, hz⟩ := I.list hq
    obtain ⟨f0, f1, f2, f3, f4, f5⟩ := hf it (by simp)
    have hl := rv.length
    exact wpAny_pyNext_enum_end (I.ok.hd hc) he hit p.isList (by simp; omega) fun h' eb => ⟨rfl, I.turned (t' := s.toks) (fun b o hb q => eb b o hb q) f0 f1 f3 f4 f5⟩
  self := fun A i s Q E st h => let ⟨⟨_, he⟩, _⟩ := st; wpAny_pyIter_enum he h
def iEnum (K : PySem.W.Frag) (ta : TA) : TI := fun σ H R => ta σ H fun vs H1 => ∃ a xs, vs = [.ref a] ∧ SqL K H1 a xs ∧ R (Ite K a) H1
theorem pi_enum {X : Cx} {e : Expr} {ta : TA} {p pos tpos : Pos} {elts : List Expr} {kk : Nat} (hg : Gl X "enumerate") (hm : X.mg "enumerate" = none) (ha : PA X [e] ta) (hs : starEach [e] X.env = [(false, eval e X.env)] := by rfl) :
    PI X (.Tuple elts kk tpos) (.Call (.Name "enumerate" p) [e] [] pos) (iEnum X.K ta) := by
  intro pins s σ H R I h
  refine Call_ (ld_blt I hg hm boot_enumerate (PyProof.Rows.callWith_type1 (thn (ha pos pins s σ H _ I h) fun us s1 ⟨vs, H1, I1, r1, q1⟩ => ?_) hs rfl))
  obtain ⟨a, xs, ex, hq, q⟩ := q1
  subst ex
  cases r1 with
  | cons r rr =>
    cases rr
    cases r
    obtain ⟨its, rv, p', hz⟩ := I1.list hq
    refine call_enumerate_list p'.isList fun h' he hit hsz hk => wpAny_pyIter_enum he ?_
    have I2 : Inv X pins σ H1 { s1 with heap := h' } := I1.kept (t' := s1.toks) hk
    refine ⟨s1.heap.objs.size + 1, [s1.heap.objs.size + 1, s1.heap.objs.size], _, _, H1, rfl, I2, turn_enum a (s1.heap.objs.size + 1) s1.heap.objs.size, ⟨⟨.none, he⟩, hit, Nat.succ_ne_self _⟩, fun b hb => ?_, q⟩
    have e' : b = s1.heap.objs.size + 1 ∨ b = s1.heap.objs.size := by simpa using hb
    have hle : s1.heap.objs.size ≤ b := by
      rcases e' with z | z
      · rw [z]; exact Nat.le_add_right _ _
      · rw [z]; exact Nat.le_refl _
    exact I1.fpOk hle (I1.hok.fresh hle)
end L2
section 
namespace Bits
open PySem PyProof.Rows
end Bits
end 
section 
namespace TL
open PySem PySem.Builtin PySem.Builtin.Str PySem.StrLaws
abbrev tl (x : Str) : List Nat := x.cps.toList
theorem len_tl (x : Str) : x.length = (tl x).length := by simp [tl, Str.length]
theorem tl_append (x y : Str) : tl (x ++ y) = tl x ++ tl y := by
  show (x ++ y).cps.toList = _
  rw [Str.cps_append, Array.toList_append]
def numL (n : Nat) : List Nat := (Nat.toDigits 10 n).map Char.toNat
theorem tl_num (n : Nat) : tl (Str.ofString (toString ((n : Nat) : Int))) = numL n := PySem.W.KIN.signs_num n
end TL
end 
namespace L2
open PySem PySem.Spec PyProof.Rows
section
variable {X : Cx} {pins : List (Addr × Obj)} {σ : St} {H : Hp} {s : Shared} {Q : VK}
end
section
variable {X : Cx}
end
section
variable {X : Cx} {o e : Expr} {to te : TE}
def tM1 (r : V → List V → Hp → VK → Prop) (to te : TE) : TE := fun σ H Q => to σ H fun x H1 => (∃ a, x = .str a) ∧ te σ H1 fun y H2 => r x [y] H2 Q
theorem pe_m1 {id : String} {name : Str} {apos pos : Pos} {r : V → List V → Hp → VK → Prop} (slot : Slot "str" name id) (ty : typeOf (.builtin id) = pure (.type "method_descriptor")) (rule : MtR X id r) (ho : PE X o to) (he : PE X e te)
    (hs : starEach [e] X.env = [(false, eval e X.env)] := by rfl) (hbase : attributeBase o name X.env (eval o X.env) = eval o X.env := by rfl) (hline : (apos.endLine == pos.line) = true := by rfl) :
    PE X (.Call (.Attribute o name apos) [e] [] pos) (tM1 r to te) := by
  intro pins s σ H Q I h
  refine PySem.Call_method1 hbase hs hline (thn (ho pins s σ H _ I h) fun v s1 ⟨x, H1, I1, r1, q1⟩ => ?_)
  obtain ⟨⟨a, rfl⟩, q1⟩ := q1
  obtain ⟨t, rfl⟩ := _root_.id r1
  refine ⟨"str", _, F.plainAttrs_str, slot, ty, typeIs_str _ _ _, (fun _ e => nomatch e), Calls.callWith_builtin rfl (Calls.evalArgs_plain (Calls.spliced_cons ?_))⟩
  exact thn (he pins s1 σ H1 _ I1 q1) fun u s2 ⟨y, H2, I2, r2, q2⟩ => Calls.spliced_nil (rule pins s2 σ H2 _ [y] _ [u] Q I2 r1 (.cons r2 .nil) q2)
end
end L2
namespace L2
open PySem PySem.Spec PyProof.Rows
section
variable {X : Cx}
end
end L2
namespace Att
open PySem PySem.W PySem.Calls PyProof.Rows
theorem ints_of_wellAll {P : Params} {h : Heap} : ∀ (ns : List Int) (vs : List Value), WellAll P h vs (ns.map WData.int) → IntsAre vs ns := by
  intro ns
  induction ns with
  | nil =>
    intro vs w
    rw [List.map_nil] at w
    cases w
    exact .nil
  | cons n ns ih =>
    intro vs w
    rw [List.map_cons] at w
    cases w with
    | cons a b =>
      cases a
      exact .cons _ _ (ih _ b)
section
variable {prog : Program} {w : World} {A : Around} {E : Value → Shared → Prop} {s : Shared} {K : Frag}
end
end Att
namespace L2
open PySem PySem.Spec PyProof.Rows
theorem vals_ints : ∀ {vs : List Value} {ns : List Int}, IntsAre vs ns → Vals (ns.map V.int) vs
  | _, _, .nil => .nil
  | _, _, .cons n t h => .cons ⟨t, rfl⟩ (vals_ints h)
def Only (H : Hp) : Prop := ∀ b, H b = none ∨ ∃ o xs, H b = some (.frz o (.lst xs))
end L2
namespace L2
open PySem PySem.Spec PyProof.Rows
abbrev KOf {K : PySem.W.Frag} {h : Heap} (_ : K.In h) : PySem.W.Frag := K
end L2
namespace L2
open PySem PySem.Spec PyProof.Rows
def inClass (s : Stmt) (j : Nat) : Stmt := match s with
  | .ClassDef _ _ _ body _ _ _ _ _ _ _ => body.getD j (.Pass ⟨0, 0, 0, 0⟩)
  | _ => .Pass ⟨0, 0, 0, 0⟩
def defArgs (s : Stmt) : Arguments := match s with
  | .FunctionDef _ a _ _ _ _ _ _ _ _ => a
  | _ => { posonlyargs := [], args := [], vararg := none, kwonlyargs := [], kw_defaults := [], kwarg := none, defaults := [] }
def defBody (s : Stmt) : List Stmt := match s with
  | .FunctionDef _ _ b _ _ _ _ _ _ _ => b
  | _ => []
def defScope (s : Stmt) : Scope := match s with
  | .FunctionDef _ _ _ _ _ _ sc _ _ _ => sc
  | _ => { kind := .function, names := [], isGenerator := false, isCoroutine := false }
abbrev CX0 : CXT := fun _ _ _ _ _ _ => False
abbrev E0 : XK := fun _ _ _ => False
theorem pass0 {X : Cx} : Passes CX0 X E0 := fun _ _ _ _ _ _ _ h => h.elim
structure Fun (K : PySem.W.Frag) (x qual : Str) (st : Stmt) (f : Addr) (fd : FuncData) : Prop where
  ex : ∃ (oc : Value) (od : Option Addr) (kV doc pm : Value) (an : Option Addr) (cdv ct : Value) (osl : Array (Option Value)),
    fd = PySem.W.fnOf x qual (defArgs st) (defBody st) (defScope st) .none kV doc pm an cdv ct ∧ K.lookup f = some ⟨oc, od, .func fd, osl⟩ ∧ PySem.W.codeIn K cdv qual = true
  kp : PySem.W.keepIn K (.ref f) = true
section
variable {P : Program} {w : World} {K : PySem.W.Frag} {mg : Str → Option Value} {base : Heap}
theorem Fun.ok {x qual : Str} {st : Stmt} {f : Addr} {fd : FuncData} {N ps : List Str} {k : Nat} {sp : Sp} (F : Fun K x qual st f fd) (S : FnScope N ps (defScope st)) (len : ∀ vs H Q E, sp vs H Q E → vs.length = ps.length)
    (hbody : ∀ (cdv : Value) (A : Around) (outer : List Env) (s : Shared) (H : Hp) (vs : List V) (Q : VK) (E : XK), Room k (A.deeper (envOfC qual (defScope st) s.heap.objs.size f cdv)) → sp vs H Q E →
      ∃ t, PSs (cxOf CX0 P w K mg base N qual (defScope st) f cdv A outer s H E).nox (defBody st) t ∧ t { nx := fun _ H' => Q .non H', rt := Q } (start N vs) H) : FnOk P w K mg base CX0 (k + 1) f fd ps sp := by
  obtain ⟨oc, od, kV, doc, pm, an, cdv, ct, osl, rfl, lk, hcd⟩ := F.ex
  refine fn_of lk hcd S len fun A outer s H vs Q E hr hsp => ?_
  obtain ⟨t, h, q⟩ := hbody cdv A outer s H vs Q E hr hsp
  exact ⟨t, h.nox, q⟩
theorem Fun.binds {x qual : Str} {st : Stmt} {f : Addr} {fd : FuncData} {ps : List Str} (F : Fun K x qual st f fd)
    (h : ∀ (kV doc pm : Value) (an : Option Addr) (cdv ct : Value) (us : List Value), us.length = ps.length → bindArgs (PySem.W.fnOf x qual (defArgs st) (defBody st) (defScope st) .none kV doc pm an cdv ct) ⟨us, []⟩ = pure (ps.zip us)) : Binds K fd ps [] := by
  obtain ⟨oc, od, kV, doc, pm, an, cdv, ct, osl, rfl, lk, hcd⟩ := F.ex
  exact .all (h kV doc pm an cdv ct)
theorem fun_mk {x qual : Str} {st : Stmt} {f : Addr} {oc : Value} {od an : Option Addr} {osl : Array (Option Value)} {kV doc pm cdv ct : Value} (l : K.lookup f = some ⟨oc, od, .func (PySem.W.fnOf x qual (defArgs st) (defBody st) (defScope st) .none kV doc pm an cdv ct), osl⟩)
    (c : PySem.W.codeIn K cdv qual = true) (k : PySem.W.keepIn K (.ref f) = true) : Fun K x qual st f (PySem.W.fnOf x qual (defArgs st) (defBody st) (defScope st) .none kV doc pm an cdv ct) := ⟨⟨oc, od, kV, doc, pm, an, cdv, ct, osl, rfl, l, c⟩, k⟩
end
section
variable {X : Cx}
theorem pv (i : Nat) {x : Str} {pos : Pos} (hN : X.N[i]? = some x := by rfl) (hv : Vis X.env.scope x := by first | exact Or.inl rfl | exact Or.inr (Or.inl rfl) | exact Or.inr (Or.inr rfl)) (hd : (x == ("__debug__" : Str)) = false := by decide)
    (hcd : (x == ("__classdict__" : Str)) = false := by decide) : PE X (.Name x pos) (tVar i) := pe_var hN hv hd hcd
end
theorem iteF {A B : Prop} (h : B) : if false = true then A else B := by
  rw [if_neg Bool.false_ne_true]
  exact h
theorem iteT {A B : Prop} (h : A) : if true = true then A else B := by
  rw [if_pos rfl]
  exact h
theorem ite2 {c A B : Prop} [Decidable c] (h1 : c → A) (h2 : ¬ c → B) : if c then A else B := by
  by_cases h : c
  · rw [if_pos h]
    exact h1 h
  · rw [if_neg h]
    exact h2 h
def Same (H H' : Hp) : Prop := ∀ b o, H b = some o → H' b = some o
theorem Same.trans {H H1 H2 : Hp} (a : Same H H1) (b : Same H1 H2) : Same H H2 := fun c o h => b c o (a c o h)
theorem Same.free {H H' : Hp} (e : Same H H') {l : Addr} (h : H' l = Option.none) : H l = Option.none := by
  cases q : H l with
  | none => rfl
  | some o =>
    rw [e l o q] at h
    cases h
theorem Same.seq {K : PySem.W.Frag} {H H' : Hp} {a : Addr} {xs : List V} (e : Same H H') (h : SqL K H a xs) : SqL K H' a xs := by
  rcases h with (h | ⟨o, h⟩) | h
  · exact .inl (.inl (e _ _ h))
  · exact .inl (.inr ⟨o, e _ _ h⟩)
  · exact .inr h
section
variable {κ : Type} [DecidableEq κ]
end
theorem Same.made {H H1 : Hp} {x dx C : Addr} (nx : H x = Option.none) (nd : H dx = Option.none) (k : ∀ b o, (upd (upd H dx (.own x)) x (.ins C dx [])) b = some o → b ≠ x → H1 b = some o) : Same H H1 := fun b o e =>
  k b o (by rw [upd_ne (ne_of_none e nx), upd_ne (ne_of_none e nd)]; exact e) (ne_of_none e nx)
end L2
end
section
set_option linter.all false
set_option Elab.async false
namespace Fl
open PySem
section
variable {M : Model} {A : Around} {E : Value → Shared → Prop} {s : Shared}
/-- the mark of an exception's newest entry is set, whatever it was -/
theorem set_mark {base : Heap} {l : List Env} {e : Addr} {cls a0 fl : Value} {fr : Option Addr} {Q : Unit → Shared → Prop} (k : base.StaysIn s.heap) (f : s.heap.FunFrames base l) (t : s.heap.TracedAtW base e cls a0 fl)
    (h : ∀ h' fl', base.StaysIn h' → h'.FunFrames base l → h'.TracedAtW base e cls a0 fl' → s.heap.UpToSlots h' → (fr = none → fl' = .none) → Q () { s with heap := h' }) : wpAny M A (setFlight (.ref e) fr) Q E s := by
  obtain ⟨oe, vs, T, oT, ts, he, hc, hd, h1, hnT, hTe, hT, hdT, h3⟩ := t
  have z3 : 3 < ts.size := (Array.getElem?_eq_some_iff.mp h3).1
  have same : ∀ b, b ≠ T → ∀ v, (s.heap.update T (Obj.mapFields (·.setIfInBounds 3 v))).get? b = s.heap.get? b := fun b hb v => Heap.get?_update_other _ _ (Ne.symm hb)
  have notT : ∀ b o, s.heap.get? b = some o → (∀ vs, o.data ≠ .fields vs) → b ≠ T := fun b o hb hn q => by
    subst q
    rw [hT] at hb
    cases hb
    exact hn ts hdT
  unfold setFlight
  refine wpAny_bind (wpAny_field he hd h1 ?_)
  rw [if_pos (show (Value.ref T != Value.none) = true by simp)]
  refine wpAny_setField hT hdT z3 (h _ (fr.elim Value.none fun f => rawInt f) (fun b o hb => ?_) (f.of_keeps fun b o hb hn => ⟨o, (same b (notT b o hb hn) _).trans hb, rfl⟩) ?_ (fun b o hb hn => ⟨o.slots, (same b (notT b o hb hn) _).trans hb⟩) (fun q => by rw [q]; rfl))
  · refine (same b (fun q => ?_) _).trans (k b o hb)
    rw [q, hnT] at hb
    cases hb
  · exact ⟨oe, vs, T, _, _, (same e (Ne.symm hTe) _).trans he, hc, hd, h1, hnT, hTe, Heap.get?_update_self _ hT (Obj.isFreed_of_fields (Obj.data_mapFields hdT _)), Obj.data_mapFields hdT _, by simp [z3]⟩
/-- an exception leaves the frame, whatever its mark is -/
theorem leave_any {base : Heap} {env : Env} {outer : List Env} {L e : Addr} {cls a0 fl : Value} {Q : Unit → Shared → Prop} (hfr : A.frames = some (env :: outer)) (hf : env.frame = some L)
    (k : base.StaysIn s.heap) (hen : base.get? e = none) (f : s.heap.FunFrames base (env :: outer)) (t : s.heap.TracedAtW base e cls a0 fl)
    (h : ∀ h', Heap.FlyingW base outer e cls a0 h' → s.heap.UpToSlots h' → Q () { s with heap := h' }) : wpAny M A (leaving env (.ref e)) Q E s := by
  by_cases q : (fl == rawInt L) = true
  · have q' : fl = rawInt L := beq_iff_eq.mp q
    subst q'
    unfold leaving
    refine wpAny_bind (wpAny_noteFrame_againW hf t ?_)
    refine set_mark k f t fun h' fl' k1 k2 k3 k4 k5 => h h' ⟨k1, hen, k2.2.2, ?_⟩ k4
    have := k5 rfl
    subst this
    exact k3
  · obtain ⟨oe, vs, T, oT, ts, he, ⟨hc, h0⟩, hd, h1, hnT, hTe, hT, hdT, h3⟩ := t
    subst hc
    have same : ∀ b, b ≠ T → (s.heap.update T (Obj.mapFields (·.setIfInBounds 3 Value.none))).get? b = s.heap.get? b := fun b hb => Heap.get?_update_other _ _ (Ne.symm hb)
    have notT : ∀ b o, s.heap.get? b = some o → (∀ vs, o.data ≠ .fields vs) → b ≠ T := fun b o hb hn z => by
      subst z
      rw [hT] at hb
      cases hb
      exact hn ts hdT
    unfold leaving noteFrame
    simp only [hf]
    refine wpAny_bind (wpAny_bind (wpAny_field he hd h1 ?_))
    rw [if_pos (show (Value.ref T != Value.none) = true by simp)]
    refine wpAny_bind (wpAny_field hT hdT h3 ?_)
    rw [if_neg q]
    refine wpAny_bind (wpAny_setField hT hdT (Array.getElem?_eq_some_iff.mp h3).1 ?_)
    refine wpAny_newEntryW (base := base) hfr (f.of_keeps fun b o hb hn => ⟨o, (same b (notT b o hb hn)).trans hb, rfl⟩) hf ((same e (Ne.symm hTe)).trans he) (fun b o hb => (same b fun z => by rw [z, hnT] at hb; cases hb).trans (k b o hb)) hen hd
      (Array.getElem?_eq_some_iff.mp h1).1 h0 fun h' ⟨x1, x2, x3, x4⟩ => h h' ⟨x1, hen, x2.2.2, x3⟩ fun b o hb hn => x4 b o ((same b (notT b o hb hn)).trans hb) hn
/-- handed on out of a block -/
theorem pass_on {base : Heap} {env : Env} {l : List Env} {what : String} {e : Addr} {cls a0 fl : Value} {Q : Value → Shared → Prop} (k : base.StaysIn s.heap) (f : s.heap.FunFrames base l) (t : s.heap.TracedAtW base e cls a0 fl)
    (h : ∀ h' fl', base.StaysIn h' → h'.FunFrames base l → h'.TracedAtW base e cls a0 fl' → s.heap.UpToSlots h' → E (.ref e) { s with heap := h' }) : wpAny M A (passOn what (.ref e) env : Sem Value) Q E s := by
  obtain ⟨oe, vs, T, oT, ts, he, hc, hd, h1, hnT, hTe, hT, hdT, h3⟩ := id t
  unfold passOn
  refine wpAny_bind (wpAny_field he hd h1 ?_)
  rw [if_neg (show ¬ (Value.ref T == Value.none) = true by simp)]
  refine wpAny_bind (set_mark k f t fun h' fl' k1 k2 k3 k4 _ => ?_)
  exact wpAny_throw (h h' fl' k1 k2 k3 k4)
end
end Fl
end
section
set_option linter.all false
set_option Elab.async false
set_option maxRecDepth 100000
namespace L2
open PySem PySem.Spec PyProof.Rows
theorem ObjOk.ex {P : Program} {w : World} {H : Hp} {h : Heap} {a : Addr} {o : HO} (x : ObjOk P w H h a o) : ∃ u, h.get? a = some u := by
  cases o with
  | lst xs => obtain ⟨_, _, _, _, e⟩ := x; exact ⟨_, e⟩
  | tup xs => obtain ⟨_, _, _, ob, e, _⟩ := x; exact ⟨_, e⟩
  | dK kvs => obtain ⟨_, _, _, _, o, _, _, e, _⟩ := x; exact ⟨_, e⟩
  | dT kvs => obtain ⟨_, _, _, _, o, _, _, e, _⟩ := x; exact ⟨_, e⟩
  | set S n => obtain ⟨o, _, _, _, e, _⟩ := x; exact ⟨_, e⟩
  | ins C dx fs => obtain ⟨_, _, _, e, _⟩ := x; exact ⟨_, e⟩
  | own y => obtain ⟨_, e⟩ := x; exact ⟨_, e⟩
  | xd fs => obtain ⟨_, ⟨_, _, _, e, _⟩, _⟩ := x; exact ⟨_, e⟩
  | rng lo hi => obtain ⟨_, _, _, e⟩ := x; exact ⟨_, e⟩
  | frz ob u => obtain ⟨e, _⟩ := x; exact ⟨_, e⟩
  | tbl ps => exact ⟨_, show h.get? a = some _ from x⟩
  | met f y => exact ⟨_, show h.get? a = some _ from x⟩
  | ext φ => obtain ⟨_, ⟨_, e⟩, _⟩ := x; exact ⟨_, e⟩
/-! ### how an exception of the class at C lies behind a call -/
def XN (P : Program) (w : World) (C : Addr) : CXT := fun outer H s E e s' => ∃ (ea : Addr) (a0 : Value) (B : Heap) (H' : Hp), e = .ref ea ∧ s'.os = s.os ∧ AllBare s'.gens ∧ Un (frs outer) [] H H' s.heap s'.heap ∧ HOk P w H' s'.heap ∧
  Heap.FlyingW B outer ea (.ref C) a0 s'.heap ∧ (∀ b u, H' b ≠ none → s'.heap.get? b = some u → B.get? b = some u) ∧ (∀ b u, s.heap.get? b = some u → H b = none → b ∉ frs outer → B.get? b = some u) ∧
  (∀ b u, s.heap.get? b = some u → b ∈ frs outer ∨ ∃ u', B.get? b = some u') ∧ E (.ref C) none H'
theorem XN.never {P : Program} {w : World} {C : Addr} {outer : List Env} {H : Hp} {s s' : Shared} {e : Value} (h : XN P w C outer H s E0 e s') : False := by
  obtain ⟨_, _, _, _, _, _, _, _, _, _, _, _, _, h⟩ := h
  exact h
theorem passN {P : Program} {w : World} {C : Addr} {X : Cx} : Passes (XN P w C) X E0 := fun _ _ _ _ _ _ _ h => (XN.never h).elim
section
variable {X : Cx} {pins : List (Addr × Obj)} {σ : St} {H : Hp} {s : Shared}
/-- a def's body: its frame is the first of those that run -/
structure Top1 (X : Cx) : Prop where
  ex : X.ex = []
  st : X.stack = X.env :: X.outer
  fr : X.env.frame = some X.env.locals
/-- an exception has left the body at hand: what the caller is told -/
theorem fly_out (I : Inv X pins σ H s) (T : Top1 X) {s' s'' : Shared} {H' : Hp} {ea C : Addr} {a0 : Value} {B : Heap} {ch : List Addr} {E : XK} (hch : ∀ b ∈ ch, X.s₀.heap.objs.size ≤ b)
    (os : s''.os = s.os) (bare : AllBare s''.gens) (un : Un (frs X.stack) ch H H' s.heap s'.heap) (hok : HOk X.prog X.w H' s'.heap) (fl : Heap.FlyingW B X.outer ea (.ref C) a0 s''.heap) (sl : ∀ b o, b ∈ X.fs → s'.heap.get? b = some o → (∀ vs, o.data ≠ .fields vs) → ∃ sl, s''.heap.get? b = some { o with slots := sl })
    (r1 : ∀ b u, H' b ≠ none → s'.heap.get? b = some u → B.get? b = some u) (r2 : ∀ b u, s.heap.get? b = some u → H b = none → b ∉ frs X.stack → b ∉ ch → B.get? b = some u)
    (r3 : ∀ b u, s.heap.get? b = some u → b ∉ ch → b ∈ frs X.stack ∨ ∃ u', B.get? b = some u') (hE : E (.ref C) none H') : XN X.prog X.w C X.outer X.H₀ X.s₀ E (.ref ea) s'' := by
  have nx : ∀ b, b ∉ X.ex := fun b z => by rw [T.ex] at z; exact absurd z (by simp)
  have lt0 : ∀ b u, X.s₀.heap.get? b = some u → b < X.s₀.heap.objs.size := fun b u e => Heap.lt_size e
  have nch : ∀ b u, X.s₀.heap.get? b = some u → b ∉ ch := fun b u e z => absurd (Nat.lt_of_lt_of_le (lt0 b u e) (hch b z)) (Nat.lt_irrefl _)
  have nL : ∀ b u, X.s₀.heap.get? b = some u → b ≠ X.env.locals := fun b u e => Nat.ne_of_lt (Nat.lt_of_lt_of_le (lt0 b u e) I.ok.above)
  have nst : ∀ b u, X.s₀.heap.get? b = some u → b ∉ X.fs → b ∉ frs X.stack := fun b u e hb z => (List.mem_cons.mp (I.stkSub b z)).elim (nL b u e) hb
  have stk : ∀ b, b ∈ X.fs → b ∈ frs X.stack := fun b hb => by
    rw [T.st]
    unfold frs
    rw [List.filterMap_cons, T.fr]
    exact List.mem_cons_of_mem _ hb
  have old : ∀ b u, X.s₀.heap.get? b = some u → X.H₀ b = none → b ∉ X.fs → B.get? b = some u := fun b u e n hb =>
    r2 b u (I.base.keep b u e n hb (nx b)) (I.base.free b u e n (nx b)) (nst b u e hb) (nch b u e)
  have there : ∀ b u, X.s₀.heap.get? b = some u → b ∈ X.fs ∨ ∃ u', B.get? b = some u' := fun b u e => by
    obtain ⟨o1, e1⟩ := I.base.there b u e (nx b)
    rcases r3 b o1 e1 (nch b u e) with z | z
    · exact .inl ((List.mem_cons.mp (I.stkSub b z)).resolve_left (nL b u e))
    · exact .inr z
  refine ⟨ea, a0, B, H', rfl, os.trans I.os, bare, ⟨fun b o e n hb _ => fl.1 b o (old b o e n hb), fun b o e n hb _ => ?_, fun b o e n _ => ?_, fun b o e _ => ?_, fun b xs e => un.tups b xs (I.base.tups b xs e), fun b o u e => un.frzs b o u (I.base.frzs b o u e), fun b ps e => ?_⟩,
    fun a o e => ?_, fl, fun b u hb e => ?_, old, there, hE⟩
  · obtain ⟨s1, e1⟩ := I.base.slot b o e n hb (nx b)
    obtain ⟨s2, e2⟩ := un.any e1 (I.base.free b o e n (nx b)) (nch b o e)
    obtain ⟨_, o', ho', hd⟩ := I.ok.funs.mem hb
    rw [e] at ho'
    cases ho'
    obtain ⟨s3, e3⟩ := sl b _ hb e2 hd
    exact ⟨s3, e3⟩
  · obtain ⟨o1, e1⟩ := I.base.there b o e (nx b)
    exact un.free b o1 e1 (I.base.free b o e n (nx b)) (nch b o e)
  · rcases there b o e with z | ⟨u', z⟩
    · obtain ⟨_, o', ho', _⟩ := fl.2.2.1.mem z
      exact ⟨o', ho'⟩
    · exact ⟨u', fl.1 b u' z⟩
  · obtain ⟨m1, e1⟩ := I.base.tbls b ps e
    obtain ⟨m2, e2⟩ := un.tbls b _ e1
    exact ⟨m1 ++ m2, by rw [e2, Array.append_assoc]⟩
  · refine (hok a o e).stay (fun b u hb q => fl.1 b u (r1 b u ?_ q)) (fun _ q => q) fun _ _ q => q
    rcases hb with z | z
    · rw [z, e]; simp
    · rw [z]; simp
  · cases q : H' b with
    | none => exact absurd q hb
    | some o =>
      obtain ⟨u1, e1⟩ := (hok b o q).ex
      have e2 := r1 b u1 hb e1
      have e3 := fl.1 b u1 e2
      rw [e] at e3
      cases e3
      exact e2
/-- a raise in the body at hand -/
theorem raise_out (I : Inv X pins σ H s) (T : Top1 X) {s' : Shared} {ea C : Addr} {vs : List Value} {E : XK} {E' : Value → Shared → Prop} (hx : Heap.MadeExcOf s.heap s'.heap ea (.ref C) vs) (os : s'.os = s.os) (bare : s'.gens = s.gens) (hE : E (.ref C) none H) :
    wpAny (model X.prog X.w) X.A (leaving X.env (.ref ea)) (fun _ s'' => XN X.prog X.w C X.outer X.H₀ X.s₀ E (.ref ea) s'') E' s' := by
  have hst : s.heap.FunFrames X.base (X.env :: X.outer) := by have := I.stack; rw [T.st] at this; exact this
  have hin : ∀ env ∈ X.env :: X.outer, ∀ b, env.frame = some b → b ∈ frs X.stack := fun env he b hb => by rw [T.st]; exact List.mem_filterMap.mpr ⟨env, he, hb⟩
  refine wpAny_leaves_madeW (base := PySem.W.hideAll s.heap (frs X.stack)) (by rw [I.ok.frames, T.st]) T.fr (fun b o q => PySem.W.of_hideAll _ q) (PySem.W.funFrames_hide hst hin) hx fun h' t fl _ _ sl => ?_
  refine fly_out (s' := s') (ch := []) I T (by simp) os (by show AllBare s'.gens; rw [bare]; exact I.bare) (Un.kept hx.keeps) (I.hok.kept hx.keeps) fl (fun b o _ => sl b o) (fun b u hb e => ?_) (fun b u e _ hb _ => PySem.W.hideAll_get _ e hb) (fun b u e _ => ?_) hE
  · cases q : H b with
    | none => exact absurd q hb
    | some o =>
      obtain ⟨u1, e1⟩ := (I.hok b o q).ex
      have e2 := hx.keeps b u1 e1
      rw [e] at e2
      cases e2
      refine PySem.W.hideAll_get _ e1 fun z => ?_
      rw [I.stkFree b z] at q
      cases q
  · by_cases z : b ∈ frs X.stack
    · exact .inl z
    · exact .inr ⟨u, PySem.W.hideAll_get _ e z⟩
/-- an exception of a callee passes the body at hand -/
theorem pass_out (I : Inv X pins σ H s) (T : Top1 X) {s' : Shared} {e : Value} {C : Addr} {E : XK} {E' : Value → Shared → Prop} (h : XN X.prog X.w C X.stack H s E e s') :
    wpAny (model X.prog X.w) X.A (leaving X.env e) (fun _ s'' => XN X.prog X.w C X.outer X.H₀ X.s₀ E e s'') E' s' := by
  obtain ⟨ea, a0, B, H', rfl, os, bare, un, hok, fl, r1, r2, r3, hE⟩ := h
  have fl0 : Heap.FlyingW B (X.env :: X.outer) ea (.ref C) a0 s'.heap := by rw [← T.st]; exact fl
  exact wpAny_leaves_onW (by rw [I.ok.frames, T.st]) T.fr fl0 fun h' fl' sl => fly_out (s' := s') (ch := []) I T (by simp) os bare un hok fl' (fun b o _ => sl b o) r1 (fun b u e n hb _ => r2 b u e n hb) (fun b u e _ => r3 b u e) hE
end
/-- the bodies of defs -/
theorem cxOf_top {CX : CXT} {P : Program} {w : World} {K : PySem.W.Frag} {mg : Str → Option Value} {base : Heap} {N : List Str} {qual : Str} {scope : Scope} {f : Addr} {cd : Value} {A : Around} {outer : List Env} {s : Shared} {H : Hp} {E : XK} :
    Top1 (cxOf CX P w K mg base N qual scope f cd A outer s H E) := ⟨rfl, rfl, rfl⟩
theorem pass1 {P : Program} {w : World} {C : Addr} {K : PySem.W.Frag} {mg : Str → Option Value} {base : Heap} {N : List Str} {qual : Str} {scope : Scope} {f : Addr} {cd : Value} {A : Around} {outer : List Env} {s : Shared} {H : Hp} {E : XK} :
    Passes (XN P w C) (cxOf (XN P w C) P w K mg base N qual scope f cd A outer s H E) E := fun _ _ _ _ _ _ I h => pass_out I cxOf_top h
theorem own1 {P : Program} {w : World} {CX : CXT} {K : PySem.W.Frag} {mg : Str → Option Value} {base : Heap} {N : List Str} {qual : Str} {scope : Scope} {f : Addr} {cd : Value} {A : Around} {outer : List Env} {s : Shared} {H : Hp} {E : XK} :
    PassesOwn (model P w) (cxOf CX P w K mg base N qual scope f cd A outer s H E).A (cxOf CX P w K mg base N qual scope f cd A outer s H E).env (cxOf CX P w K mg base N qual scope f cd A outer s H E).xe := PassesOwn.leaving
section
variable {P : Program} {w : World} {K : PySem.W.Frag} {mg : Str → Option Value} {base : Heap}
/-- THE RULE for a def that may raise -/
theorem Fun.okX {x qual : Str} {st : Stmt} {f C : Addr} {fd : FuncData} {N ps : List Str} {k : Nat} {sp : Sp} (F : Fun K x qual st f fd) (S : FnScope N ps (defScope st)) (len : ∀ vs H Q E, sp vs H Q E → vs.length = ps.length)
    (hbody : ∀ (cdv : Value) (A : Around) (outer : List Env) (s : Shared) (H : Hp) (vs : List V) (Q : VK) (E : XK), Room k (A.deeper (envOfC qual (defScope st) s.heap.objs.size f cdv)) → sp vs H Q E →
      ∃ t, PSs (cxOf (XN P w C) P w K mg base N qual (defScope st) f cdv A outer s H E) (defBody st) t ∧ t { nx := fun _ H' => Q .non H', rt := Q } (start N vs) H) : FnOk P w K mg base (XN P w C) (k + 1) f fd ps sp := by
  obtain ⟨oc, od, kV, doc, pm, an, cdv, ct, osl, rfl, lk, hcd⟩ := F.ex
  exact fn_of lk hcd S len fun A outer s H vs Q E hr hsp => hbody cdv A outer s H vs Q E hr hsp
end
/-! ### raise C("..") -/
/-- the class at C is an error class of the program's own -/
structure Exc (K : PySem.W.Frag) (mg : Str → Option Value) (x : Str) (C : Addr) : Prop where
  bound : mg x = some (.ref C)
  is : PySem.W.excIn K C [.type "ValueError", .type "Exception", .type "BaseException", .type "object"] "ValueError.__new__" = true
theorem exc_obj {K : PySem.W.Frag} {h : Heap} {C : Addr} {bmB : List Value} {newId : String} (X : K.In h) (q : PySem.W.excIn K C bmB newId = true) :
    ∃ bm N nm qn bs hdct sn sub ab col dd k0 k1 k2 k3 k5 mN, h.get? C = some (excClassObj nm qn C N bs bm hdct sn sub ab col dd k0 k1 k2 k3 k5 newId) ∧ h.Ns N mN ∧ mN "__init__" = none ∧ OwnTail h bmB bm := by
  unfold PySem.W.excIn at q
  split at q
  · rename_i dd cd sl ho
    split at q
    · rename_i C' bm k0 k1 k2 k3 n k5 hm hs
      simp only [Bool.and_eq_true, beq_iff_eq, Bool.not_eq_true'] at q
      obtain ⟨⟨⟨⟨⟨e1, e2⟩, hdel⟩, ht⟩, hns⟩, hni⟩ := q
      subst e1 e2
      obtain ⟨nm, bs, mro, ns, qn, hd, sn, sub, ab, col, del⟩ := cd
      simp only at hm hdel hns hni
      subst hm hdel
      obtain ⟨ls⟩ := sl
      simp only at hs
      subst hs
      exact ⟨bm, ns, nm, qn, bs, hd, sn, sub, ab, col, dd, k0, k1, k2, k3, k5, _, X _ _ ho, .of_isNs (PySem.W.isNs_of_in X hns), PySem.W.nsMap_none_of_in X hns hni, PySem.W.tail_of_in X ht⟩
    · cases q
  · cases q
def tRaise (C : Addr) (E : XK) : TS := fun _ _ H => E (.ref C) none H
/-- what a raise asks of the context -/
def Raises (X : Cx) (C : Addr) (E : XK) : Prop := ∀ (pins : List (Addr × Obj)) (σ : St) (H : Hp) (s s' : Shared) (ea : Addr) (vs : List Value), Inv X pins σ H s → Heap.MadeExcOf s.heap s'.heap ea (.ref C) vs → s'.os = s.os → s'.gens = s.gens →
  E (.ref C) none H → X.xe (.ref ea) s'
theorem raises1 {P : Program} {w : World} {C : Addr} {K : PySem.W.Frag} {mg : Str → Option Value} {base : Heap} {N : List Str} {qual : Str} {scope : Scope} {f : Addr} {cd : Value} {A : Around} {outer : List Env} {s : Shared} {H : Hp} {E : XK} :
    Raises (cxOf (XN P w C) P w K mg base N qual scope f cd A outer s H E) C E := fun _ _ _ _ _ _ _ I hx os gens hE => raise_out I cxOf_top hx os gens hE
theorem ps_raise {X : Cx} {x msg : Str} {C : Addr} {E : XK} {np cpos pos p' : Pos} {j : Nat} (R : Raises X C E) (O : Exc X.K X.mg x C) (hc : X.calm = true) (hg : Gl X x) (hd : (x == ("__debug__" : Str)) = false := by decide) :
    PS X (.Raise (some (.Call (.Name x np) [.Constant (.str msg) j p'] [] cpos)) none pos) (tRaise C E) := by
  intro pins s σ H D I hE
  obtain ⟨bm, N, nm, qn, bs, hdct, sn, sub, ab, col, dd, k0, k1, k2, k3, k5, mN, hC, hN, hni, T⟩ := exc_obj I.mod.kin O.is
  refine wpAny_Raise_call_subT (C := C) (nm := nm) (q := qn) (N := N) (bs := bs) (bm := bm) (hdct := hdct) (sn := sn) (sub := sub) (ab := ab) (col := col) (dd := dd) (k0 := k0) (k1 := k1) (k2 := k2) (k3 := k3) (k5 := k5)
    PySem.F.excBase_ValueError (mN := mN) (T.hasType PySem.F.excBase_ValueError.hasBase) (I.ok.hd hc) rfl hni (ld_glob I hg O.bound ⟨rfl, ?_⟩ hd)
  refine Calls.evalArgs_plain (thn ((pa_cons (X := X) (pe_str (x := msg) (j := j) (pos := p')) pa_nil) cpos pins s σ H (fun vs H2 => vs.length ≤ sizeLine ∧ H2 = H) I ⟨by show 1 ≤ sizeLine; decide, rfl⟩) fun vs s2 ⟨ws, H2, I2, rv, hz, e2⟩ => ?_)
  subst e2
  exact ⟨rfl, by rw [← rv.length]; exact hz, I2.bk _ _ hC, hN.keeps I2.bk, T.keeps I2.bk, fun h' e hx => R pins σ H2 s2 { s2 with heap := h' } e vs I2 hx rfl rfl hE⟩
/-! ### an exception that is looked at in the frame at hand -/
section
variable {X : Cx} {pins : List (Addr × Obj)} {σ : St} {H : Hp} {s : Shared}
theorem Inv.landed (I : Inv X pins σ H s) {s' : Shared} {h' : Heap} {H' : Hp} {ea : Addr} {cls a0 : Value} {B : Heap} (os : s'.os = s.os) (bare : AllBare s'.gens) (un : Un (frs X.stack) [] H H' s.heap s'.heap) (hok : HOk X.prog X.w H' s'.heap)
    (fl : Heap.FlyingW B X.stack ea cls a0 h') (sl : s'.heap.UpToSlots h') (r1 : ∀ b u, H' b ≠ none → s'.heap.get? b = some u → B.get? b = some u) (r2 : ∀ b u, s.heap.get? b = some u → H b = none → b ∉ frs X.stack → B.get? b = some u)
    (r3 : ∀ b u, s.heap.get? b = some u → b ∈ frs X.stack ∨ ∃ u', B.get? b = some u') : Inv X pins σ H' { s' with heap := h' } := by
  refine I.call' (s' := { s' with heap := h' }) (ch := []) os ⟨fun b o e n hb _ => fl.1 b o (r2 b o e n hb), fun b o e n hb _ => ?_, un.free, fun b o e _ => ?_, un.tups, un.frzs, un.tbls⟩ (fun a o e => ?_) bare (by simp)
  · obtain ⟨s1, e1⟩ := un.slot b o e n hb (by simp)
    obtain ⟨_, o', ho', hd⟩ := I.stack.mem hb
    rw [e] at ho'
    cases ho'
    obtain ⟨s2, e2⟩ := sl b _ e1 hd
    exact ⟨s2, e2⟩
  · rcases r3 b o e with z | ⟨u', z⟩
    · obtain ⟨_, o', ho', _⟩ := fl.2.2.1.mem z
      exact ⟨o', ho'⟩
    · exact ⟨u', fl.1 b u' z⟩
  · refine (hok a o e).stay (fun b u hb q => fl.1 b u (r1 b u ?_ q)) (fun _ q => q) fun _ _ q => q
    rcases hb with z | z
    · rw [z, e]; simp
    · rw [z]; simp
end
/-! ### try .. except C: -/
/-- the context of an except suite -/
abbrev Cx.inh (X : Cx) (e : Value) : Cx := { X with A := X.A.mark (some e), calm := false }
/-- .. of a try's body: the pins are kept, the exceptions are looked at -/
abbrev Cx.tr (X : Cx) (pl : List (Addr × Obj)) (xB : Value → Shared → Prop) : Cx := { X with pn := pl, xe := xB }
section
variable {X : Cx} {pins : List (Addr × Obj)} {σ : St} {H : Hp} {s : Shared}
theorem Inv.inh (I : Inv X pins σ H s) (e : Value) : Inv (X.inh e) pins σ H s :=
  ⟨⟨I.ok.mod, I.ok.kind, I.ok.glob, I.ok.blt, I.ok.above, I.ok.inj, I.ok.has, I.ok.cab, fun z => absurd z (by simp), I.ok.frames, I.ok.stk, I.ok.exf, I.ok.bs, I.ok.bsz, I.ok.noex, I.ok.exfs, I.ok.funs, I.ok.frf⟩, I.os, I.bare, I.base, I.loc, I.cell, I.free, I.freeC, I.pin, I.hok, I.len⟩
theorem Inv.uninh {e : Value} (hc : X.Ok) (I : Inv (X.inh e) pins σ H s) : Inv X pins σ H s := ⟨hc, I.os, I.bare, I.base, I.loc, I.cell, I.free, I.freeC, I.pin, I.hok, I.len⟩
theorem Cx.Ok.tr (ok : X.Ok) (pl : List (Addr × Obj)) (xB : Value → Shared → Prop) : (X.tr pl xB).Ok :=
  ⟨ok.mod, ok.kind, ok.glob, ok.blt, ok.above, ok.inj, ok.has, ok.cab, ok.hd, ok.frames, ok.stk, ok.exf, ok.bs, ok.bsz, ok.noex, ok.exfs, ok.funs, ok.frf⟩
theorem Inv.tr (I : Inv X pins σ H s) (xB : Value → Shared → Prop) : Inv (X.tr (X.pn ++ pins) xB) [] σ H s :=
  ⟨I.ok.tr _ xB, I.os, I.bare, I.base, I.loc, I.cell, I.free, I.freeC, fun p hp => I.pin p (by simpa using hp), I.hok, I.len⟩
theorem Inv.untr {pl : List (Addr × Obj)} {xB : Value → Shared → Prop} (hc : X.Ok) (I : Inv (X.tr (X.pn ++ pl) xB) pins σ H s) : Inv X pl σ H s :=
  ⟨hc, I.os, I.bare, I.base, I.loc, I.cell, I.free, I.freeC, fun p hp => I.pin p (List.mem_append_left _ hp), I.hok, I.len⟩
theorem SP.map {Y : Cx} {pl : List (Addr × Obj)} {D : Ends} {f : Flow} {s' : Shared} (g : ∀ σ H, Inv Y pins σ H s' → Inv X pl σ H s') (h : SP Y pins D f s') : SP X pl D f s' := by
  cases f with
  | next => obtain ⟨σ', H', I, q⟩ := h; exact ⟨σ', H', g _ _ I, q⟩
  | brk => obtain ⟨σ', H', I, q⟩ := h; exact ⟨σ', H', g _ _ I, q⟩
  | cont => obtain ⟨σ', H', I, q⟩ := h; exact ⟨σ', H', g _ _ I, q⟩
  | ret u => obtain ⟨v, σ', H', I, r, q⟩ := h; exact ⟨v, σ', H', g _ _ I, r, q⟩
end
def tTry (C : Addr) (Ex : XK) (tb ts : TS) : TS := fun D σ H => tb D σ H ∧ ∀ σ' H', σ'.length = σ.length → Ex (.ref C) none H' → ts D σ' H'
theorem ps_try {X : Cx} {x : Str} {C : Addr} {Ex : XK} {body suite : List Stmt} {b₀ : Stmt} {np hpos pos : Pos} {tb ts : TS} (T : Top1 X) (hp : ∀ e, PassesOwnAt (model X.prog X.w) (X.A.mark (some e)) X.A X.env X.xe) (O : Exc X.K X.mg x C) (hg : Gl X x)
    (hb : ∀ pl xB, Passes (XN X.prog X.w C) (X.tr pl xB) Ex → PSs (X.tr pl xB) body tb) (hs : ∀ e, PSs (X.inh e) (b₀ :: suite) ts) (hd : (x == ("__debug__" : Str)) = false := by decide) :
    PS X (.Try body [.ExceptHandler (some (.Name x np)) none (b₀ :: suite) hpos] [] [] pos) (tTry C Ex tb ts) := by
  intro pins s σ H D I ⟨h1, h2⟩
  refine wpAny_Try_except ?_
  generalize hxB : (fun e s₁ => wpAny (model X.prog X.w) X.A (noteFrame e X.env) (fun _ s₂ => wpAny (model X.prog X.w) X.A (setFlight e none) (fun _ s₃ => wpAny (model X.prog X.w) X.A (handleBy e X.env [.ExceptHandler (some (.Name x np)) none (b₀ :: suite) hpos]) (SP X pins D) X.xe s₃) X.xe s₂) X.xe s₁ : Value → Shared → Prop) = xB
  have okX := I.ok
  have pass : Passes (XN X.prog X.w C) (X.tr (X.pn ++ pins) xB) Ex := by
    intro pins4 σ4 H4 s4 e s5 I4 h4
    obtain ⟨ea, a0, B, H', rfl, os, bare, un, hok, fl, r1, r2, r3, hE⟩ := h4
    have fl0 : Heap.FlyingW B (X.env :: X.outer) ea (.ref C) a0 s5.heap := by rw [← T.st]; exact fl
    show xB (.ref ea) s5
    rw [← hxB]
    have hfr : X.A.frames = some (X.env :: X.outer) := by rw [okX.frames, T.st]
    refine wpAny_looks_onW hfr T.fr fl0 fun h6 held sl6 => ?_
    refine wpAny_landsW held fun h7 fl7 sl7 => ?_
    have land : ∀ h', Heap.FlyingW B (X.env :: X.outer) ea (.ref C) a0 h' → s5.heap.UpToSlots h' → Inv X pins σ4 H' { s5 with heap := h' } := fun h' f' u' =>
      (I4.landed os bare un hok (by show Heap.FlyingW B X.stack ea (.ref C) a0 h'; rw [T.st]; exact f') u' r1 r2 r3).untr okX
    have I7 := land h7 fl7 (sl6.trans sl7)
    obtain ⟨ob, hob, hobc⟩ := fl7.there
    obtain ⟨bm, N, nm, qn, bs, hdct, sn, sub, ab, col, dd, k0, k1, k2, k3, k5, mN, hC, hN, hni, TL⟩ := exc_obj I7.kIn O.is
    refine wpAny_handleBy_cons (codeAny_handlers_test (ld_glob (I7.inh (.ref ea)) hg O.bound ?_ hd)) (by intro q; cases q)
    refine wpAny_excMatches_sub_self hC hob hobc (TL.hasType PySem.F.excBase_ValueError.hasBase) (codeAny_handlers_suite ?_)
    refine lands_againW fl7 fun h9 fl9 sl9 => ?_
    have I9 := land h9 fl9 ((sl6.trans sl7).trans sl9)
    have hl : σ4.length = σ.length := I4.len.trans I.len.symm
    exact wpAny_passesOwnAt (hp (.ref ea)) (thn (hs (.ref ea) pins _ σ4 H' D (I9.inh (.ref ea)) (h2 σ4 H' hl hE)) fun f s' q => q.map fun σ H J => J.uninh okX)
  have run := hb (X.pn ++ pins) xB pass [] s σ H D (I.tr xB) h1
  refine wpAny_mono run (fun f s1 q => ?_) (fun e s1 q => q)
  have q' : SP X pins D f s1 := q.map fun σ H J => J.untr okX
  cases f with
  | next => exact wpAny_execs_nil q'
  | brk => exact q'
  | cont => exact q'
  | ret v => exact q'
end L2
end
section
set_option linter.all false
set_option Elab.async false
set_option maxRecDepth 100000
namespace L2
open PySem PySem.Spec PyProof.Rows
/-! ### a dict of the module: int keys -/
def KD (K : PySem.W.Frag) (d : Addr) (kvs : List (Int × V)) : Prop := ∃ es ep, K.lookup d = some ⟨.type "dict", none, .dict es ep, #[]⟩ ∧ (d == sysModules) = false ∧ (kvs.map (·.1)).Nodup ∧
  Paired (fun (e : DictEntry) (kv : Int × V) => (∃ t, e.key = .int kv.1 t) ∧ e.hash = hashInt kv.1 ∧ RelV kv.2 e.val) es.toList kvs
def valI (kvs : List (Int × V)) (n : Int) : Option V := (kvs.find? fun kv => decide (kv.1 = n)).map (·.2)
theorem kd_rel {P : Program} {w : World} : ∀ {es : List DictEntry} {kvs : List (Int × V)}, Paired (fun (e : DictEntry) (kv : Int × V) => (∃ t, e.key = .int kv.1 t) ∧ e.hash = hashInt kv.1 ∧ RelV kv.2 e.val) es kvs →
    (∀ e ∈ es, ∃ k, (mixKind P w).is k e.key = true ∧ e.hash = (mixKind P w).hash k) ∧ ∃ vs : List (Key × Value), Pairs (mixKind P w) es vs ∧ KV (kvs.map fun kv => ((Sum.inl kv.1 : Key), kv.2)) vs ∧ vs.map (·.1) = kvs.map fun kv => (Sum.inl kv.1 : Key)
  | _, _, .nil => ⟨by simp, [], .nil, .nil, rfl⟩
  | _, _, .cons (a := e) (b := kv) h t => by
    obtain ⟨⟨tk, hk⟩, hh, hv⟩ := h
    obtain ⟨h1, vs, h2, h3, h4⟩ := kd_rel (P := P) (w := w) t
    have is : (mixKind P w).is (Sum.inl kv.1) e.key = true := by rw [hk]; exact mixKind_int P w kv.1 tk
    refine ⟨fun x hx => ?_, (Sum.inl kv.1, e.val) :: vs, .cons is rfl h2, .cons ⟨rfl, hv⟩ h3, by simp [h4]⟩
    rcases List.mem_cons.mp hx with rfl | hx
    · exact ⟨Sum.inl kv.1, is, hh⟩
    · exact h1 x hx
theorem nodup_inl : ∀ {l : List Int}, l.Nodup → (l.map fun n => (Sum.inl n : Key)).Nodup
  | [], _ => List.nodup_nil
  | a :: r, h => by
    obtain ⟨h1, h2⟩ := List.nodup_cons.mp h
    rw [List.map_cons]
    refine List.nodup_cons.mpr ⟨fun m => h1 ?_, nodup_inl h2⟩
    obtain ⟨b, hb, e⟩ := List.mem_map.mp m
    cases e
    exact hb
theorem KD.dict {X : Cx} {pins : List (Addr × Obj)} {σ : St} {H : Hp} {s : Shared} {d : Addr} {kvs : List (Int × V)} (I : Inv X pins σ H s) (h : KD X.K d kvs) :
    (d == sysModules) = false ∧ ∃ vs, KV (kvs.map fun kv => ((Sum.inl kv.1 : Key), kv.2)) vs ∧ s.heap.DictOf (mixKind X.prog X.w) d vs := by
  obtain ⟨es, ep, lk, hd, nd, pr⟩ := h
  obtain ⟨h1, vs, h2, h3, h4⟩ := kd_rel (P := X.prog) (w := X.w) pr
  refine ⟨hd, vs, h3, _, es, ep, I.kIn d _ lk, ⟨rfl, rfl, rfl⟩, rfl, fun e he => h1 e (by simpa using he), h2, ?_⟩
  rw [h4]
  have := nodup_inl nd
  rw [List.map_map] at this
  exact this
theorem valI_valV (kvs : List (Int × V)) (n : Int) : valV (kvs.map fun kv => ((Sum.inl kv.1 : Key), kv.2)) (Sum.inl n) = valI kvs n := by
  unfold valV valI
  induction kvs with
  | nil => rfl
  | cons p r ih =>
    rw [List.map_cons, List.find?_cons, List.find?_cons]
    by_cases e : p.1 = n
    · have a : decide ((Sum.inl p.1 : Key) = Sum.inl n) = true := decide_eq_true (by rw [e])
      have b : decide (p.1 = n) = true := decide_eq_true e
      simp only [a, b]
      rfl
    · have a : decide ((Sum.inl p.1 : Key) = Sum.inl n) = false := decide_eq_false fun q => e (Sum.inl.inj q)
      have b : decide (p.1 = n) = false := decide_eq_false e
      simp only [a, b]
      exact ih
def tKIn (K : PySem.W.Frag) (ty td : TE) : TE := fun σ H Q => ty σ H fun y H1 => td σ H1 fun x H2 => ∃ d kvs n, x = .ref d ∧ KD K d kvs ∧ y = .int n ∧ Q (.bl (valI kvs n).isSome) H2
def tKGet (K : PySem.W.Frag) (td ty : TE) : TE := fun σ H Q => td σ H fun x H1 => ty σ H1 fun y H2 => ∃ d kvs n v, x = .ref d ∧ KD K d kvs ∧ y = .int n ∧ valI kvs n = some v ∧ Q v H2
section
variable {X : Cx} {o i e : Expr} {pos : Pos} {td ty : TE}
theorem pc_kin (hi : PE X i ty) (ho : PE X o td) : PC X .In i o (tKIn X.K ty td) := by
  intro pins s σ H Q I h
  refine thn (hi pins s σ H _ I h) fun iv s1 ⟨y, H1, I1, ry, q1⟩ => thn (ho pins s1 σ H1 _ I1 q1) fun u s2 ⟨x, H2, I2, rx, d, kvs, n, ex, kd, ey, q2⟩ => ?_
  subst ex ey
  obtain rfl : u = Value.ref d := rx
  obtain ⟨hd, vs, rel, dd⟩ := kd.dict I2
  refine wpAny_in_of (kV_is (k := Sum.inl n) ry) hd dd.mapOf ?_
  have e := (rel.val (Sum.inl n)).isSome_eq
  rw [valI_valV] at e
  rw [← e]
  exact ⟨.bl (valI kvs n).isSome, H2, I2.tok _, rfl, q2⟩
theorem pe_kget (ho : PE X o td) (hi : PE X i ty) (hs : NoSl i) : PE X (.Subscript o i pos) (tKGet X.K td ty) := by
  intro pins s σ H Q I h
  refine subD_of PySem.F.slot_dict_getitem.lookup hs (thn (ho pins s σ H _ I h) fun u s1 ⟨x, H1, I1, rx, q1⟩ => thn (hi pins s1 σ H1 _ I1 q1) fun iv s2 ⟨y, H2, I2, ry, d, kvs, n, v, ex, kd, ey, hv, q2⟩ => ?_)
  subst ex ey
  obtain rfl : u = Value.ref d := rx
  obtain ⟨hd, vs, rel, dd⟩ := kd.dict I2
  obtain ⟨w', hw, rw'⟩ := RelO.some_of (v := v) (o := valueAt vs (Sum.inl n)) (by have := rel.val (Sum.inl n); rw [valI_valV, hv] at this; exact this)
  exact ⟨dd.typeIs, wpAny_getItem_of (kV_is (k := Sum.inl n) ry) dd.mapOf hw ⟨v, H2, I2.tok _, rw', q2⟩⟩
/-! ### texts -/
theorem mt_zfill : MtR X "str.zfill" (fun x xs H Q => ∃ a i, x = .str a ∧ xs = [.int i] ∧ PadOk i = true ∧ Q (.str (Txt.zfill a i)) H) := by
  intro pins s σ H x xs v us Q I rx rs h
  obtain ⟨a, i, rfl, rfl, hp, h⟩ := h
  obtain ⟨t, rfl⟩ := rx
  cases rs with
  | cons r1 rs =>
    cases rs
    obtain ⟨u, rfl⟩ := r1
    exact PySem.SC.zfill hp fun t' k => ⟨.str (Txt.zfill a i), H, I.tok k, ⟨t', rfl⟩, h⟩
/-- f"words{e}", e an int -/
def tFStr (x : Str) (te : TE) : TE := fun σ H Q => te σ H fun v H1 => ∃ i, v = .int i ∧ i.natAbs.log2 < 1920 ∧ x.length + (toString i : Str).length ≤ sizeLine ∧ Q (.str (x ++ (toString i : Str))) H1
theorem pe_fstr {x : Str} {j : Nat} {p1 p2 : Pos} {te : TE} (he : PE X e te) (hx : x.length ≤ sizeLine := by decide +kernel) : PE X (.JoinedStr [.Constant (.str x) j p1, .FormattedValue e (-1) none p2] pos) (tFStr x te) := by
  intro pins s σ H Q I h
  refine JoinedStr_many (joinParts_cons (Calls.Constant_str ?_))
  show _ ∧ _
  rw [Str.empty_append]
  refine ⟨hx, joinParts_cons (FormattedValue_plain (thn (he pins _ σ H _ (I.tok _) h) fun v s1 ⟨y, H1, I1, r1, i, ey, hl, hz, q⟩ => ?_))⟩
  subst ey
  obtain ⟨t, rfl⟩ := r1
  refine formatField_int_small hl ?_
  have hl2 : (x ++ Str.ofString (toString i)).length ≤ sizeLine := by rw [strLen_append]; exact hz
  exact ⟨hl2, joinParts_nil ⟨.str (x ++ Str.ofString (toString i)), H1, (I1.tok _).tok _, ⟨_, rfl⟩, q⟩ hl2⟩
end
end L2
end
section
set_option linter.all false
set_option Elab.async false
set_option maxRecDepth 100000
namespace L2
open PySem PySem.Spec PyProof.Rows
/-! ### a comprehension whose element may raise -/
theorem ff_move {h h' B B' : Heap} (hb : ∀ b, B.get? b = none → B'.get? b = none) (hk : ∀ b o, B.get? b = none → h.get? b = some o → h'.get? b = some o) : ∀ {l : List Env}, h.FunFrames B l → h'.FunFrames B' l
  | [], _ => trivial
  | _ :: _, ⟨k, ⟨L, o, hf, hn, ho, hd⟩, hr⟩ => ⟨k, ⟨L, o, hf, hb L hn, hk L o hn ho, hd⟩, ff_move hb hk hr⟩
theorem hide_none {h : Heap} {as : List Addr} {b : Addr} (e : h.get? b = none) : (PySem.W.hideAll h as).get? b = none := by
  cases q : (PySem.W.hideAll h as).get? b with
  | none => rfl
  | some o =>
    have := PySem.W.of_hideAll _ q
    rw [e] at this
    cases this
section
variable {X : Cx}
/-- an exception of a call in the block's turn: noted, the block's names let go, handed on, out of the frame -/
theorem block_pass {pins : List (Addr × Obj)} {σ : St} {H3 : Hp} {s3 : Shared} {scope : Scope} {ce : Env} {fp : List Addr} {C D : Addr} {Ex : XK} {use : Option (Value → Sem Unit)} {Qf : Value → Shared → Prop} {xB : Value → Shared → Prop} (T : Top1 X)
    (hxe : ∀ e s', wpAny (model X.prog X.w) X.A (leaving X.env e) (fun _ s'' => XN X.prog X.w C X.outer X.H₀ X.s₀ Ex e s'') (fun e' s'' => XN X.prog X.w C X.outer X.H₀ X.s₀ Ex e' s'') s' → X.xe e s')
    (I3 : Inv X pins σ H3 s3) (hfp : ∀ b ∈ fp, X.s₀.heap.objs.size ≤ b) (hcf : ce.frame = X.env.frame) (hcl : ce.locals = s3.heap.objs.size)
    (hxB : xB = notedBy (model X.prog X.w) X.A ce (fun e s' => compPost (model X.prog X.w) X.A X.xe use Qf (.ref D) s3.heap.objs.size (.error e) s')) :
    Passes (XN X.prog X.w C) ((X.blk s3 H3 scope ce fp).wish xB) Ex := by
  intro pins4 σ4 H4 s4 e s5 I4 h4
  obtain ⟨ea, a0, B, H', rfl, os, bare, un, hok, fl, r1, r2, r3, hE⟩ := h4
  have un : Un (frs X.stack) [] H4 H' s4.heap s5.heap := un
  have fl0 : Heap.FlyingW B (X.env :: X.outer) ea (.ref C) a0 s5.heap := by rw [← T.st]; exact fl
  have hfr : X.A.frames = some (X.env :: X.outer) := by rw [I3.ok.frames, T.st]
  show xB (.ref ea) s5
  rw [hxB]
  have en : noteFrame (.ref ea) ce = noteFrame (.ref ea) X.env := by
    unfold noteFrame PySem.frameOf
    rw [hcf]
  show wpAny _ _ (noteFrame (.ref ea) ce) _ _ s5
  rw [en]
  refine wpAny_looks_onW hfr T.fr fl0 fun h6 held sl6 => ?_
  -- the block's namespace
  obtain ⟨m, ⟨o4, es, ep, ho4, rest⟩, _⟩ := I4.loc
  have ho4 : s4.heap.get? s3.heap.objs.size = some o4 := by rw [← hcl]; exact ho4
  have nC : H4 s3.heap.objs.size = none := by rw [← hcl]; exact I4.free
  have nS : s3.heap.objs.size ∉ frs X.stack := fun z => by
    obtain ⟨_, o', ho', _⟩ := I3.stack.mem z
    exact absurd (Heap.lt_size ho') (Nat.lt_irrefl _)
  have bC : B.get? s3.heap.objs.size = some o4 := r2 _ _ ho4 nC nS
  refine ⟨m, ⟨o4, es, ep, held.1 _ _ bC, rest⟩, fun h7 sb cenv hcenv => ?_⟩
  have ne : ∀ b, B.get? b = none → b ≠ s3.heap.objs.size := fun b q z => by rw [z, bC] at q; cases q
  have k7 : (PySem.W.hideAll B [s3.heap.objs.size]).StaysIn h7 := fun b o hb => by
    have hB := PySem.W.of_hideAll _ hb
    refine (sb.2 b fun z => ?_).trans (held.1 b o hB)
    rw [z, PySem.W.hideAll_none _ (by simp)] at hb
    cases hb
  have f7 : h7.FunFrames (PySem.W.hideAll B [s3.heap.objs.size]) (X.env :: X.outer) := ff_move (fun b q => hide_none q) (fun b o q e => (sb.2 b (ne b q)).trans e) held.2.2.1
  have e7 : (PySem.W.hideAll B [s3.heap.objs.size]).get? ea = none := hide_none held.2.1
  have t7 : h7.TracedAtW (PySem.W.hideAll B [s3.heap.objs.size]) ea (.ref C) a0 (rawInt X.env.locals) := by
    obtain ⟨oe, vs, T, oT, ts, he, hc, hd, h1, hnT, hTe, hT, hdT, h3⟩ := held.2.2.2
    exact ⟨oe, vs, T, oT, ts, (sb.2 ea (ne ea held.2.1)).trans he, hc, hd, h1, hide_none hnT, hTe, (sb.2 T (ne T hnT)).trans hT, hdT, h3⟩
  refine Fl.pass_on (s := { s5 with heap := h7 }) k7 f7 t7 fun h8 fl8 k8 f8 t8 sl8 => hxe _ _ ?_
  refine Fl.leave_any (s := { s5 with heap := h8 }) hfr T.fr k8 e7 f8 t8 fun h9 fl9 sl9 => ?_
  have b4 : Un (frs X.stack) fp H3 H4 s3.heap s4.heap := I4.base
  have os4 : s4.os = s3.os := I4.os
  have lt3 : ∀ b u, s3.heap.get? b = some u → b ≠ s3.heap.objs.size := fun b u q => Nat.ne_of_lt (Heap.lt_size q)
  have hC' : H' s3.heap.objs.size = none := un.free _ o4 ho4 nC (by simp)
  have hid : ∀ b u, b ≠ s3.heap.objs.size → B.get? b = some u → (PySem.W.hideAll B [s3.heap.objs.size]).get? b = some u := fun b u hb q => PySem.W.hideAll_get _ q (by simp [hb])
  refine fly_out (s' := s5) (ch := fp) I3 T hfp (os.trans os4) bare (b4.trans (un.mono (fun _ z => z) (by simp))) hok fl9 (fun b o hb q hd => ?_) (fun b u hb q => hid b u (fun z => hb (by rw [z]; exact hC')) (r1 b u hb q))
    (fun b u q n hb hx => hid b u (lt3 b u q) (r2 b u (b4.keep b u q n hb hx) (b4.free b u q n hx) hb)) (fun b u q hx => ?_) hE
  · obtain ⟨s1, e1⟩ := sl6 b o q hd
    have hb' : B.get? b = none := by
      have : b ∈ frs (X.env :: X.outer) := by unfold frs; rw [List.filterMap_cons, T.fr]; exact List.mem_cons_of_mem _ hb
      exact (fl0.2.2.1.mem this).1
    have e2 := (sb.2 b (ne b hb')).trans e1
    obtain ⟨s3', e3⟩ := sl8 b _ e2 hd
    obtain ⟨s4', e4⟩ := sl9 b _ e3 hd
    exact ⟨s4', e4⟩
  · obtain ⟨o1, e1⟩ := b4.there b u q hx
    rcases r3 b o1 e1 with z | ⟨u', z⟩
    · exact .inl z
    · exact .inr ⟨u', hid b u' (lt3 b u q) z⟩
theorem lc_coreX {pins : List (Addr × Obj)} {s : Shared} {σ : St} {H : Hp} {Q : VK} {elt tg iter : Expr} {ifs : List Expr} {scope : Scope} {own : List (Str × Nat)} {pos pos' : Pos} {wi : TI} {g : TG} {tt : TT} {te : TE} {use : Option (Value → Sem Unit)} {Qf : Value → Shared → Prop} {Cx' : Addr} {Ex : XK} (T1 : Top1 X)
    (hxe : ∀ e s', wpAny (model X.prog X.w) X.A (leaving X.env e) (fun _ s'' => XN X.prog X.w Cx' X.outer X.H₀ X.s₀ Ex e s'') (fun e' s'' => XN X.prog X.w Cx' X.outer X.H₀ X.s₀ Ex e' s'') s' → X.xe e s')
    (hc : X.calm = true) (hN : X.N.Nodup) (I : Inv X pins σ H s) (hi : PI X tg iter wi) (ok : BlkOk X.N X.env.scope scope own)
    (hg : ∀ (s : Shared) (H : Hp) (C : Addr) (cl : List (Str × Addr)) (fp : List Addr) (xB : Value → Shared → Prop), PG ((X.blk s H scope (compEnvC scope cl C X.env) fp).wish xB) tg g) (ht : ∀ (s : Shared) (H : Hp) (C : Addr) (cl : List (Str × Addr)) (fp : List Addr) (xB : Value → Shared → Prop), PTs ((X.blk s H scope (compEnvC scope cl C X.env) fp).wish xB) ifs tt)
    (he : ∀ (s : Shared) (H : Hp) (C : Addr) (cl : List (Str × Addr)) (fp : List Addr) (xB : Value → Shared → Prop), Passes (XN X.prog X.w Cx') ((X.blk s H scope (compEnvC scope cl C X.env) fp).wish xB) Ex → PE ((X.blk s H scope (compEnvC scope cl C X.env) fp).wish xB) elt te) (hs : ∀ x, foldedSetIterable iter X.env x = pure x)
    (h : tLc wi g tt te (own.map (·.2)) σ H Q)
    (hRR : ∀ D C s' m H', Inv X pins σ H' s' → Q (.ref D) H' → s'.heap.Ns C m → FpOk X pins H' C → compPost (model X.prog X.w) X.A X.xe use Qf (.ref D) C (.ok .next) s') :
    wpAny (model X.prog X.w) X.A (comprehension (.ListComp elt [⟨tg, iter, ifs, 0⟩] scope pos) scope X.env pos' (newList []) false (eval iter X.env) use) Qf X.xe s := by
  have hfree : ∀ y ∈ scope.names, y.2 = .free → ∃ c, X.env.cells.lookup y.1 = some c := fun y hy e => by
    rcases ok.free y hy e with k | k
    · exact I.ok.has _ (.inl k)
    · exact I.ok.has _ (.inr k)
  refine wpAny_comprehension_free (use := use) rfl hs (closure_ok hfree) ok.kind (fun y hy e => by rw [ok.uniq y hy, e])
    (thn (hi pins s σ H _ I h) fun xv s1 hx => thn hx fun itv s2 h2 => ?_)
  obtain ⟨it, fp, tn, J, H2, e, I2, T, st2, f2, q⟩ := h2
  subst e
  refine wpAny_newObj_type (newEnv_comp ?_) (by show 0 ≤ sizeLine; decide)
  generalize hD : s2.heap.objs.size = D
  have hDn : H2 D = none := I2.hok.fresh (Nat.le_of_eq hD)
  obtain ⟨W, ⟨m0, w0⟩, turn⟩ := q D hDn
  generalize hs3 : ({ s2 with heap := s2.heap.push { cls := .type "list", data := .seq ([] : List Value).toArray } } : Shared) = s3
  have I3 : Inv X pins σ (upd H2 D (.lst [])) s3 := by
    rw [← hs3]
    refine I2.laid (t' := s2.toks) (fun b o e => Heap.get?_push_of_some _ e) (Nat.le_of_eq hD) ⟨Nat.zero_le _, [], 0, .nil, ?_⟩
    rw [← hD]
    exact Heap.get?_push_size _ rfl
  have h3 : s3.heap = s2.heap.push { cls := .type "list", data := .seq ([] : List Value).toArray } := by rw [← hs3]
  have sz : ∀ b ∈ fp, b < s2.heap.objs.size := fun b hb => by
    obtain ⟨o, e, _⟩ := T.obj _ _ st2 b hb
    exact Heap.lt_size e
  have f3 : ∀ b ∈ fp, FpOk X pins (upd H2 D (.lst [])) b ∧ b < s3.heap.objs.size := fun b hb => by
    have hlt := sz b hb
    refine ⟨⟨?_, (f2 b hb).2⟩, by rw [h3, Heap.size_push]; exact Nat.lt_succ_of_lt hlt⟩
    rw [upd_ne (by rw [← hD]; exact Nat.ne_of_lt hlt)]
    exact (f2 b hb).1
  have st3 : tn 0 s3.heap := T.keep _ _ _ st2 fun b _ o e => by rw [h3]; exact Heap.get?_push_of_some _ e
  have I4 := block_start I3 ok hN f3
  have hfp : ∀ b ∈ fp, X.s₀.heap.objs.size ≤ b := fun b hb => by
    rcases (f3 b hb).1.2.2.2.1 with z | z
    · rw [T1.ex] at z; exact absurd z (by simp)
    · exact z
  generalize hce : compEnvC scope (cellsFrom (s3.heap.objs.size + 1) scope.names (cloFrom X.env.cells scope.names [])) s3.heap.objs.size X.env = ce at I4
  have cL : ce.locals = s3.heap.objs.size := by subst hce; rfl
  have cF : ce.frame = X.env.frame := by subst hce; rfl
  generalize hxB : notedBy (model X.prog X.w) X.A ce (fun e s' => compPost (model X.prog X.w) X.A X.xe use Qf (.ref D) s3.heap.objs.size (.error e) s') = xB
  have pass := block_pass (scope := scope) (D := D) (use := use) (Qf := Qf) T1 hxe I3 hfp cF cL hxB.symm
  have pg : PG ((X.blk s3 (upd H2 D (.lst [])) scope ce fp).wish xB) tg g := by rw [← hce]; exact hg s3 _ _ _ fp xB
  have pt : PTs ((X.blk s3 (upd H2 D (.lst [])) scope ce fp).wish xB) ifs tt := by rw [← hce]; exact ht s3 _ _ _ fp xB
  have pe : PE ((X.blk s3 (upd H2 D (.lst [])) scope ce fp).wish xB) elt te := by
    rw [← hce] at pass ⊢
    exact he s3 _ _ _ fp xB pass
  show codeAny _ _ (.compStart (.ListComp elt [⟨tg, iter, ifs, 0⟩] scope pos) 0 (.ref it) (.ref D) (compEnvC scope (cellsFrom (s3.heap.objs.size + 1) scope.names (cloFrom X.env.cells scope.names [])) s3.heap.objs.size X.env)) (compPost (model X.prog X.w) X.A X.xe use Qf (.ref D) s3.heap.objs.size) { s3 with heap := pushCells (s3.heap.push { cls := .type "dict", data := .dict #[] }) scope.names }
  rw [hce]
  have I4 := I4.wish xB
  have nfp : ∀ b ∈ fp, (upd H2 D (.lst [])) b = none := fun b hb => (f3 b hb).1.1
  generalize hH3 : upd H2 D (.lst []) = H3 at I3 I4 pg pt pe w0 nfp f3
  generalize hs4 : ({ s3 with heap := pushCells (s3.heap.push { cls := .type "dict", data := .dict #[] }) scope.names } : Shared) = s4 at I4 ⊢
  have st4 : tn 0 s4.heap := T.keep _ _ _ st3 fun b _ o e => by rw [← hs4]; exact pushCells_keeps _ _ _ _ (Heap.get?_push_of_some _ e)
  have stat : ∀ {σ' : St} {H' : Hp} {s' : Shared}, Inv ((X.blk s3 H3 scope ce fp).wish xB) [] σ' H' s' → (∀ b ∈ fp, H' b = none) → ∀ b ∈ fp, FpOk ((X.blk s3 H3 scope ce fp).wish xB) [] H' b := fun {σ' H' s'} I' hn b hb =>
    ⟨hn b hb, (I'.ok.exf b hb).1, I'.ok.exfs b hb, .inl hb, fun x c e => (I'.ok.exf b hb).2 x c e, fun p hp => absurd (show p ∈ ([] : List (Addr × Obj)) ++ [] from hp) (by simp)⟩
  have loop : codeAny (model X.prog X.w) X.A (.compLoop (.ListComp elt [⟨tg, iter, ifs, 0⟩] scope pos) 0 (.ref it) (.ref D) ce) (compPost (model X.prog X.w) X.A X.xe use Qf (.ref D) s3.heap.objs.size) s4 := by
    refine compLoop_any (fun n s' => ∃ i H', Inv ((X.blk s3 H3 scope ce fp).wish xB) [] (wipe σ (own.map (·.2))) H' s' ∧ tn i s'.heap ∧ (∀ b ∈ fp, H' b = none) ∧ W i n H') ?_ m0 ⟨0, H3, I4, st4, nfp, w0⟩
    rw [hxB]
    rintro n s5 ⟨i, H5, I5, st5, n5, w5⟩
    rcases turn i n H5 w5 with ⟨stop, qq⟩ | ⟨go, Nx, hNx, step⟩
    · have td := T.done ((X.blk s3 H3 scope ce fp).wish xB) rfl rfl rfl hc i [] s5 _ H5 (fun _ _ => False) I5 (stat I5 n5) st5 stop
      refine thnF td fun r s6 ⟨hr, I6⟩ => ?_
      subst hr
      have I7 : Inv X pins σ H5 s6 := I3.call' (ch := fp) I6.os I6.base I6.hok I6.bare fun b hb => ⟨(f3 b hb).1.2.2.2.1, (f3 b hb).1.2.1, (f3 b hb).1.2.2.2.2.1, (f3 b hb).1.2.2.2.2.2⟩
      have nC : H5 s3.heap.objs.size = none := by
        have z : H5 ce.locals = none := I6.free
        rw [cL] at z
        exact z
      obtain ⟨m, hn, _⟩ := I6.loc
      have hn : s6.heap.Ns ce.locals m := hn
      rw [cL] at hn
      exact hRR D s3.heap.objs.size s6 m H5 I7 qq hn (I3.fpOk (Nat.le_refl _) nC)
    · have ti := T.item ((X.blk s3 H3 scope ce fp).wish xB) rfl rfl rfl hc i [] s5 _ H5 (fun _ _ => False) I5 (stat I5 n5) st5 go
      refine thnF ti fun r s6 ⟨u, hr, h6⟩ => ?_
      subst hr
      refine thnF h6 fun _ s7 ⟨x, H7, I7, r7, y7, st7, n7⟩ => ?_
      have I7' := I7.pinned (stat I7 n7) (T.obj _ _ st7)
      refine thn (pg _ s7 _ H7 x u _ I7' r7 (step x H7 y7)) fun _ s8 ⟨σ8, H8, I8, hw8, q8⟩ => ?_
      refine thn (pt _ s8 σ8 H8 _ I8 q8) fun b s9 ⟨H9, I9, q9⟩ => ?_
      have fin : ∀ {s' : Shared} {H' : Hp}, Inv ((X.blk s3 H3 scope ce fp).wish xB) ([] ++ pinsAt fp s7.heap) σ8 H' s' → Nx H' → ∃ m, m < n ∧ ∃ i H', Inv ((X.blk s3 H3 scope ce fp).wish xB) [] (wipe σ (own.map (·.2))) H' s' ∧ tn i s'.heap ∧ (∀ b ∈ fp, H' b = none) ∧ W i m H' := fun {s' H'} I' nx => by
        obtain ⟨m', hm, w'⟩ := hNx H' nx
        have pin' : ∀ b ∈ fp, ∀ o, s7.heap.get? b = some o → s'.heap.get? b = some o ∧ H' b = none := fun b hb o e =>
          let z := I'.pin (b, o) (List.mem_append_right _ (List.mem_append_right _ (mem_pinsAt hb e)))
          ⟨z.1, z.2.1⟩
        have hl : (wipe σ (own.map (·.2))).length = σ8.length := by rw [← hw8, wipe_length]
        refine ⟨m', hm, i + 1, H', (I'.unpinned (pins := [])).weak hl (fun j v e => ?_), T.keep _ _ _ st7 fun b hb o e => (pin' b hb o e).1, fun b hb => ?_, w'⟩
        · rw [← hw8] at e
          exact (wipe_some e).1
        · obtain ⟨o, e, _⟩ := T.obj _ _ st7 b hb
          exact (pin' b hb o e).2
      cases b with
      | false =>
        simp only [Bool.false_eq_true, if_false] at q9 ⊢
        exact fin I9 q9
      | true =>
        simp only [if_true] at q9 ⊢
        refine thn (pe _ s9 σ8 H9 _ I9 q9) fun z s10 ⟨yv, H10, I10, r10, acc, hD10, hz10, nx⟩ => ?_
        exact app_ok (X := (X.blk s3 H3 scope ce fp).wish xB) I10 hD10 hz10 r10 fun s11 I11 => fin I11 nx
  exact codeAny_compStart_list loop (T.self X.A 0 _ _ _ st4 loop)
/-- name = [..] on one line, the name a local, the element may raise -/
theorem ps_setLcX {i : Nat} {y : Str} {py : Pos} {elt tg iter : Expr} {ifs : List Expr} {scope : Scope} {own : List (Str × Nat)} {pos spos : Pos} {wi : TI} {g : TG} {tt : TT} {te : TE} {Cx' : Addr} {Ex : XK} (T1 : Top1 X)
    (hxe : ∀ e s', wpAny (model X.prog X.w) X.A (leaving X.env e) (fun _ s'' => XN X.prog X.w Cx' X.outer X.H₀ X.s₀ Ex e s'') (fun e' s'' => XN X.prog X.w Cx' X.outer X.H₀ X.s₀ Ex e' s'') s' → X.xe e s')
    (hc : X.calm = true) (hN : X.N.Nodup) (hy : X.N[i]? = some y) (hyl : X.env.scope.names.lookup y = some .local)
    (hsw : swapsWith (.ListComp elt [⟨tg, iter, ifs, 0⟩] scope pos) (some (.Name y py)) spos.line X.env = pure true) (hi : PI X tg iter wi) (ok : BlkOk X.N X.env.scope scope own)
    (hg : ∀ (s : Shared) (H : Hp) (C : Addr) (cl : List (Str × Addr)) (fp : List Addr) (xB : Value → Shared → Prop), PG ((X.blk s H scope (compEnvC scope cl C X.env) fp).wish xB) tg g) (ht : ∀ (s : Shared) (H : Hp) (C : Addr) (cl : List (Str × Addr)) (fp : List Addr) (xB : Value → Shared → Prop), PTs ((X.blk s H scope (compEnvC scope cl C X.env) fp).wish xB) ifs tt)
    (he : ∀ (s : Shared) (H : Hp) (C : Addr) (cl : List (Str × Addr)) (fp : List Addr) (xB : Value → Shared → Prop), Passes (XN X.prog X.w Cx') ((X.blk s H scope (compEnvC scope cl C X.env) fp).wish xB) Ex → PE ((X.blk s H scope (compEnvC scope cl C X.env) fp).wish xB) elt te) (hs : ∀ x, foldedSetIterable iter X.env x = pure x := by intro _; rfl) :
    PS X (.Assign [.Name y py] (.ListComp elt [⟨tg, iter, ifs, 0⟩] scope pos) spos) (tAsg (tLc wi g tt te (own.map (·.2))) (gName i)) := by
  intro pins s σ H D I h
  rw [exec_Assign_Name_used _ _ _ _ hsw]
  refine wpAny_bind (wpAny_standAt (wpAny_bind ?_))
  show wpAny _ X.A (do let _ ← comprehension (.ListComp elt [⟨tg, iter, ifs, 0⟩] scope pos) scope X.env (firstIterPos [⟨tg, iter, ifs, 0⟩] pos) (newList []) false (eval iter X.env) (some (assign (.Name y py) X.env))) _ _ s
  have h : tLc wi g tt te (own.map (·.2)) σ H (fun x H1 => gName i x σ H1 D.nx) := h
  refine wpAny_bind (thn (lc_coreX (Qf := fun _ s' => SP X pins D .next s') T1 hxe hc hN I hi ok hg ht he hs h fun L C s' m H' I' q hn f => ?_) fun _ s' hq => wpAny_pure (wpAny_pure hq))
  show wpAny _ _ (assign (.Name y py) X.env (.ref L)) _ _ _
  refine wpAny_assign_Name (store_ok2 (v := V.ref L) I' hN hy (.inl hyl) rfl (fun s2 I2 ⟨a, sb, ha⟩ => ?_) (.inr hyl))
  obtain ⟨f0, f1, f2, f3, f4, f5⟩ := f
  have haC : C ≠ a := by
    rcases ha with z | z
    · rw [z]; exact f1
    · exact fun e => f4 y a z e.symm
  refine ⟨m, hn.sameBut sb haC, fun h3 sb3 => ?_⟩
  exact ⟨_, H', I2.turned (t' := s2.toks) (fun b o hb e => (sb3.2 b hb).trans e) f0 f1 f3 f4 f5, q⟩
end
end L2
end
section
set_option linter.all false
set_option autoImplicit false
namespace Ma
open Sp08
/-! ### A name: the fuel of the specification is enough -/
theorem nameIn_mono {m : Bytes} : ∀ {k s p : Nat} {x : Name × Nat}, nameIn m k s p = some x → nameIn m (k + 1) s p = some x
  | 0, _, _, _, h => by simp [nameIn] at h
  | k + 1, s, p, x, h => by
    rw [nameIn] at h ⊢
    cases hp : m[p]? with
    | none => rw [hp] at h; simp at h
    | some c =>
      rw [hp] at h
      simp only at h ⊢
      by_cases h0 : c.toNat = 0
      · rw [if_pos h0] at h ⊢; exact h
      · rw [if_neg h0] at h ⊢
        by_cases h1 : c.toNat < 64
        · rw [if_pos h1] at h ⊢
          by_cases h2 : ((m.drop (p + 1)).take c.toNat).length < c.toNat
          · rw [if_pos h2] at h; simp at h
          · rw [if_neg h2] at h ⊢
            cases hr : nameIn m k s (p + 1 + c.toNat) with
            | none => rw [hr] at h; simp at h
            | some y => rw [hr] at h; rw [nameIn_mono hr]; exact h
        · rw [if_neg h1] at h ⊢
          by_cases h2 : 192 ≤ c.toNat
          · rw [if_pos h2] at h ⊢
            cases hd : m[p + 1]? with
            | none => rw [hd] at h; simp at h
            | some d =>
              rw [hd] at h
              simp only at h ⊢
              by_cases h3 : (c.toNat - 192) * 256 + d.toNat < s
              · rw [if_pos h3] at h ⊢
                cases hr : nameIn m k ((c.toNat - 192) * 256 + d.toNat) ((c.toNat - 192) * 256 + d.toNat) with
                | none => rw [hr] at h; simp at h
                | some y => rw [hr] at h; rw [nameIn_mono hr]; exact h
              · rw [if_neg h3] at h; simp at h
          · rw [if_neg h2] at h; simp at h
theorem nameIn_le {m : Bytes} {k k' s p : Nat} {x : Name × Nat} (hk : k ≤ k') (h : nameIn m k s p = some x) : nameIn m k' s p = some x := by
  induction k' with
  | zero =>
    have : k = 0 := by omega
    subst this; exact h
  | succ j ih =>
    by_cases e : k = j + 1
    · subst e; exact h
    · exact nameIn_mono (ih (by omega))
/-- where the labels from a place lead: 0 to an end (or nowhere), else one more than the place that their pointer names -/
def key (m : Bytes) : Nat → Nat → Nat
  | 0, _ => 0
  | k + 1, p => match m[p]? with
    | none => 0
    | some c => if c.toNat = 0 then 0 else if c.toNat < 64 then key m k (p + 1 + c.toNat) else if 192 ≤ c.toNat then (match m[p + 1]? with
      | none => 0
      | some d => (c.toNat - 192) * 256 + d.toNat + 1) else 0
theorem key_step {m : Bytes} : ∀ {k p : Nat}, m.length ≤ p + k → key m k p = key m (k + 1) p
  | 0, p, h => by
    have e : m[p]? = none := List.getElem?_eq_none (by omega)
    rw [key, key, e]
  | k + 1, p, h => by
    rw [key, key]
    cases hp : m[p]? with
    | none => rfl
    | some c =>
      simp only
      by_cases h0 : c.toNat = 0
      · rw [if_pos h0, if_pos h0]
      · rw [if_neg h0, if_neg h0]
        by_cases h1 : c.toNat < 64
        · rw [if_pos h1, if_pos h1]
          exact key_step (by omega)
        · rw [if_neg h1, if_neg h1]
abbrev Key (m : Bytes) (p : Nat) : Nat := key m m.length p
theorem Key_label {m : Bytes} {p : Nat} {c : UInt8} (hp : m[p]? = some c) (h0 : c.toNat ≠ 0) (h1 : c.toNat < 64) : Key m p = Key m (p + 1 + c.toNat) := by
  have e : Key m p = key m (m.length + 1) p := key_step (by omega)
  rw [e, key, hp]
  simp only
  rw [if_neg h0, if_pos h1]
theorem Key_ptr {m : Bytes} {p : Nat} {c d : UInt8} (hp : m[p]? = some c) (h0 : ¬ c.toNat < 64) (h1 : 192 ≤ c.toNat) (hd : m[p + 1]? = some d) : Key m p = (c.toNat - 192) * 256 + d.toNat + 1 := by
  have e : Key m p = key m (m.length + 1) p := key_step (by omega)
  rw [e, key, hp]
  simp only
  rw [if_neg (by omega), if_neg h0, if_pos h1, hd]
theorem Key_end {m : Bytes} {p : Nat} {c : UInt8} (hp : m[p]? = some c) (h0 : c.toNat = 0) : Key m p = 0 := by
  have e : Key m p = key m (m.length + 1) p := key_step (by omega)
  rw [e, key, hp]
  simp only
  rw [if_pos h0]
/-- what is read leads further back -/
theorem Key_le {m : Bytes} : ∀ {k s p : Nat} {x : Name × Nat}, nameIn m k s p = some x → Key m p ≤ s
  | 0, _, _, _, h => by simp [nameIn] at h
  | k + 1, s, p, x, h => by
    rw [nameIn] at h
    cases hp : m[p]? with
    | none => rw [hp] at h; simp at h
    | some c =>
      rw [hp] at h
      simp only at h
      by_cases h0 : c.toNat = 0
      · rw [Key_end hp h0]; omega
      · rw [if_neg h0] at h
        by_cases h1 : c.toNat < 64
        · rw [if_pos h1] at h
          by_cases h2 : ((m.drop (p + 1)).take c.toNat).length < c.toNat
          · rw [if_pos h2] at h; simp at h
          · rw [if_neg h2] at h
            cases hr : nameIn m k s (p + 1 + c.toNat) with
            | none => rw [hr] at h; simp at h
            | some y => rw [Key_label hp h0 h1]; exact Key_le hr
        · rw [if_neg h1] at h
          by_cases h2 : 192 ≤ c.toNat
          · rw [if_pos h2] at h
            cases hd : m[p + 1]? with
            | none => rw [hd] at h; simp at h
            | some d =>
              rw [hd] at h
              simp only at h
              by_cases h3 : (c.toNat - 192) * 256 + d.toNat < s
              · rw [Key_ptr hp h1 h2 hd]; omega
              · rw [if_neg h3] at h; simp at h
          · rw [if_neg h2] at h; simp at h
theorem count_le {P P' : Nat → Bool} : ∀ (l : List Nat), (∀ y, P' y = true → P y = true) → l.countP P' ≤ l.countP P
  | [], _ => Nat.le_refl _
  | y :: r, h => by
    have ih := count_le r h
    rw [List.countP_cons, List.countP_cons]
    by_cases e : P' y = true
    · rw [if_pos e, if_pos (h y e)]; omega
    · rw [if_neg e]; omega
theorem count_lt {P P' : Nat → Bool} : ∀ (l : List Nat), (∀ y, P' y = true → P y = true) → (∃ y, y ∈ l ∧ P y = true ∧ P' y = false) → l.countP P' < l.countP P
  | [], _, ⟨y, hy, _⟩ => by simp at hy
  | y :: r, h, ⟨z, hz, h1, h2⟩ => by
    rw [List.countP_cons, List.countP_cons]
    rcases List.mem_cons.mp hz with e | hz
    · subst e
      have := count_le r h
      rw [if_pos h1, if_neg (by rw [h2]; simp)]; omega
    · have ih := count_lt r h ⟨z, hz, h1, h2⟩
      by_cases e : P' y = true
      · rw [if_pos e, if_pos (h y e)]; omega
      · rw [if_neg e]; omega
/-- the places that a name from p may still look at -/
def wide (m : Bytes) (p y : Nat) : Bool := decide (Key m y < Key m p) || (decide (Key m y = Key m p) && decide (p ≤ y))
def W (m : Bytes) (p : Nat) : Nat := (List.range m.length).countP (wide m p)
theorem W_le (m : Bytes) (p : Nat) : W m p ≤ m.length := by
  have := List.countP_le_length (p := wide m p) (l := List.range m.length)
  rw [List.length_range] at this
  exact this
theorem lt_of_get {m : Bytes} {p : Nat} {c : UInt8} (hp : m[p]? = some c) : p < m.length := (List.getElem?_eq_some_iff.mp hp).1
theorem wide_self (m : Bytes) (p : Nat) : wide m p p = true := by simp [wide]
theorem W_lt {m : Bytes} {p p' : Nat} (hp : p < m.length) (h : (Key m p' = Key m p ∧ p < p') ∨ Key m p' < Key m p) : W m p' < W m p := by
  refine count_lt _ (fun y hy => ?_) ⟨p, List.mem_range.mpr hp, wide_self m p, ?_⟩
  · simp only [wide, Bool.or_eq_true, Bool.and_eq_true, decide_eq_true_eq] at hy ⊢
    omega
  · simp only [wide, Bool.or_eq_false_iff, Bool.and_eq_false_iff, decide_eq_false_iff_not]
    omega
theorem nameIn_W {m : Bytes} : ∀ {k s p : Nat} {x : Name × Nat}, nameIn m k s p = some x → nameIn m (W m p) s p = some x
  | 0, _, _, _, h => by simp [nameIn] at h
  | k + 1, s, p, x, h => by
    rw [nameIn] at h
    cases hp : m[p]? with
    | none => rw [hp] at h; simp at h
    | some c =>
      have hl := lt_of_get hp
      have hw : 0 < W m p := List.countP_pos_iff.mpr ⟨p, List.mem_range.mpr hl, wide_self m p⟩
      obtain ⟨j, hj⟩ : ∃ j, W m p = j + 1 := ⟨W m p - 1, by omega⟩
      rw [hj, nameIn, hp]
      rw [hp] at h
      simp only at h ⊢
      by_cases h0 : c.toNat = 0
      · rw [if_pos h0] at h ⊢; exact h
      · rw [if_neg h0] at h ⊢
        by_cases h1 : c.toNat < 64
        · rw [if_pos h1] at h ⊢
          by_cases h2 : ((m.drop (p + 1)).take c.toNat).length < c.toNat
          · rw [if_pos h2] at h; simp at h
          · rw [if_neg h2] at h ⊢
            cases hr : nameIn m k s (p + 1 + c.toNat) with
            | none => rw [hr] at h; simp at h
            | some y =>
              have := W_lt (p' := p + 1 + c.toNat) hl (.inl ⟨(Key_label hp h0 h1).symm, by omega⟩)
              rw [nameIn_le (by omega) (nameIn_W hr)]
              rw [hr] at h; exact h
        · rw [if_neg h1] at h ⊢
          by_cases h2 : 192 ≤ c.toNat
          · rw [if_pos h2] at h ⊢
            cases hd : m[p + 1]? with
            | none => rw [hd] at h; simp at h
            | some d =>
              rw [hd] at h
              simp only at h ⊢
              by_cases h3 : (c.toNat - 192) * 256 + d.toNat < s
              · rw [if_pos h3] at h ⊢
                cases hr : nameIn m k ((c.toNat - 192) * 256 + d.toNat) ((c.toNat - 192) * 256 + d.toNat) with
                | none => rw [hr] at h; simp at h
                | some y =>
                  have a := Key_le hr
                  have b := Key_ptr hp h1 h2 hd
                  have := W_lt (p' := (c.toNat - 192) * 256 + d.toNat) hl (.inr (by omega))
                  rw [nameIn_le (by omega) (nameIn_W hr)]
                  rw [hr] at h; exact h
              · rw [if_neg h3] at h; simp at h
          · rw [if_neg h2] at h; simp at h
/-- a name at a place, without fuel -/
def N (m : Bytes) (s p : Nat) : Option (Name × Nat) := nameIn m m.length s p
theorem N_of {m : Bytes} {k s p : Nat} (hk : m.length ≤ k) : nameIn m k s p = N m s p := by
  unfold N
  cases h : nameIn m m.length s p with
  | some x => exact nameIn_le hk h
  | none =>
    cases h' : nameIn m k s p with
    | none => rfl
    | some x =>
      have := nameIn_le (W_le m p) (nameIn_W h')
      rw [h] at this; cases this
theorem N_eq (m : Bytes) (s p : Nat) : N m s p = match m[p]? with
    | none => none
    | some c =>
      if c.toNat = 0 then some ([], p + 1)
      else if c.toNat < 64 then
        if ((m.drop (p + 1)).take c.toNat).length < c.toNat then none else (N m s (p + 1 + c.toNat)).map fun x => ((m.drop (p + 1)).take c.toNat :: x.1, x.2)
      else if 192 ≤ c.toNat then match m[p + 1]? with
        | none => none
        | some d => if (c.toNat - 192) * 256 + d.toNat < s then (N m ((c.toNat - 192) * 256 + d.toNat) ((c.toNat - 192) * 256 + d.toNat)).map fun x => (x.1, p + 2) else none
      else none := by
  rw [← N_of (k := m.length + 1) (by omega), nameIn]
  rfl
theorem nameAt_N (m : Bytes) (p : Nat) : nameAt m p = (N m p p).bind fun x => if x.1.ok = true then some x else none := by
  unfold nameAt
  rw [N_of (by omega)]
end Ma
end
section
set_option linter.all false
set_option autoImplicit false
namespace Ma
open Sp08
theorem size_snoc (n : Name) (l : Bytes) : Name.size (n ++ [l]) = Name.size n + (l.length + 1) := by
  simp [Name.size]; omega
theorem size_append (n k : Name) : Name.size n ≤ Name.size (n ++ k) := by
  simp [Name.size]
theorem ok_iff (n : Name) : Name.ok n = true ↔ (∀ l ∈ n, 1 ≤ l.length ∧ l.length ≤ 63) ∧ Name.size n ≤ 255 := by
  simp [Name.ok]
/-- between two turns of the loop that reads a name: pre is read, size its size, the labels at hand began at b, the next byte is at p, bh the place behind the first pointer -/
structure NI (r : Bytes) (p0 : Nat) (pre : Name) (size b p : Nat) (bh : Option Nat) : Prop where
  eq : N r p0 p0 = (N r b p).map fun x => (pre ++ x.1, bh.getD x.2)
  sz : size = Name.size pre
  le : size ≤ 255
  labs : ∀ l ∈ pre, 1 ≤ l.length ∧ l.length ≤ 63
theorem NI.start (r : Bytes) (p0 : Nat) : NI r p0 [] 1 p0 p0 none := by
  refine ⟨?_, rfl, by decide, by simp⟩
  cases N r p0 p0 with
  | none => rfl
  | some x => rfl
section
variable {r : Bytes} {p0 size b p : Nat} {pre : Name} {bh : Option Nat} {c : UInt8}
theorem NI.fail (I : NI r p0 pre size b p bh) (h : N r b p = none) : nameAt r p0 = none := by
  rw [nameAt_N, I.eq, h]; rfl
theorem NI.out (I : NI r p0 pre size b p bh) (h : r[p]? = none) : nameAt r p0 = none := I.fail (by rw [N_eq, h])
theorem NI.done (I : NI r p0 pre size b p bh) (h : r[p]? = some c) (h0 : c.toNat = 0) : nameAt r p0 = some (pre, bh.getD (p + 1)) := by
  have e : N r b p = some ([], p + 1) := by rw [N_eq, h]; simp [h0]
  have ok : Name.ok pre = true := (ok_iff _).mpr ⟨I.labs, by rw [← I.sz]; exact I.le⟩
  rw [nameAt_N, I.eq, e]
  simp [ok]
theorem NI.ptrOut (I : NI r p0 pre size b p bh) (h : r[p]? = some c) (h1 : 192 ≤ c.toNat) (h2 : r[p + 1]? = none) : nameAt r p0 = none := I.fail (by
  rw [N_eq, h]
  simp only
  rw [if_neg (by omega), if_neg (by omega), if_pos h1, h2])
theorem NI.ptrOn (I : NI r p0 pre size b p bh) {d : UInt8} (h : r[p]? = some c) (h1 : 192 ≤ c.toNat) (h2 : r[p + 1]? = some d) (h3 : b ≤ (c.toNat - 192) * 256 + d.toNat) : nameAt r p0 = none := I.fail (by
  rw [N_eq, h]
  simp only
  rw [if_neg (by omega), if_neg (by omega), if_pos h1, h2]
  simp only
  rw [if_neg (by omega)])
theorem NI.ptr (I : NI r p0 pre size b p bh) {d : UInt8} (h : r[p]? = some c) (h1 : 192 ≤ c.toNat) (h2 : r[p + 1]? = some d) (h3 : (c.toNat - 192) * 256 + d.toNat < b) :
    NI r p0 pre size ((c.toNat - 192) * 256 + d.toNat) ((c.toNat - 192) * 256 + d.toNat) (some (bh.getD (p + 2))) := by
  refine ⟨?_, I.sz, I.le, I.labs⟩
  rw [I.eq, N_eq r b p, h]
  simp only
  rw [if_neg (by omega), if_neg (by omega), if_pos h1, h2]
  simp only
  rw [if_pos h3, Option.map_map]
  rfl
theorem NI.high (I : NI r p0 pre size b p bh) (h : r[p]? = some c) (h1 : 64 ≤ c.toNat) (h2 : c.toNat < 192) : nameAt r p0 = none := I.fail (by
  rw [N_eq, h]
  simp only
  rw [if_neg (by omega), if_neg (by omega), if_neg (by omega)])
theorem NI.short (I : NI r p0 pre size b p bh) (h : r[p]? = some c) (h0 : c.toNat ≠ 0) (h1 : c.toNat < 64) (h2 : r.length < p + 1 + c.toNat) : nameAt r p0 = none := I.fail (by
  rw [N_eq, h]
  simp only
  rw [if_neg h0, if_pos h1, if_pos (by rw [List.length_take, List.length_drop]; omega)])
theorem NI.lab (I : NI r p0 pre size b p bh) (h : r[p]? = some c) (h0 : c.toNat ≠ 0) (h1 : c.toNat < 64) (h2 : p + 1 + c.toNat ≤ r.length) :
    N r p0 p0 = (N r b (p + 1 + c.toNat)).map fun x => ((pre ++ [(r.drop (p + 1)).take c.toNat]) ++ x.1, bh.getD x.2) := by
  rw [I.eq, N_eq r b p, h]
  simp only
  rw [if_neg h0, if_pos h1, if_neg (by rw [List.length_take, List.length_drop]; omega), Option.map_map]
  congr 1
  funext x
  simp
theorem NI.label (I : NI r p0 pre size b p bh) (h : r[p]? = some c) (h0 : c.toNat ≠ 0) (h1 : c.toNat < 64) (h2 : p + 1 + c.toNat ≤ r.length) (h3 : size + (c.toNat + 1) ≤ 255) :
    NI r p0 (pre ++ [(r.drop (p + 1)).take c.toNat]) (size + (c.toNat + 1)) b (p + 1 + c.toNat) bh := by
  have hl : ((r.drop (p + 1)).take c.toNat).length = c.toNat := by rw [List.length_take, List.length_drop]; omega
  refine ⟨I.lab h h0 h1 h2, by rw [size_snoc, hl, ← I.sz], h3, fun l hm => ?_⟩
  rcases List.mem_append.mp hm with hm | hm
  · exact I.labs l hm
  · obtain rfl : l = _ := List.mem_singleton.mp hm
    rw [hl]; omega
theorem NI.long (I : NI r p0 pre size b p bh) (h : r[p]? = some c) (h0 : c.toNat ≠ 0) (h1 : c.toNat < 64) (h2 : p + 1 + c.toNat ≤ r.length) (h3 : 255 < size + (c.toNat + 1)) : nameAt r p0 = none := by
  have hl : ((r.drop (p + 1)).take c.toNat).length = c.toNat := by rw [List.length_take, List.length_drop]; omega
  rw [nameAt_N, I.lab h h0 h1 h2]
  cases N r b (p + 1 + c.toNat) with
  | none => rfl
  | some x =>
    simp only [Option.map_some, Option.bind_some]
    rw [if_neg]
    rw [ok_iff]
    rintro ⟨_, hs⟩
    have a := size_append (pre ++ [(r.drop (p + 1)).take c.toNat]) x.1
    rw [size_snoc, hl, ← I.sz] at a
    omega
end
/-! ### strings -/
theorem strings_fuel : ∀ {k j : Nat} {b : Bytes}, b.length ≤ k → b.length ≤ j → strings k b = strings j b
  | _, _, [], _, _ => by simp [strings]
  | 0, _, _ :: _, h, _ => by simp at h
  | _, 0, _ :: _, _, h => by simp at h
  | k + 1, j + 1, c :: r, h1, h2 => by
    rw [strings, strings]
    simp at h1 h2
    by_cases e : r.length < c.toNat
    · rw [if_pos e, if_pos e]
    · rw [if_neg e, if_neg e, strings_fuel (k := k) (j := j)]
      · rw [List.length_drop]; omega
      · rw [List.length_drop]; omega
def S (b : Bytes) : Option (List Bytes) := strings (b.length + 1) b
theorem S_nil : S [] = some [] := rfl
theorem S_cons (c : UInt8) (r : Bytes) : S (c :: r) = if r.length < c.toNat then none else (S (r.drop c.toNat)).map fun l => r.take c.toNat :: l := by
  unfold S
  rw [strings]
  by_cases e : r.length < c.toNat
  · rw [if_pos e, if_pos e]
  · rw [if_neg e, if_neg e, strings_fuel (j := (r.drop c.toNat).length + 1)]
    · rw [List.length_drop]; simp; omega
    · omega
theorem S_some_nil {b : Bytes} (h : S b = some []) : b = [] := by
  cases b with
  | nil => rfl
  | cons c r =>
    rw [S_cons] at h
    by_cases e : r.length < c.toNat
    · rw [if_pos e] at h; cases h
    · rw [if_neg e] at h
      cases q : S (r.drop c.toNat) with
      | none => rw [q] at h; cases h
      | some l => rw [q] at h; cases h
/-- one string read at p of b -/
theorem drop_cons {b : Bytes} {p : Nat} {c : UInt8} (h : b[p]? = some c) : b.drop p = c :: b.drop (p + 1) := by
  obtain ⟨hl, e⟩ := List.getElem?_eq_some_iff.mp h
  rw [List.drop_eq_getElem_cons hl, e]
theorem S_step {b : Bytes} {p : Nat} {c : UInt8} (h : b[p]? = some c) : S (b.drop p) = if b.length < p + 1 + c.toNat then none else (S (b.drop (p + 1 + c.toNat))).map fun l => (b.drop (p + 1)).take c.toNat :: l := by
  have hl := lt_of_get h
  rw [drop_cons h, S_cons, List.length_drop, List.drop_drop]
  by_cases e : b.length < p + 1 + c.toNat
  · rw [if_pos e, if_pos (by omega)]
  · rw [if_neg e, if_neg (by omega)]
/-! ### numbers -/
theorem number_snoc (b : Bytes) (c : UInt8) : number (b ++ [c]) = 256 * number b + c.toNat := by
  simp [number, List.foldl_append]
theorem number_lt : ∀ (b : Bytes), number b < 256 ^ b.length := by
  intro b
  have key : ∀ (r : Bytes) (n : Nat) (k : Nat), n < 256 ^ k → r.foldl (fun n c => 256 * n + c.toNat) n < 256 ^ (k + r.length) := by
    intro r
    induction r with
    | nil => intro n k h; exact h
    | cons c r ih =>
      intro n k h
      rw [List.foldl_cons, List.length_cons]
      have hc := UInt8.toNat_lt c
      have := ih (256 * n + c.toNat) (k + 1) (by rw [Nat.pow_succ]; omega)
      rw [show k + (r.length + 1) = k + 1 + r.length by omega]
      exact this
  have := key b 0 0 (by decide)
  rw [Nat.zero_add] at this
  exact this
/-! ### a record's data, as the program keeps it: bytes, names, bytes -/
abbrev D3 := Bytes × List Name × Bytes
def toParts (t : Nat) (d : D3) : List Part :=
  if t = 2 ∨ t = 5 ∨ t = 12 then d.2.1.map Part.name
  else if t = 15 ∨ t = 33 then Part.raw d.1 :: d.2.1.map Part.name
  else if t = 6 then d.2.1.map Part.name ++ [Part.raw d.2.2]
  else [Part.raw d.1]
/-- so many bytes, so many names, so many bytes: all that lies in r from p on -/
def names (r : Bytes) : Nat → Nat → Option (List Name × Nat)
  | 0, p => some ([], p)
  | k + 1, p => (names r k p).bind fun x => (nameAt r x.2).map fun y => (x.1 ++ [y.1], y.2)
def layout (r : Bytes) (p a k z : Nat) : Option D3 :=
  if r.length < p + a then none else (names r k (p + a)).bind fun x => if x.2 + z = r.length then some ((r.drop p).take a, x.1, r.drop x.2) else none
def layouts (t : Nat) : Option (Nat × Nat × Nat) :=
  if t = 1 then some (4, 0, 0) else if t = 2 then some (0, 1, 0) else if t = 5 then some (0, 1, 0) else if t = 6 then some (0, 2, 20) else if t = 12 then some (0, 1, 0) else if t = 15 then some (2, 1, 0)
  else if t = 28 then some (16, 0, 0) else if t = 33 then some (6, 1, 0) else none
def data3 (r : Bytes) (t p : Nat) : Option D3 := match layouts t with
  | some x => layout r p x.1 x.2.1 x.2.2
  | none => if t = 16 then (match S (r.drop p) with
    | some (_ :: _) => some (r.drop p, [], [])
    | _ => none) else some (r.drop p, [], [])
theorem fold_names (r : Bytes) (p k : Nat) : (List.range k).foldl (fun s _ => s.bind fun (x : List Part × Nat) => (nameAt r x.2).map fun y => (x.1 ++ [Part.name y.1], y.2)) (some ([], p)) =
    (names r k p).map fun x => (x.1.map Part.name, x.2) := by
  induction k with
  | zero => rfl
  | succ k ih =>
    rw [List.range_succ, List.foldl_append, ih, names]
    cases names r k p with
    | none => rfl
    | some x =>
      simp only [Option.map_some, List.foldl_cons, List.foldl_nil, Option.bind_some]
      cases nameAt r x.2 with
      | none => rfl
      | some y => simp
theorem parts_data3 (m : Bytes) (t p q : Nat) (hp : p ≤ q) (hq : q ≤ m.length) : parts m t p q = (data3 (m.take q) t p).map (toParts t) := by
  have hlen : (m.take q).length = q := by rw [List.length_take]; omega
  unfold parts
  simp only [fold_names]
  generalize m.take q = r at hlen ⊢
  have hb : (r.drop p).length = q - p := by rw [List.length_drop, hlen]
  unfold data3 layouts
  by_cases h1 : t = 1
  · subst h1
    simp only [if_true, layout, names, Option.bind_some, hlen, hb]
    by_cases e : q - p = 4
    · rw [if_pos e, if_neg (by omega), if_pos (by omega)]
      simp [toParts]
      rw [List.take_of_length_le (by omega)]
    · rw [if_neg e]
      by_cases e2 : q < p + 4
      · rw [if_pos e2]; rfl
      · rw [if_neg e2, if_neg (by omega)]; rfl
  by_cases h2 : t = 28
  · subst h2
    simp only [if_true, if_false, layout, names, Option.bind_some, hlen, hb, show ¬ (28 : Nat) = 1 by decide, show ¬ (28 : Nat) = 2 by decide, show ¬ (28 : Nat) = 5 by decide, show ¬ (28 : Nat) = 6 by decide, show ¬ (28 : Nat) = 12 by decide, show ¬ (28 : Nat) = 15 by decide]
    by_cases e : q - p = 16
    · rw [if_pos e, if_neg (by omega), if_pos (by omega)]
      simp [toParts]
      rw [List.take_of_length_le (by omega)]
    · rw [if_neg e]
      by_cases e2 : q < p + 16
      · rw [if_pos e2]; rfl
      · rw [if_neg e2, if_neg (by omega)]; rfl
  by_cases h3 : t = 2 ∨ t = 5 ∨ t = 12
  · have el : (if t = 1 then some (4, 0, 0) else if t = 2 then some (0, 1, 0) else if t = 5 then some (0, 1, 0) else if t = 6 then some (0, 2, 20) else if t = 12 then some (0, 1, 0) else if t = 15 then some (2, 1, 0)
      else if t = 28 then some (16, 0, 0) else if t = 33 then some (6, 1, 0) else none : Option (Nat × Nat × Nat)) = some (0, 1, 0) := by
      rcases h3 with h | h | h <;> subst h <;> rfl
    rw [if_neg h1, if_neg h2, if_pos h3, el]
    simp only [layout, Nat.add_zero, hlen]
    rw [if_neg (by omega)]
    cases hn : names r 1 p with
    | none => rfl
    | some x =>
      simp only [Option.map_some, Option.bind_some]
      by_cases e : x.2 = q
      · rw [if_pos e, if_pos e]; simp [toParts, if_pos h3]
      · rw [if_neg e, if_neg e]; rfl
  by_cases h4 : t = 15
  · subst h4
    simp only [if_true, if_false, layout, hlen, hb, show ¬ (15 : Nat) = 1 by decide, show ¬ (15 : Nat) = 28 by decide, show ¬ (15 : Nat) = 2 by decide, show ¬ (15 : Nat) = 5 by decide, show ¬ (15 : Nat) = 6 by decide, show ¬ (15 : Nat) = 12 by decide, or_self]
    by_cases e : q - p < 2
    · rw [if_pos e, if_pos (by omega)]; rfl
    · rw [if_neg e, if_neg (by omega)]
      cases hn : names r 1 (p + 2) with
      | none => rfl
      | some x =>
        simp only [Option.map_some, Option.bind_some, Nat.add_zero]
        by_cases e : x.2 = q
        · rw [if_pos e, if_pos e]; simp [toParts]
        · rw [if_neg e, if_neg e]; rfl
  by_cases h5 : t = 33
  · subst h5
    simp only [if_true, if_false, layout, hlen, hb, show ¬ (33 : Nat) = 1 by decide, show ¬ (33 : Nat) = 28 by decide, show ¬ (33 : Nat) = 2 by decide, show ¬ (33 : Nat) = 5 by decide, show ¬ (33 : Nat) = 6 by decide, show ¬ (33 : Nat) = 12 by decide, show ¬ (33 : Nat) = 15 by decide, or_self]
    by_cases e : q - p < 6
    · rw [if_pos e, if_pos (by omega)]; rfl
    · rw [if_neg e, if_neg (by omega)]
      cases hn : names r 1 (p + 6) with
      | none => rfl
      | some x =>
        simp only [Option.map_some, Option.bind_some, Nat.add_zero]
        by_cases e : x.2 = q
        · rw [if_pos e, if_pos e]; simp [toParts]
        · rw [if_neg e, if_neg e]; rfl
  by_cases h6 : t = 6
  · subst h6
    simp only [if_true, if_false, layout, hlen, Nat.add_zero, show ¬ (6 : Nat) = 1 by decide, show ¬ (6 : Nat) = 28 by decide, show ¬ (6 : Nat) = 2 by decide, show ¬ (6 : Nat) = 5 by decide, show ¬ (6 : Nat) = 12 by decide, show ¬ (6 : Nat) = 15 by decide, show ¬ (6 : Nat) = 33 by decide, or_self]
    rw [if_neg (by omega)]
    cases hn : names r 2 p with
    | none => rfl
    | some x =>
      simp only [Option.map_some, Option.bind_some]
      by_cases e : x.2 + 20 = q
      · rw [if_pos e, if_pos e]; simp [toParts]
      · rw [if_neg e, if_neg e]; rfl
  · have h3' : ¬ t = 2 ∧ ¬ t = 5 ∧ ¬ t = 12 := ⟨fun e => h3 (.inl e), fun e => h3 (.inr (.inl e)), fun e => h3 (.inr (.inr e))⟩
    rw [if_neg h1, if_neg h2, if_neg h3, if_neg h4, if_neg h5, if_neg h6, if_neg h1, if_neg h3'.1, if_neg h3'.2.1, if_neg h6, if_neg h3'.2.2, if_neg h4, if_neg h2, if_neg h5]
    have tp : ∀ d, toParts t d = [Part.raw d.1] := fun d => by
      unfold toParts
      rw [if_neg h3, if_neg (fun e => e.elim h4 h5), if_neg h6]
    by_cases h7 : t = 16
    · rw [if_pos h7]
      simp only
      rw [if_pos h7]
      show (match S (r.drop p) with | some (_ :: _) => some [Part.raw (r.drop p)] | _ => none) = _
      cases hs : S (r.drop p) with
      | none => rfl
      | some l => cases l with
        | nil => rfl
        | cons a b => simp [tp]
    · rw [if_neg h7]
      simp only
      rw [if_neg h7]
      simp [tp]
end Ma
end
section
set_option linter.all false
set_option autoImplicit false
namespace Ma
open Sp08
/-! ### pieces with a byte between -/
abbrev jn (s : UInt8) (xs : List Bytes) : Bytes := List.intercalate [s] xs
theorem jn_nil (s : UInt8) : jn s [] = [] := rfl
theorem jn_one (s : UInt8) (x : Bytes) : jn s [x] = x := by simp [jn, List.intercalate]
theorem jn_cons (s : UInt8) (x y : Bytes) (r : List Bytes) : jn s (x :: y :: r) = x ++ s :: jn s (y :: r) := by
  simp [jn, List.intercalate]
theorem jn_append (s : UInt8) : ∀ (xs ys : List Bytes), xs ≠ [] → ys ≠ [] → jn s (xs ++ ys) = jn s xs ++ s :: jn s ys
  | [], _, h, _ => absurd rfl h
  | [x], [], _, h => absurd rfl h
  | [x], y :: ys, _, _ => by rw [List.singleton_append, jn_cons, jn_one]
  | x :: x' :: r, ys, _, h => by
    rw [List.cons_append, List.cons_append, jn_cons, jn_cons, ← List.cons_append, jn_append s (x' :: r) ys (by simp) h]
    simp
theorem jn_snoc (s : UInt8) (xs : List Bytes) (x : Bytes) : jn s (xs ++ [x]) = if xs = [] then x else jn s xs ++ s :: x := by
  by_cases e : xs = []
  · rw [if_pos e, e, List.nil_append, jn_one]
  · rw [if_neg e, jn_append s xs [x] e (by simp), jn_one]
theorem jn_take_succ (s : UInt8) (xs : List Bytes) (i : Nat) (x : Bytes) (h : xs[i]? = some x) : jn s (xs.take (i + 1)) = if i = 0 then x else jn s (xs.take i) ++ s :: x := by
  obtain ⟨hl, e⟩ := List.getElem?_eq_some_iff.mp h
  rw [List.take_succ_eq_append_getElem hl, e, jn_snoc]
  by_cases hi : i = 0
  · subst hi; simp
  · rw [if_neg hi, if_neg (by intro h; have := congrArg List.length h; rw [List.length_take, List.length_nil] at this; omega)]
theorem jn_take_le (s : UInt8) (xs : List Bytes) (i : Nat) : (jn s (xs.take i)).length ≤ (jn s xs).length := by
  by_cases h : xs.drop i = []
  · have := List.take_append_drop i xs
    rw [h, List.append_nil] at this
    rw [this]; exact Nat.le_refl _
  · by_cases h2 : xs.take i = []
    · rw [h2]; exact Nat.zero_le _
    · have := jn_append s _ _ h2 h
      rw [List.take_append_drop] at this
      rw [this, List.length_append]; omega
def total (xs : List Bytes) : Nat := (xs.map fun x => x.length + 1).sum
theorem jn_len (s : UInt8) : ∀ (xs : List Bytes), (jn s xs).length ≤ total xs
  | [] => Nat.zero_le _
  | [x] => by rw [jn_one]; simp [total]
  | x :: y :: r => by
    have := jn_len s (y :: r)
    rw [jn_cons, List.length_append, List.length_cons]
    simp [total] at this ⊢
    omega
/-! ### numbers in digits -/
theorem toDigits_len {n k : Nat} (hk : 0 < k) (h : n < 10 ^ k) : (Nat.toDigits 10 n).length ≤ k := by
  exact (Nat.length_toDigits_le_iff (by decide) hk).mpr h
theorem dec_len {n k : Nat} (hk : 0 < k) (h : n < 10 ^ k) : (dec n).length ≤ k := by
  unfold dec
  rw [List.length_map]
  exact toDigits_len hk h
theorem digit_lt {n : Nat} {c : Char} (h : c ∈ Nat.toDigits 10 n) : c.toNat < 256 := by
  have := Nat.isDigit_of_mem_toDigits (by decide) (by decide) h
  simp [Char.isDigit, UInt32.le_iff_toNat_le] at this
  exact Nat.lt_of_le_of_lt this.2 (by decide)
/-- the codes of a number's digits -/
theorem dec_codes (n : Nat) : (dec n).map UInt8.toNat = (Nat.toDigits 10 n).map Char.toNat := by
  unfold dec
  rw [List.map_map]
  refine List.map_congr_left fun c hc => ?_
  have := digit_lt hc
  simp [UInt8.toNat_ofNat']
  omega
/-! ### pieces of so many bytes -/
def chunks (k : Nat) (b : Bytes) : List Bytes := (List.range ((b.length + k - 1) / k)).map fun i => (b.drop (k * i)).take k
def decs (k : Nat) (b : Bytes) : List Bytes := (chunks k b).map fun x => dec (number x)
def hexB (b : Bytes) : Bytes := b.flatMap fun c => hex2 c.toNat
theorem chunks_nil (k : Nat) : chunks k [] = [] := by
  unfold chunks
  have : (([] : Bytes).length + k - 1) / k = 0 := by
    rw [List.length_nil, Nat.zero_add]
    cases k with
    | zero => rfl
    | succ k => exact Nat.div_eq_of_lt (by omega)
  rw [this]; rfl
theorem chunks_mul {k n : Nat} {b : Bytes} (hk : 0 < k) (h : b.length = k * n) : chunks k b = (List.range n).map fun i => (b.drop (k * i)).take k := by
  unfold chunks
  have : (b.length + k - 1) / k = n := by
    rw [h]
    refine Nat.div_eq_of_lt_le ?_ ?_
    · rw [Nat.mul_comm]; omega
    · rw [Nat.succ_mul, Nat.mul_comm]; omega
  rw [this]
theorem decs_numbers {k n : Nat} {b : Bytes} (hk : 0 < k) (h : b.length = k * n) : jn 32 (decs k b) = numbers k b := by
  unfold decs numbers
  rw [chunks_mul hk h, List.map_map]
  have : b.length / k = n := by rw [h, Nat.mul_comm]; exact Nat.mul_div_cancel _ hk
  rw [this]
  rfl
theorem decs_one (b : Bytes) : decs 1 b = b.map fun c => dec c.toNat := by
  unfold decs
  rw [chunks_mul (n := b.length) (by decide) (by omega), List.map_map]
  refine List.ext_getElem (by simp) fun i h1 h2 => ?_
  have hi : i < b.length := by simpa using h2
  simp only [List.getElem_map, List.getElem_range, Function.comp_apply, Nat.one_mul]
  have e : (b.drop i).take 1 = [b[i]] := by rw [List.drop_eq_getElem_cons hi]; rfl
  rw [e]
  simp [number]
theorem hex_pair (x y : UInt8) : hexB [x, y] = hex4 (number [x, y]) := by
  have hx := UInt8.toNat_lt x
  have hy := UInt8.toNat_lt y
  simp only [hexB, hex4, number, List.flatMap_cons, List.flatMap_nil, List.append_nil, List.foldl_cons, List.foldl_nil, Nat.mul_zero, Nat.zero_add, hex2]
  rw [show (256 * x.toNat + y.toNat) / 256 = x.toNat by omega, show (256 * x.toNat + y.toNat) / 16 % 16 = y.toNat / 16 % 16 by omega, show (256 * x.toNat + y.toNat) % 16 = y.toNat % 16 by omega]
theorem hex_number {b : Bytes} (h : b.length = 2) : hexB b = hex4 (number b) := by
  match b, h with
  | [x, y], _ => exact hex_pair x y
theorem chunks_hex {b : Bytes} (h : b.length = 16) : (chunks 2 b).map hexB = (List.range 8).map fun i => hex4 (number ((b.drop (2 * i)).take 2)) := by
  rw [chunks_mul (n := 8) (by decide) h, List.map_map]
  refine List.map_congr_left fun i hi => ?_
  have hi := List.mem_range.mp hi
  exact hex_number (by rw [List.length_take, List.length_drop]; omega)
/-! ### data as text, as the program tells it -/
def anyText (b : Bytes) : Bytes := jn 32 ([[92, 35], dec b.length] ++ if 0 < b.length then [hexB b] else [])
def tellData (t : Nat) (d : D3) : Bytes :=
  if t = 1 then jn 46 (decs 1 d.1)
  else if t = 28 then jn 58 ((chunks 2 d.1).map hexB)
  else if t = 16 then jn 32 (((S d.1).getD []).map quoted)
  else if (layouts t).isSome = true then jn 32 (decs 2 d.1 ++ d.2.1.map Name.say ++ decs 4 d.2.2)
  else anyText d.1
theorem names_len {r : Bytes} : ∀ {k p : Nat} {x : List Name × Nat}, names r k p = some x → x.1.length = k
  | 0, _, _, h => by simp [names] at h; subst h; rfl
  | k + 1, p, x, h => by
    rw [names] at h
    cases q : names r k p with
    | none => rw [q] at h; cases h
    | some y =>
      rw [q] at h
      simp only [Option.bind_some] at h
      cases q2 : nameAt r y.2 with
      | none => rw [q2] at h; cases h
      | some z =>
        rw [q2] at h
        simp only [Option.map_some, Option.some.injEq] at h
        subst h
        simp [names_len q]
theorem layout_some {r : Bytes} {p a k z : Nat} {d : D3} (h : layout r p a k z = some d) : p + a ≤ r.length ∧ d.1 = (r.drop p).take a ∧ d.1.length = a ∧ d.2.1.length = k ∧ d.2.2.length = z ∧ ∃ y, names r k (p + a) = some (d.2.1, y) ∧ y + z = r.length := by
  unfold layout at h
  by_cases e : r.length < p + a
  · rw [if_pos e] at h; cases h
  · rw [if_neg e] at h
    cases q : names r k (p + a) with
    | none => rw [q] at h; cases h
    | some x =>
      rw [q] at h
      simp only [Option.bind_some] at h
      by_cases e2 : x.2 + z = r.length
      · rw [if_pos e2] at h
        simp only [Option.some.injEq] at h
        subst h
        refine ⟨by omega, rfl, by simp; omega, names_len q, by simp; omega, x.2, rfl, e2⟩
      · rw [if_neg e2] at h; cases h
theorem tellData_eq {r : Bytes} {t p : Nat} {d : D3} (h : data3 r t p = some d) : tellData t d = dataText t (toParts t d) := by
  unfold data3 at h
  unfold tellData dataText
  by_cases h1 : t = 1
  · subst h1
    simp only [if_true, toParts]
    simp [decs_one, List.intercalate]
  rw [if_neg h1, if_neg h1]
  by_cases h2 : t = 28
  · subst h2
    have := layout_some (show layout r p 16 0 0 = some d from h)
    simp only [if_true, toParts]
    rw [chunks_hex this.2.2.1]
    simp [List.intercalate]
  rw [if_neg h2, if_neg h2]
  by_cases h3 : t = 16
  · subst h3
    simp [toParts, List.intercalate, S]
  rw [if_neg h3, if_neg h3]
  by_cases h6 : t = 6
  · subst h6
    obtain ⟨_, e1, e1', e2, e3, _⟩ := layout_some (show layout r p 0 2 20 = some d from h)
    have e1 : d.1 = [] := List.length_eq_zero_iff.mp e1'
    obtain ⟨f, ns, bk⟩ := d
    simp only at e1 e2 e3
    subst e1
    match ns, e2 with
    | [a, b], _ =>
      have eb : jn 32 (decs 4 bk) = numbers 4 bk := decs_numbers (n := 5) (by decide) (by omega)
      have en : decs 4 bk ≠ [] := by
        intro q
        have := congrArg List.length q
        simp [decs, chunks, e3] at this
      simp only [layouts, if_true, if_false, show ¬ (6 : Nat) = 1 by decide, show ¬ (6 : Nat) = 2 by decide, show ¬ (6 : Nat) = 5 by decide, Option.isSome_some, toParts, or_self, show ¬ (6 : Nat) = 12 by decide, show ¬ (6 : Nat) = 15 by decide, show ¬ (6 : Nat) = 33 by decide]
      rw [jn_append 32 _ _ (by simp) en, eb]
      have e0 : decs 2 ([] : Bytes) = [] := by unfold decs; rw [chunks_nil]; rfl
      rw [e0]
      simp [List.intercalate]
  rw [if_neg h6]
  by_cases h4 : t = 2 ∨ t = 5 ∨ t = 12
  · have hl : layouts t = some (0, 1, 0) := by rcases h4 with e | e | e <;> subst e <;> rfl
    rw [hl] at h ⊢
    obtain ⟨_, _, e1, e2, e3, _⟩ := layout_some h
    obtain ⟨f, ns, bk⟩ := d
    simp only at e1 e2 e3
    rw [List.length_eq_zero_iff] at e1 e3
    subst e1 e3
    match ns, e2 with
    | [a], _ =>
      have e0 : ∀ k, decs k ([] : Bytes) = [] := fun k => by unfold decs; rw [chunks_nil]; rfl
      rw [if_pos (show (some (0, 1, 0) : Option (Nat × Nat × Nat)).isSome = true from rfl), if_pos (by rcases h4 with e | e | e <;> subst e <;> simp), toParts, if_pos h4, e0, e0]
      simp [List.intercalate]
  by_cases h5 : t = 15 ∨ t = 33
  · obtain ⟨n, hn, hl⟩ : ∃ n, 0 < n ∧ layouts t = some (2 * n, 1, 0) := by
      rcases h5 with e | e <;> subst e
      · exact ⟨1, by decide, rfl⟩
      · exact ⟨3, by decide, rfl⟩
    rw [hl] at h ⊢
    obtain ⟨_, _, e1, e2, e3, _⟩ := layout_some h
    obtain ⟨f, ns, bk⟩ := d
    simp only at e1 e2 e3
    rw [List.length_eq_zero_iff] at e3
    subst e3
    match ns, e2 with
    | [a], _ =>
      have e0 : decs 4 ([] : Bytes) = [] := by unfold decs; rw [chunks_nil]; rfl
      have eb : jn 32 (decs 2 f) = numbers 2 f := decs_numbers (by decide) e1
      have en : decs 2 f ≠ [] := by
        intro q
        have := congrArg List.length q
        simp [decs, chunks, e1] at this
        omega
      rw [if_pos (show (some (2 * n, 1, 0) : Option (Nat × Nat × Nat)).isSome = true from rfl), if_pos (by rcases h5 with e | e <;> subst e <;> simp), toParts, if_neg h4, if_pos h5, e0, List.append_nil, jn_append 32 _ _ en (by simp), eb]
      simp [List.intercalate]
  · have h4' : ¬ t = 2 ∧ ¬ t = 5 ∧ ¬ t = 12 := ⟨fun e => h4 (.inl e), fun e => h4 (.inr (.inl e)), fun e => h4 (.inr (.inr e))⟩
    have h5' : ¬ t = 15 ∧ ¬ t = 33 := ⟨fun e => h5 (.inl e), fun e => h5 (.inr e)⟩
    have hl : layouts t = none := by
      unfold layouts
      rw [if_neg h1, if_neg h4'.1, if_neg h4'.2.1, if_neg h6, if_neg h4'.2.2, if_neg h5'.1, if_neg h2, if_neg h5'.2]
    rw [hl, if_neg (by simp), if_neg (by simp [h4', h5'])]
    rw [toParts, if_neg h4, if_neg h5, if_neg h6]
    unfold anyText
    by_cases e : d.1 = []
    · rw [e]
      decide
    · have : 0 < d.1.length := by
        cases q : d.1 with
        | nil => exact absurd q e
        | cons a b => simp
      rw [if_pos this]
      have ht : text "\\# " = [92, 35, 32] := by decide
      simp [jn, List.intercalate, ht, e, hexB]
end Ma
end
section
set_option linter.all false
set_option autoImplicit false
namespace Ma
open Sp08
/-! ### places -/
theorem nameIn_place {m : Bytes} : ∀ {k s p : Nat} {x : Name × Nat}, nameIn m k s p = some x → p < x.2 ∧ x.2 ≤ m.length
  | 0, _, _, _, h => by simp [nameIn] at h
  | k + 1, s, p, x, h => by
    rw [nameIn] at h
    cases hp : m[p]? with
    | none => rw [hp] at h; simp at h
    | some c =>
      have hl := lt_of_get hp
      rw [hp] at h
      simp only at h
      by_cases h0 : c.toNat = 0
      · rw [if_pos h0] at h
        cases h
        exact ⟨by simp, by simp; omega⟩
      · rw [if_neg h0] at h
        by_cases h1 : c.toNat < 64
        · rw [if_pos h1] at h
          by_cases h2 : ((m.drop (p + 1)).take c.toNat).length < c.toNat
          · rw [if_pos h2] at h; simp at h
          · rw [if_neg h2] at h
            cases hr : nameIn m k s (p + 1 + c.toNat) with
            | none => rw [hr] at h; simp at h
            | some y =>
              rw [hr] at h
              cases h
              have := nameIn_place hr
              exact ⟨by simp; omega, this.2⟩
        · rw [if_neg h1] at h
          by_cases h2 : 192 ≤ c.toNat
          · rw [if_pos h2] at h
            cases hd : m[p + 1]? with
            | none => rw [hd] at h; simp at h
            | some d =>
              have hl2 := lt_of_get hd
              rw [hd] at h
              simp only at h
              by_cases h3 : (c.toNat - 192) * 256 + d.toNat < s
              · rw [if_pos h3] at h
                cases hr : nameIn m k ((c.toNat - 192) * 256 + d.toNat) ((c.toNat - 192) * 256 + d.toNat) with
                | none => rw [hr] at h; simp at h
                | some y =>
                  rw [hr] at h
                  cases h
                  exact ⟨by simp, by simp; omega⟩
              · rw [if_neg h3] at h; simp at h
          · rw [if_neg h2] at h; simp at h
theorem nameAt_place {m : Bytes} {p : Nat} {x : Name × Nat} (h : nameAt m p = some x) : p < x.2 ∧ x.2 ≤ m.length ∧ Name.ok x.1 = true := by
  unfold nameAt at h
  cases q : nameIn m (2 * m.length + 2) p p with
  | none => rw [q] at h; cases h
  | some y =>
    rw [q] at h
    simp only [Option.bind_some] at h
    by_cases e : y.1.ok = true
    · rw [if_pos e] at h
      cases h
      exact ⟨(nameIn_place q).1, (nameIn_place q).2, e⟩
    · rw [if_neg e] at h; cases h
theorem names_place {r : Bytes} : ∀ {k p : Nat} {x : List Name × Nat}, p ≤ r.length → names r k p = some x → p ≤ x.2 ∧ x.2 ≤ r.length ∧ ∀ n ∈ x.1, Name.ok n = true
  | 0, _, _, hp, h => by simp [names] at h; subst h; exact ⟨Nat.le_refl _, hp, by simp⟩
  | k + 1, p, x, hp, h => by
    rw [names] at h
    cases q : names r k p with
    | none => rw [q] at h; cases h
    | some y =>
      rw [q] at h
      simp only [Option.bind_some] at h
      cases q2 : nameAt r y.2 with
      | none => rw [q2] at h; cases h
      | some z =>
        rw [q2] at h
        simp only [Option.map_some, Option.some.injEq] at h
        subst h
        have a := names_place hp q
        have b := nameAt_place q2
        refine ⟨by simp; omega, b.2.1, fun n hn => ?_⟩
        rcases List.mem_append.mp hn with hn | hn
        · exact a.2.2 n hn
        · obtain rfl := List.mem_singleton.mp hn
          exact b.2.2
/-! ### lengths of texts -/
theorem flat_len {f : UInt8 → Bytes} (hf : ∀ c, (f c).length ≤ 4) : ∀ (l : Bytes), (l.flatMap f).length ≤ 4 * l.length
  | [] => by simp
  | c :: r => by
    rw [List.flatMap_cons, List.length_append, List.length_cons]
    have := flat_len hf r
    have := hf c
    omega
def esc (l : Bytes) : Bytes := l.flatMap fun c => if plain c = true then [c] else 92 :: three c.toNat
theorem esc_len (l : Bytes) : (esc l).length ≤ 4 * l.length := flat_len (fun c => by by_cases h : plain c = true <;> simp [h, three]) l
theorem say_eq (n : Name) : Name.say n = if n = [] then [46] else jn 46 (n.map esc) := rfl
theorem say_total : ∀ (n : Name), total (n.map esc) + 4 ≤ 4 * Name.size n
  | [] => by simp [total, Name.size]
  | l :: r => by
    have ih := say_total r
    have := esc_len l
    simp [total, Name.size] at ih ⊢
    omega
theorem say_len {n : Name} (h : Name.ok n = true) : (Name.say n).length ≤ 1020 := by
  have hs := ((ok_iff n).mp h).2
  rw [say_eq]
  by_cases e : n = []
  · rw [if_pos e]; simp
  · rw [if_neg e]
    have := jn_len 46 (n.map esc)
    have := say_total n
    omega
theorem total_append (xs ys : List Bytes) : total (xs ++ ys) = total xs + total ys := by simp [total]
theorem total_le {xs : List Bytes} {c : Nat} (h : ∀ x ∈ xs, x.length + 1 ≤ c) : total xs ≤ c * xs.length := by
  induction xs with
  | nil => simp [total]
  | cons x r ih =>
    have a := h x (by simp)
    have b := ih fun y hy => h y (List.mem_cons_of_mem _ hy)
    simp [total] at b ⊢
    rw [Nat.mul_succ]; omega
theorem chunks_mem {k : Nat} {b x : Bytes} (h : x ∈ chunks k b) : x.length ≤ k := by
  unfold chunks at h
  obtain ⟨i, _, rfl⟩ := List.mem_map.mp h
  rw [List.length_take]; omega
theorem chunks_count {k : Nat} {b : Bytes} (hk : 0 < k) : (chunks k b).length ≤ b.length := by
  cases b with
  | nil => rw [chunks_nil]; simp
  | cons c r =>
    unfold chunks
    rw [List.length_map, List.length_range]
    refine Nat.div_le_of_le_mul ?_
    simp only [List.length_cons]
    rw [Nat.mul_succ]
    have : r.length ≤ k * r.length := Nat.le_mul_of_pos_left _ hk
    omega
theorem number_small {x : Bytes} (h : x.length ≤ 4) : number x < 10 ^ 10 := by
  have a := number_lt x
  have : 256 ^ x.length ≤ 256 ^ 4 := Nat.pow_le_pow_right (by decide) h
  have : (256 : Nat) ^ 4 < 10 ^ 10 := by decide
  omega
theorem decs_total {k : Nat} {b : Bytes} (hk : 0 < k) (hk4 : k ≤ 4) : total (decs k b) ≤ 11 * b.length := by
  have a : total (decs k b) ≤ 11 * (decs k b).length := total_le fun x hx => by
    obtain ⟨y, hy, rfl⟩ := List.mem_map.mp hx
    have := dec_len (n := number y) (k := 10) (by decide) (number_small (Nat.le_trans (chunks_mem hy) hk4))
    omega
  have c : (decs k b).length = (chunks k b).length := List.length_map ..
  have d := chunks_count (b := b) hk
  have := Nat.mul_le_mul_left 11 (show (decs k b).length ≤ b.length by omega)
  omega
theorem hexB_len : ∀ (b : Bytes), (hexB b).length = 2 * b.length
  | [] => rfl
  | c :: r => by
    have := hexB_len r
    simp [hexB, hex2] at this ⊢
    omega
theorem quoted_len (b : Bytes) : (quoted b).length ≤ 4 * b.length + 2 := by
  unfold quoted
  rw [List.length_append, List.length_append]
  have := flat_len (f := fun c => if 32 ≤ c ∧ c ≤ 126 ∧ c ≠ 34 ∧ c ≠ 92 then [c] else 92 :: three c.toNat) (fun c => by
    by_cases h : 32 ≤ c ∧ c ≤ 126 ∧ c ≠ 34 ∧ c ≠ 92
    · simp only [if_pos h]; simp
    · simp only [if_neg h]; simp [three]) b
  simp only [List.length_cons, List.length_nil]
  omega
theorem strings_total : ∀ {k : Nat} {b : Bytes} {l : List Bytes}, strings k b = some l → total (l.map quoted) ≤ 4 * b.length ∧ l.length ≤ b.length ∧ (l.flatMap id).length ≤ b.length
  | _, [], _, h => by simp [strings] at h; subst h; simp [total]
  | 0, _ :: _, _, h => by simp [strings] at h
  | k + 1, c :: r, l, h => by
    rw [strings] at h
    by_cases e : r.length < c.toNat
    · rw [if_pos e] at h; cases h
    · rw [if_neg e] at h
      cases q : strings k (r.drop c.toNat) with
      | none => rw [q] at h; cases h
      | some y =>
        rw [q] at h
        simp only [Option.map_some, Option.some.injEq] at h
        subst h
        have ih := strings_total q
        have ql := quoted_len (r.take c.toNat)
        have tl : (r.take c.toNat).length = c.toNat := by rw [List.length_take]; omega
        have dl : (r.drop c.toNat).length = r.length - c.toNat := List.length_drop
        rw [tl] at ql
        simp only [List.map_cons, List.length_cons, total, List.sum_cons, List.map_map, List.flatMap_cons, List.length_append, id, tl] at ih ⊢
        rw [dl] at ih
        refine ⟨by omega, by omega, by omega⟩
theorem classText_len {c : Nat} (h : c < 65536) : (classText c).length ≤ 10 := by
  unfold classText
  by_cases h1 : c = 1
  · subst h1; decide
  by_cases h3 : c = 3
  · subst h3; decide
  by_cases h4 : c = 4
  · subst h4; decide
  have e : ([(1, "IN"), (3, "CH"), (4, "HS")].find? fun (x : Nat × String) => x.1 == c) = none := by
    simp; omega
  rw [e]
  have := dec_len (n := c) (k := 5) (by decide) (by omega)
  have ht : (text "CLASS").length = 5 := by decide
  simp only [Option.map_none, Option.getD_none, List.length_append, ht]
  omega
theorem typeText_len {t : Nat} (h : t < 65536) : (typeText t).length ≤ 9 := by
  unfold typeText
  cases e : ([(1, "A"), (2, "NS"), (5, "CNAME"), (6, "SOA"), (12, "PTR"), (15, "MX"), (16, "TXT"), (28, "AAAA"), (33, "SRV")].find? fun (x : Nat × String) => x.1 == t) with
  | some x =>
    have hm := List.mem_of_find?_eq_some e
    have : ∀ y ∈ ([(1, "A"), (2, "NS"), (5, "CNAME"), (6, "SOA"), (12, "PTR"), (15, "MX"), (16, "TXT"), (28, "AAAA"), (33, "SRV")] : List (Nat × String)), (text y.2).length ≤ 9 := by decide
    exact this x hm
  | none =>
    have := dec_len (n := t) (k := 5) (by decide) (by omega)
    have ht : (text "TYPE").length = 4 := by decide
    simp only [Option.map_none, Option.getD_none, List.length_append, ht]
    omega
theorem tellData_len {r : Bytes} {t p : Nat} {d : D3} (hr : r.length ≤ 4096) (hp : p ≤ r.length) (h : data3 r t p = some d) : (tellData t d).length ≤ 2400 + 4 * (r.length - p) := by
  unfold data3 at h
  cases hl : layouts t with
  | some x =>
    rw [hl] at h
    obtain ⟨e0, e1, e2, e3, e4, y, e5, e6⟩ := layout_some h
    have hx : (x.1 ≤ 16 ∧ x.2.1 ≤ 2 ∧ x.2.2 ≤ 20) := by
      unfold layouts at hl
      repeat (first | (split at hl; · cases hl; decide) | cases hl)
    have np := names_place (by omega) e5
    have nt : total (d.2.1.map Name.say) ≤ 1021 * (d.2.1.map Name.say).length := total_le fun z hz => by
      obtain ⟨n, hn, rfl⟩ := List.mem_map.mp hz
      have := say_len (np.2.2 n hn)
      omega
    rw [List.length_map, e3] at nt
    have nt2 : 1021 * x.2.1 ≤ 1021 * 2 := Nat.mul_le_mul_left _ hx.2.1
    have d1 := decs_total (k := 1) (b := d.1) (by decide) (by decide)
    have d2 := decs_total (k := 2) (b := d.1) (by decide) (by decide)
    have d4 := decs_total (k := 4) (b := d.2.2) (by decide) (by decide)
    unfold tellData
    split
    · have := jn_len 46 (decs 1 d.1); omega
    · split
      · have a := jn_len 58 ((chunks 2 d.1).map hexB)
        have b : total ((chunks 2 d.1).map hexB) ≤ 5 * ((chunks 2 d.1).map hexB).length := total_le fun z hz => by
          obtain ⟨n, hn, rfl⟩ := List.mem_map.mp hz
          have := chunks_mem hn
          rw [hexB_len]; omega
        rw [List.length_map] at b
        have c := chunks_count (k := 2) (b := d.1) (by decide)
        omega
      · split
        · rename_i _ _ h16
          subst h16
          cases hl
        · rw [if_pos (by rw [hl]; rfl)]
          have := jn_len 32 (decs 2 d.1 ++ d.2.1.map Name.say ++ decs 4 d.2.2)
          rw [total_append, total_append] at this
          omega
  | none =>
    rw [hl] at h
    unfold tellData
    rw [hl]
    have n1 : ¬ t = 1 := fun e => by subst e; cases hl
    have n2 : ¬ t = 28 := fun e => by subst e; cases hl
    rw [if_neg n1, if_neg n2]
    simp only at h
    by_cases h16 : t = 16
    · rw [if_pos h16] at h ⊢
      cases q : S (r.drop p) with
      | none => rw [q] at h; cases h
      | some l =>
        rw [q] at h
        cases l with
        | nil => cases h
        | cons a b =>
          cases h
          simp only [q, Option.getD_some]
          have st := (strings_total (show strings ((r.drop p).length + 1) (r.drop p) = some (a :: b) from q)).1
          have := jn_len 32 ((a :: b).map quoted)
          rw [List.length_drop] at st
          omega
    · rw [if_neg h16] at h ⊢
      cases h
      rw [if_neg (by simp)]
      simp only
      unfold anyText
      have hd := dec_len (n := (r.drop p).length) (k := 10) (by decide) (by rw [List.length_drop]; omega)
      have := jn_len 32 ([[92, 35], dec (r.drop p).length] ++ if 0 < (r.drop p).length then [hexB (r.drop p)] else [])
      rw [total_append] at this
      have hh : total (if 0 < (r.drop p).length then [hexB (r.drop p)] else []) ≤ 2 * (r.length - p) + 1 := by
        split
        · simp only [total, List.map_cons, List.map_nil, List.sum_cons, List.sum_nil, hexB_len, List.length_drop]; omega
        · simp [total]
      have h2 : total [[92, 35], dec (r.drop p).length] ≤ 14 := by
        simp only [total, List.map_cons, List.map_nil, List.sum_cons, List.sum_nil, List.length_cons, List.length_nil]; omega
      omega
/-! ### entries -/
def slice (m : Bytes) (p k : Nat) : Bytes := (m.drop p).take k
theorem slice_len {m : Bytes} {p k : Nat} : (slice m p k).length ≤ k := by unfold slice; rw [List.length_take]; omega
theorem slice_num {m : Bytes} {p k : Nat} (hk : k ≤ 4) : number (slice m p k) < 2 ^ 32 := by
  have a := number_lt (slice m p k)
  have : 256 ^ (slice m p k).length ≤ 256 ^ 4 := Nat.pow_le_pow_right (by decide) (Nat.le_trans slice_len hk)
  have : (256 : Nat) ^ 4 = 2 ^ 32 := by decide
  omega
theorem slice_num2 {m : Bytes} {p : Nat} : number (slice m p 2) < 65536 := by
  have a := number_lt (slice m p 2)
  have : 256 ^ (slice m p 2).length ≤ 256 ^ 2 := Nat.pow_le_pow_right (by decide) slice_len
  have : (256 : Nat) ^ 2 = 65536 := by decide
  omega
/-- an entry, as the program reads it: its data in three parts -/
structure E3 where
  s : Nat
  name : Name
  kind : Nat
  cls : Nat
  ttl : Nat
  data : D3
def E3.entry (e : E3) : Entry := if e.s = 0 then ⟨0, e.name, e.kind, e.cls, 0, []⟩ else ⟨e.s, e.name, e.kind, e.cls, e.ttl, toParts e.kind e.data⟩
def entry3 (m : Bytes) (s p : Nat) : Option (E3 × Nat) := (nameAt m p).bind fun x =>
  if s = 0 then (if m.length < x.2 + 4 then none else some (⟨0, x.1, number (slice m x.2 2), number (slice m (x.2 + 2) 2), 0, ([], [], [])⟩, x.2 + 4))
  else if m.length < x.2 + 10 then none
  else if m.length < x.2 + 10 + number (slice m (x.2 + 8) 2) then none
  else (data3 (m.take (x.2 + 10 + number (slice m (x.2 + 8) 2))) (number (slice m x.2 2)) (x.2 + 10)).map fun d =>
    (⟨s, x.1, number (slice m x.2 2), number (slice m (x.2 + 2) 2), number (slice m (x.2 + 4) 4), d⟩, x.2 + 10 + number (slice m (x.2 + 8) 2))
theorem entryAt_entry3 (m : Bytes) (s p : Nat) : entryAt m s p = (entry3 m s p).map fun x => (x.1.entry, x.2) := by
  unfold entryAt entry3
  cases nameAt m p with
  | none => rfl
  | some x =>
    simp only [Option.bind_some]
    by_cases h0 : s = 0
    · rw [if_pos h0, if_pos h0]
      by_cases h1 : m.length < x.2 + 4
      · rw [if_pos h1, if_pos h1]; rfl
      · rw [if_neg h1, if_neg h1]
        rfl
    · rw [if_neg h0, if_neg h0]
      by_cases h1 : m.length < x.2 + 10
      · rw [if_pos h1, if_pos h1]; rfl
      · rw [if_neg h1, if_neg h1]
        show (if m.length < x.2 + 10 + number (slice m (x.2 + 8) 2) then none else _) = _
        by_cases h2 : m.length < x.2 + 10 + number (slice m (x.2 + 8) 2)
        · rw [if_pos h2, if_pos h2]; rfl
        · rw [if_neg h2, if_neg h2]
          have P := parts_data3 m (number (slice m x.2 2)) (x.2 + 10) (x.2 + 10 + number (slice m (x.2 + 8) 2)) (by omega) (by omega)
          show (parts m (number (slice m x.2 2)) (x.2 + 10) (x.2 + 10 + number (slice m (x.2 + 8) 2))).map _ = _
          rw [P, Option.map_map, Option.map_map]
          congr 1
          funext d
          simp only [Function.comp_apply, E3.entry, if_neg h0]
          rfl
/-- a line, without its line feed -/
def line (e : E3) : Bytes := jn 32 ([sections.getD e.s [], e.name.say] ++ (if e.s = 0 then [] else [dec e.ttl]) ++ [classText e.cls, typeText e.kind] ++ (if e.s = 0 then [] else [tellData e.kind e.data]))
/-- what an entry that was read is known to be -/
structure EOk (e : E3) (n : Nat) : Prop where
  name : Name.ok e.name = true
  kind : e.kind < 65536
  cls : e.cls < 65536
  ttl : e.ttl < 2 ^ 32
  sec : e.s ≤ 3
  txt : e.s ≠ 0 → tellData e.kind e.data = dataText e.kind (toParts e.kind e.data)
  len : e.s ≠ 0 → (tellData e.kind e.data).length + 4000 ≤ 800 * n
  low : 5 ≤ n
theorem entry3_ok {m : Bytes} {s p : Nat} {x : E3 × Nat} (hm : m.length ≤ 4096) (hs : s ≤ 3) (h : entry3 m s p = some x) : p + 5 ≤ x.2 ∧ x.2 ≤ m.length ∧ x.1.s = s ∧ EOk x.1 (x.2 - p) := by
  unfold entry3 at h
  cases q : nameAt m p with
  | none => rw [q] at h; cases h
  | some y =>
    have hy := nameAt_place q
    rw [q] at h
    simp only [Option.bind_some] at h
    by_cases h0 : s = 0
    · rw [if_pos h0] at h
      by_cases h1 : m.length < y.2 + 4
      · rw [if_pos h1] at h; cases h
      · rw [if_neg h1] at h
        cases h
        refine ⟨by simp; omega, by simp; omega, by simp [h0], hy.2.2, slice_num2, slice_num2, (show (0 : Nat) < 2 ^ 32 by decide), Nat.zero_le _, fun z => absurd rfl z, fun z => absurd rfl z, by simp; omega⟩
    · rw [if_neg h0] at h
      by_cases h1 : m.length < y.2 + 10
      · rw [if_pos h1] at h; cases h
      · rw [if_neg h1] at h
        by_cases h2 : m.length < y.2 + 10 + number (slice m (y.2 + 8) 2)
        · rw [if_pos h2] at h; cases h
        · rw [if_neg h2] at h
          cases q2 : data3 (m.take (y.2 + 10 + number (slice m (y.2 + 8) 2))) (number (slice m y.2 2)) (y.2 + 10) with
          | none => rw [q2] at h; cases h
          | some d =>
            rw [q2] at h
            cases h
            have hl : (m.take (y.2 + 10 + number (slice m (y.2 + 8) 2))).length = y.2 + 10 + number (slice m (y.2 + 8) 2) := by rw [List.length_take]; omega
            have b := tellData_len (by omega) (by omega) q2
            rw [hl] at b
            refine ⟨by simp; omega, by simp; omega, rfl, hy.2.2, slice_num2, slice_num2, slice_num (by decide), hs, fun _ => tellData_eq q2, fun _ => ?_, ?_⟩
            · simp only at b ⊢; omega
            · simp only; omega
theorem line_say {e : E3} {n : Nat} (h : EOk e n) : line e ++ [10] = e.entry.say := by
  unfold line Entry.say E3.entry
  by_cases h0 : e.s = 0
  · simp [h0, jn, List.intercalate]
  · have := h.txt h0
    simp [h0, jn, List.intercalate, this]
theorem sec_len (s : Nat) : (sections.getD s []).length ≤ 2 := by
  have : ∀ x ∈ sections, x.length ≤ 2 := by decide
  rw [List.getD_eq_getElem?_getD]
  cases q : sections[s]? with
  | none => simp
  | some x => exact this x (List.mem_of_getElem? q)
theorem line_len {e : E3} {n : Nat} (h : EOk e n) : (line e).length + 1 ≤ 800 * n := by
  unfold line
  have a := jn_len 32 ([sections.getD e.s [], e.name.say] ++ (if e.s = 0 then [] else [dec e.ttl]) ++ [classText e.cls, typeText e.kind] ++ (if e.s = 0 then [] else [tellData e.kind e.data]))
  have s1 := sec_len e.s
  have s2 := say_len h.name
  have s3 := classText_len h.cls
  have s4 := typeText_len h.kind
  have s5 := dec_len (n := e.ttl) (k := 10) (by decide) (Nat.lt_trans h.ttl (by decide))
  have low := h.low
  rw [total_append, total_append, total_append] at a
  have t1 : total [sections.getD e.s [], e.name.say] ≤ 1024 := by
    simp only [total, List.map_cons, List.map_nil, List.sum_cons, List.sum_nil]; omega
  have t2 : total [classText e.cls, typeText e.kind] ≤ 21 := by
    simp only [total, List.map_cons, List.map_nil, List.sum_cons, List.sum_nil]; omega
  by_cases h0 : e.s = 0
  · simp only [if_pos h0] at a ⊢
    have : total [] = 0 := rfl
    omega
  · have := h.len h0
    simp only [if_neg h0] at a ⊢
    have t3 : total [dec e.ttl] ≤ 11 := by simp only [total, List.map_cons, List.map_nil, List.sum_cons, List.sum_nil]; omega
    have t4 : total [tellData e.kind e.data] = (tellData e.kind e.data).length + 1 := by simp [total]
    omega
/-! ### the message -/
def entries3 (m : Bytes) (s : Nat) : Nat → Nat → Option (List E3 × Nat)
  | 0, p => some ([], p)
  | k + 1, p => (entries3 m s k p).bind fun y => (entry3 m s y.2).map fun z => (y.1 ++ [z.1], z.2)
theorem entriesAt_snoc (m : Bytes) (s : Nat) : ∀ (k p : Nat), entriesAt m s (k + 1) p = (entriesAt m s k p).bind fun y => (entryAt m s y.2).map fun z => (y.1 ++ [z.1], z.2)
  | 0, p => by
    simp only [entriesAt, Option.bind_some, List.nil_append]
    cases entryAt m s p with
    | none => rfl
    | some x => rfl
  | k + 1, p => by
    rw [entriesAt, entriesAt]
    cases entryAt m s p with
    | none => rfl
    | some x =>
      simp only [Option.bind_some]
      rw [entriesAt_snoc m s k x.2]
      cases entriesAt m s k x.2 with
      | none => rfl
      | some y =>
        simp only [Option.bind_some, Option.map_some]
        cases entryAt m s y.2 with
        | none => rfl
        | some z => rfl
theorem entriesAt_3 (m : Bytes) (s : Nat) : ∀ (k p : Nat), entriesAt m s k p = (entries3 m s k p).map fun x => (x.1.map E3.entry, x.2)
  | 0, p => rfl
  | k + 1, p => by
    rw [entriesAt_snoc, entriesAt_3 m s k p, entries3]
    cases entries3 m s k p with
    | none => rfl
    | some y =>
      simp only [Option.map_some, Option.bind_some]
      rw [entryAt_entry3]
      cases entry3 m s y.2 with
      | none => rfl
      | some z => simp
theorem entries3_none {m : Bytes} {s p j : Nat} (h : entries3 m s j p = none) : ∀ {k : Nat}, j ≤ k → entries3 m s k p = none := by
  intro k hk
  induction k with
  | zero =>
    obtain rfl : j = 0 := by omega
    exact h
  | succ k ih =>
    by_cases e : j = k + 1
    · subst e; exact h
    · rw [entries3, ih (by omega)]; rfl
/-- so many sections read -/
def secs (m : Bytes) : Nat → Option (List E3 × Nat)
  | 0 => some ([], 12)
  | i + 1 => (secs m i).bind fun x => (entries3 m i (number (slice m (2 * (2 + i)) 2)) x.2).map fun y => (x.1 ++ y.1, y.2)
theorem secs_fold (m : Bytes) (i : Nat) : (List.range i).foldl (fun s i => s.bind fun (x : List Entry × Nat) => (entriesAt m i (number ((m.drop (2 * (2 + i))).take 2)) x.2).map fun y => (x.1 ++ y.1, y.2)) (some ([], 12)) =
    (secs m i).map fun x => (x.1.map E3.entry, x.2) := by
  induction i with
  | zero => rfl
  | succ i ih =>
    rw [List.range_succ, List.foldl_append, ih, secs]
    cases secs m i with
    | none => rfl
    | some x =>
      simp only [Option.map_some, List.foldl_cons, List.foldl_nil, Option.bind_some]
      rw [entriesAt_3]
      show ((entries3 m i (number (slice m (2 * (2 + i)) 2)) x.2).map _).map _ = _
      cases entries3 m i (number (slice m (2 * (2 + i)) 2)) x.2 with
      | none => rfl
      | some y => simp
theorem secs_none {m : Bytes} {i : Nat} (h : secs m i = none) : ∀ {k : Nat}, i ≤ k → secs m k = none := by
  intro k hk
  induction k with
  | zero =>
    obtain rfl : i = 0 := by omega
    exact h
  | succ k ih =>
    by_cases e : i = k + 1
    · subst e; exact h
    · rw [secs, ih (by omega)]; rfl
structure M3 where
  id : Nat
  flags : Nat
  es : List E3
def read3 (m : Bytes) : Option M3 := if m.length < 12 then none else (secs m 4).bind fun x => if x.2 = m.length then some ⟨number (slice m 0 2), number (slice m 2 2), x.1⟩ else none
theorem read_read3 (m : Bytes) : Sp08.read m = (read3 m).map fun x => ⟨x.id, x.flags, x.es.map E3.entry⟩ := by
  unfold Sp08.read read3
  by_cases h : m.length < 12
  · rw [if_pos h, if_pos h]; rfl
  · rw [if_neg h, if_neg h]
    show ((List.range 4).foldl (fun s i => s.bind fun (x : List Entry × Nat) => (entriesAt m i (number ((m.drop (2 * (2 + i))).take 2)) x.2).map fun y => (x.1 ++ y.1, y.2)) (some ([], 12))).bind _ = _
    rw [secs_fold]
    cases secs m 4 with
    | none => rfl
    | some x =>
      simp only [Option.map_some, Option.bind_some]
      by_cases e : x.2 = m.length
      · rw [if_pos e, if_pos e]; rfl
      · rw [if_neg e, if_neg e]; rfl
/-- all entries known, their text no longer than 800 times what was read -/
def lines (es : List E3) : Bytes := es.flatMap fun e => line e ++ [10]
structure AllOk (es : List E3) (n : Nat) : Prop where
  each : ∀ e ∈ es, ∃ k, EOk e k ∧ (line e).length + 1 ≤ 800 * k
  sum : (lines es).length ≤ 800 * n
  count : es.length ≤ n
theorem AllOk.nil (n : Nat) : AllOk [] n := ⟨by simp, by simp [lines], by simp⟩
theorem AllOk.snoc {es : List E3} {e : E3} {n k : Nat} (h : AllOk es n) (he : EOk e k) : AllOk (es ++ [e]) (n + k) := by
  have l := line_len he
  refine ⟨fun x hx => ?_, ?_, ?_⟩
  · rcases List.mem_append.mp hx with hx | hx
    · exact h.each x hx
    · obtain rfl := List.mem_singleton.mp hx
      exact ⟨k, he, l⟩
  · have := h.sum
    unfold lines at this ⊢
    rw [List.flatMap_append, List.length_append]
    simp only [List.flatMap_cons, List.flatMap_nil, List.append_nil, List.length_append, List.length_cons, List.length_nil]
    omega
  · have := h.count
    have := he.low
    rw [List.length_append]; simp; omega
theorem lines_say {es : List E3} {n : Nat} (h : AllOk es n) : lines es = (es.map E3.entry).flatMap Entry.say := by
  unfold lines
  rw [List.flatMap_map]
  have : ∀ (l : List E3), (∀ e ∈ l, ∃ k, EOk e k ∧ (line e).length + 1 ≤ 800 * k) → (l.flatMap fun e => line e ++ [10]) = l.flatMap fun a => (a.entry).say := by
    intro l
    induction l with
    | nil => intro _; rfl
    | cons a r ih =>
      intro hl
      obtain ⟨k, hk, _⟩ := hl a (by simp)
      rw [List.flatMap_cons, List.flatMap_cons, ih fun e he => hl e (List.mem_cons_of_mem _ he), line_say hk]
  exact this es h.each
def head (id flags : Nat) : Bytes := jn 32 [[73, 68], dec id, [70, 76, 65, 71, 83], hexB [UInt8.ofNat (flags / 256), UInt8.ofNat (flags % 256)]]
theorem head_hex {f : Nat} (h : f < 65536) : hexB [UInt8.ofNat (f / 256), UInt8.ofNat (f % 256)] = hex4 f := by
  rw [hex_pair]
  congr 1
  simp only [number, List.foldl_cons, List.foldl_nil, UInt8.toNat_ofNat']
  omega
theorem message_say {M : M3} {n : Nat} (hf : M.flags < 65536) (h : AllOk M.es n) : head M.id M.flags ++ [10] ++ lines M.es = Message.say ⟨M.id, M.flags, M.es.map E3.entry⟩ := by
  unfold Message.say head
  rw [lines_say h, head_hex hf]
  have t1 : text "ID " = [73, 68, 32] := by decide
  have t2 : text " FLAGS " = [32, 70, 76, 65, 71, 83, 32] := by decide
  simp [jn, List.intercalate, t1, t2]
theorem head_len {id flags : Nat} (h : id < 65536) : (head id flags).length ≤ 20 := by
  have a := jn_len 32 [[73, 68], dec id, [70, 76, 65, 71, 83], hexB [UInt8.ofNat (flags / 256), UInt8.ofNat (flags % 256)]]
  have d := dec_len (n := id) (k := 5) (by decide) (by omega)
  unfold head
  have : total [[73, 68], dec id, [70, 76, 65, 71, 83], hexB [UInt8.ofNat (flags / 256), UInt8.ofNat (flags % 256)]] ≤ 20 := by
    simp only [total, List.map_cons, List.map_nil, List.sum_cons, List.sum_nil, List.length_cons, List.length_nil, hexB_len]; omega
  omega
end Ma
end
section
set_option linter.all false
set_option autoImplicit false
namespace Ma
open Sp08
def bi (b : Bytes) : List Int := b.map fun c => ((c.toNat : Nat) : Int)
theorem secs_ok {m : Bytes} (hm : m.length ≤ 4096) (h12 : 12 ≤ m.length) : ∀ {i : Nat} {x : List E3 × Nat}, i ≤ 4 → secs m i = some x → 12 ≤ x.2 ∧ x.2 ≤ m.length ∧ AllOk x.1 (x.2 - 12)
  | 0, x, _, h => by cases h; exact ⟨Nat.le_refl _, h12, AllOk.nil _⟩
  | i + 1, x, hi, h => by
    rw [secs] at h
    cases q : secs m i with
    | none => rw [q] at h; cases h
    | some y =>
      have ih := secs_ok hm h12 (by omega) q
      rw [q] at h
      simp only [Option.bind_some] at h
      have go : ∀ (k : Nat) (z : List E3 × Nat), entries3 m i k y.2 = some z → y.2 ≤ z.2 ∧ z.2 ≤ m.length ∧ AllOk (y.1 ++ z.1) (z.2 - 12) := by
        intro k
        induction k with
        | zero =>
          intro z hz
          cases hz
          exact ⟨Nat.le_refl _, ih.2.1, by simpa using ih.2.2⟩
        | succ k ihk =>
          intro z hz
          rw [entries3] at hz
          cases q2 : entries3 m i k y.2 with
          | none => rw [q2] at hz; cases hz
          | some u =>
            rw [q2] at hz
            simp only [Option.bind_some] at hz
            cases q3 : entry3 m i u.2 with
            | none => rw [q3] at hz; cases hz
            | some v =>
              rw [q3] at hz
              cases hz
              have a := ihk u q2
              have b := entry3_ok hm (by omega) q3
              have c := a.2.2.snoc b.2.2.2
              refine ⟨by simp only; omega, b.2.1, ?_⟩
              simp only
              rw [← List.append_assoc]
              have e : u.2 - 12 + (v.2 - u.2) = v.2 - 12 := by omega
              rw [e] at c
              exact c
      cases q2 : entries3 m i (number (slice m (2 * (2 + i)) 2)) y.2 with
      | none => rw [q2] at h; cases h
      | some z =>
        rw [q2] at h
        cases h
        have := go _ z q2
        exact ⟨by simp only; omega, this.2.1, this.2.2⟩
structure MOk (M : M3) : Prop where
  id : M.id < 65536
  flags : M.flags < 65536
  all : AllOk M.es 4096
theorem AllOk.mono {es : List E3} {n k : Nat} (h : AllOk es n) (hk : n ≤ k) : AllOk es k := ⟨h.each, by have := h.sum; omega, by have := h.count; omega⟩
theorem read3_ok {m : Bytes} (hm : m.length ≤ 4096) {M : M3} (h : read3 m = some M) : MOk M := by
  unfold read3 at h
  by_cases h12 : m.length < 12
  · rw [if_pos h12] at h; cases h
  · rw [if_neg h12] at h
    cases q : secs m 4 with
    | none => rw [q] at h; cases h
    | some x =>
      rw [q] at h
      simp only [Option.bind_some] at h
      by_cases e : x.2 = m.length
      · rw [if_pos e] at h
        cases h
        have := secs_ok hm (by omega) (Nat.le_refl _) q
        exact ⟨slice_num2, slice_num2, this.2.2.mono (by omega)⟩
      · rw [if_neg e] at h; cases h
def told (M : M3) : Bytes := head M.id M.flags ++ [10] ++ lines M.es
theorem told_len {M : M3} (h : MOk M) : (told M).length ≤ 3276900 := by
  unfold told
  have a := head_len (flags := M.flags) h.id
  have b := h.all.sum
  rw [List.length_append, List.length_append, List.length_cons, List.length_nil]
  omega
/-- what is due -/
def due (most : Int) (msg : Bytes) : List Int :=
  if 4096 < msg.length then [-1] else match read3 msg with
    | none => [-1]
    | some M => if most < ((told M).length : Int) then [-2] else ((told M).length : Int) :: bi (told M)
theorem octets_bi {l : List Int} (h : ∀ z ∈ l, 0 ≤ z ∧ z ≤ 255) : bi (Sp08Neutral.octets l) = l := by
  unfold bi Sp08Neutral.octets
  rw [List.map_map]
  have : ∀ z ∈ l, ((fun (c : UInt8) => ((c.toNat : Nat) : Int)) ∘ fun (z : Int) => UInt8.ofNat z.toNat) z = id z := fun z hz => by
    have := h z hz
    simp only [Function.comp_apply, id, UInt8.toNat_ofNat']
    omega
  rw [List.map_congr_left this, List.map_id]
theorem due_eq {most : Int} {l : List Int} (h : ∀ z ∈ l, 0 ≤ z ∧ z ≤ 255) : PySp08.text most l = due most (Sp08Neutral.octets l) := by
  have hl : (Sp08Neutral.octets l).length = l.length := List.length_map ..
  unfold PySp08.text due
  show Sp08Neutral.said (textOf (l.length : Int) (Sp08Neutral.octets l) most) = _
  unfold textOf
  by_cases h1 : 4096 < (Sp08Neutral.octets l).length
  · have w : within (l.length : Int) 4096 = false := by
      unfold within
      simp only [Bool.and_eq_false_iff, decide_eq_false_iff_not]
      omega
    rw [if_pos h1, if_pos w]
    rfl
  · have w : within (l.length : Int) 4096 = true := by
      unfold within
      simp only [Bool.and_eq_true, decide_eq_true_eq]
      omega
    rw [if_neg h1, if_neg (by rw [w]; simp)]
    rw [read_read3]
    cases q : read3 (Sp08Neutral.octets l) with
    | none => rfl
    | some M =>
      have ok := read3_ok (by omega) q
      simp only [Option.map_some]
      rw [← message_say ok.flags ok.all]
      show Sp08Neutral.said (Sp08.told (told M) most) = _
      unfold Sp08.told
      by_cases e : most < ((told M).length : Int)
      · rw [if_pos e, if_pos e]; rfl
      · rw [if_neg e, if_neg e]
        unfold Sp08Neutral.said
        simp only
        rw [if_neg (by omega)]
        rfl
end Ma
end
section
set_option linter.all false
set_option autoImplicit false
namespace Ma
open Sp08
def lay0 (r : Bytes) (a f k z : Nat) : Option (D3 × Nat) :=
  if r.length < a + f then none else (names r k (a + f)).bind fun x => if r.length < x.2 + z then none else some (((r.drop a).take f, x.1, (r.drop x.2).take z), x.2 + z)
theorem layout_lay0 (r : Bytes) (a f k z : Nat) : layout r a f k z = (lay0 r a f k z).bind fun x => if x.2 = r.length then some x.1 else none := by
  unfold layout lay0
  by_cases h : r.length < a + f
  · rw [if_pos h, if_pos h]; rfl
  · rw [if_neg h, if_neg h]
    cases names r k (a + f) with
    | none => rfl
    | some x =>
      simp only [Option.bind_some]
      by_cases h2 : r.length < x.2 + z
      · rw [if_pos h2, if_neg (by omega)]; rfl
      · rw [if_neg h2]
        simp only [Option.bind_some]
        by_cases h3 : x.2 + z = r.length
        · rw [if_pos h3, if_pos h3, List.take_of_length_le (l := r.drop x.2) (by rw [List.length_drop]; omega)]
        · rw [if_neg h3, if_neg h3]
theorem names_none {r : Bytes} {p i : Nat} (h : names r i p = none) : ∀ {k : Nat}, i ≤ k → names r k p = none := by
  intro k hk
  induction k with
  | zero =>
    obtain rfl : i = 0 := by omega
    exact h
  | succ k ih =>
    by_cases e : i = k + 1
    · subst e; exact h
    · rw [names, ih (by omega)]; rfl
theorem lay0_place {r : Bytes} {a f k z : Nat} {x : D3 × Nat} (h : lay0 r a f k z = some x) : x.2 ≤ r.length := by
  unfold lay0 at h
  by_cases h1 : r.length < a + f
  · rw [if_pos h1] at h; cases h
  · rw [if_neg h1] at h
    cases q : names r k (a + f) with
    | none => rw [q] at h; cases h
    | some y =>
      rw [q] at h
      simp only [Option.bind_some] at h
      by_cases h2 : r.length < y.2 + z
      · rw [if_pos h2] at h; cases h
      · rw [if_neg h2] at h
        cases h
        simp only
        omega
end Ma
end
section
set_option linter.all false
set_option autoImplicit false
namespace Ma
open Sp08
/-- what is known of data that was read -/
structure DOk (k : Nat) (d : D3) : Prop where
  front : d.1.length ≤ 10000
  back : d.2.2.length ≤ 10000
  names : ∀ n ∈ d.2.1, Name.ok n = true
  few : d.2.1.length ≤ 100
  txt : k = 16 → ∃ l, S d.1 = some l ∧ d.1 ≠ []
theorem data3_ok {r : Bytes} {t p : Nat} {d : D3} (hr : r.length ≤ 4096) (hp : p ≤ r.length) (h : data3 r t p = some d) : DOk t d := by
  unfold data3 at h
  cases hl : layouts t with
  | some x =>
    rw [hl] at h
    obtain ⟨e0, e1, e2, e3, e4, y, e5, e6⟩ := layout_some h
    have hx : (x.1 ≤ 16 ∧ x.2.1 ≤ 2 ∧ x.2.2 ≤ 20) := by
      unfold layouts at hl
      repeat (first | (split at hl; · cases hl; decide) | cases hl)
    have np := names_place (by omega) e5
    exact ⟨by omega, by omega, np.2.2, by omega, fun z => by subst z; cases hl⟩
  | none =>
    rw [hl] at h
    simp only at h
    by_cases h16 : t = 16
    · rw [if_pos h16] at h
      cases q : S (r.drop p) with
      | none => rw [q] at h; cases h
      | some l =>
        rw [q] at h
        cases l with
        | nil => cases h
        | cons a b =>
          cases h
          refine ⟨by simp only [List.length_drop]; omega, by simp, by simp, by simp, fun _ => ⟨a :: b, q, fun z => ?_⟩⟩
          simp only at z
          rw [z, S_nil] at q
          cases q
    · rw [if_neg h16] at h
      cases h
      exact ⟨by simp only [List.length_drop]; omega, by simp, by simp, by simp, fun z => absurd z h16⟩
theorem entry3_dok {m : Bytes} {s p : Nat} {x : E3 × Nat} (hm : m.length ≤ 4096) (h : entry3 m s p = some x) : x.1.s ≠ 0 → DOk x.1.kind x.1.data := by
  unfold entry3 at h
  cases q : nameAt m p with
  | none => rw [q] at h; cases h
  | some y =>
    rw [q] at h
    simp only [Option.bind_some] at h
    by_cases h0 : s = 0
    · rw [if_pos h0] at h
      by_cases h1 : m.length < y.2 + 4
      · rw [if_pos h1] at h; cases h
      · rw [if_neg h1] at h
        cases h
        exact fun z => absurd rfl z
    · rw [if_neg h0] at h
      by_cases h1 : m.length < y.2 + 10
      · rw [if_pos h1] at h; cases h
      · rw [if_neg h1] at h
        by_cases h2 : m.length < y.2 + 10 + number (slice m (y.2 + 8) 2)
        · rw [if_pos h2] at h; cases h
        · rw [if_neg h2] at h
          cases q2 : data3 (m.take (y.2 + 10 + number (slice m (y.2 + 8) 2))) (number (slice m y.2 2)) (y.2 + 10) with
          | none => rw [q2] at h; cases h
          | some d =>
            rw [q2] at h
            cases h
            have hl : (m.take (y.2 + 10 + number (slice m (y.2 + 8) 2))).length = y.2 + 10 + number (slice m (y.2 + 8) 2) := by rw [List.length_take]; omega
            exact fun _ => data3_ok (by omega) (by omega) q2
def AllD (es : List E3) : Prop := ∀ e ∈ es, e.s ≠ 0 → DOk e.kind e.data
theorem entries3_dok {m : Bytes} (hm : m.length ≤ 4096) {s : Nat} : ∀ {k p : Nat} {x : List E3 × Nat}, entries3 m s k p = some x → AllD x.1
  | 0, _, _, h => by cases h; intro e he; simp at he
  | k + 1, p, x, h => by
    rw [entries3] at h
    cases q : entries3 m s k p with
    | none => rw [q] at h; cases h
    | some y =>
      rw [q] at h
      simp only [Option.bind_some] at h
      cases q2 : entry3 m s y.2 with
      | none => rw [q2] at h; cases h
      | some z =>
        rw [q2] at h
        cases h
        intro e he
        rcases List.mem_append.mp he with he | he
        · exact entries3_dok hm q e he
        · obtain rfl := List.mem_singleton.mp he
          exact entry3_dok hm q2
theorem secs_dok {m : Bytes} (hm : m.length ≤ 4096) : ∀ {i : Nat} {x : List E3 × Nat}, secs m i = some x → AllD x.1
  | 0, _, h => by cases h; intro e he; simp at he
  | i + 1, x, h => by
    rw [secs] at h
    cases q : secs m i with
    | none => rw [q] at h; cases h
    | some y =>
      rw [q] at h
      simp only [Option.bind_some] at h
      cases q2 : entries3 m i (number (slice m (2 * (2 + i)) 2)) y.2 with
      | none => rw [q2] at h; cases h
      | some z =>
        rw [q2] at h
        cases h
        intro e he
        rcases List.mem_append.mp he with he | he
        · exact secs_dok hm q e he
        · exact entries3_dok hm q2 e he
theorem read3_dok {m : Bytes} (hm : m.length ≤ 4096) {M : M3} (h : read3 m = some M) : AllD M.es := by
  unfold read3 at h
  by_cases h12 : m.length < 12
  · rw [if_pos h12] at h; cases h
  · rw [if_neg h12] at h
    cases q : secs m 4 with
    | none => rw [q] at h; cases h
    | some x =>
      rw [q] at h
      simp only [Option.bind_some] at h
      by_cases e : x.2 = m.length
      · rw [if_pos e] at h
        cases h
        exact secs_dok hm q
      · rw [if_neg e] at h; cases h
end Ma
end
section
set_option linter.all false
set_option Elab.async false
set_option maxRecDepth 100000
set_option genInjectivity false
set_option genSizeOf false
set_option genSizeOfSpec false
namespace Pn
open PySem L2
/-! ### 0. words over the layer -/
/-- a name of the file's top with a plain value -/
def GV (mg : Str → Option Value) (x : Str) (v : V) : Prop := ∃ u, mg x = some u ∧ RelV v u
theorem pe_gv {X : Cx} {x : Str} {v : V} {pos : Pos} (hg : Gl X x) (h : GV X.mg x v) (hd : (x == ("__debug__" : Str)) = false := by decide) : PE X (.Name x pos) (tC v) := by
  obtain ⟨u, hm, r⟩ := h
  exact pe_glob hg hm r hd
/-- a tuple of the file's top -/
def KT0 (K : PySem.W.Frag) (a : Addr) (xs : List V) : Prop := ∃ (o : Obj) (its : Array Value) (n : Nat), K.lookup a = some o ∧ o.cls = .type "tuple" ∧ o.data = .seq its n ∧ its.size ≤ sizeLine ∧ Vals xs its.toList
theorem KT0.sq {K : PySem.W.Frag} {a : Addr} {xs : List V} {H : Hp} (h : KT0 K a xs) : SqT K H a xs := .inr h
/-- a def of the text -/
def Def (K : PySem.W.Frag) (x qual : Str) (st : Stmt) (f : Addr) (ps : List Str) : Prop := ∃ fd, Fun K x qual st f fd ∧ Binds K fd ps []
def Ok (P : Program) (w : World) (K : PySem.W.Frag) (mg : Str → Option Value) (base : Heap) (CX : CXT) (k : Nat) (f : Addr) (ps : List Str) (sp : Sp) : Prop :=
  ∃ fd, Binds K fd ps [] ∧ PySem.W.keepIn K (.ref f) = true ∧ FnOk P w K mg base CX k f fd ps sp
theorem pl0 : ([] : List (Str × V)).length < 1000 := by show 0 < 1000; decide
theorem pl1 {f : Str} {v : V} : (putF f v []).length < 1000 := by show 1 < 1000; decide
theorem pl2 {f g : Str} {v x : V} : (putF f v (putF g x [])).length < 1000 := by
  have := length_putF f v (putF g x [])
  have : (putF g x []).length = 1 := rfl
  omega
theorem pl3 {f g h : Str} {v x y : V} : (putF f v (putF g x (putF h y []))).length < 1000 := by
  have a := length_putF f v (putF g x (putF h y []))
  have b := length_putF g x (putF h y [])
  have : (putF h y []).length = 1 := rfl
  omega
theorem pl4 {f g h i : Str} {v x y z : V} : (putF f v (putF g x (putF h y (putF i z [])))).length < 1000 := by
  have a := length_putF f v (putF g x (putF h y (putF i z [])))
  have b := length_putF g x (putF h y (putF i z []))
  have c := length_putF h y (putF i z [])
  have : (putF i z []).length = 1 := rfl
  omega
theorem pl5 {f g h i j : Str} {v x y z u : V} : (putF f v (putF g x (putF h y (putF i z (putF j u []))))).length < 1000 := by
  have a := length_putF f v (putF g x (putF h y (putF i z (putF j u []))))
  have b := length_putF g x (putF h y (putF i z (putF j u [])))
  have c := length_putF h y (putF i z (putF j u []))
  have d := length_putF i z (putF j u [])
  have : (putF j u []).length = 1 := rfl
  omega
/-! ### 1. the text by places -/
def top (i : Nat) : Stmt := PySem.Challenge.pw_postnames_s01_text.main.body.getD i (.Pass ⟨0, 0, 0, 0⟩)
abbrev s_Message_init : Stmt := inClass (top 14) 0
abbrev s_Entry_init : Stmt := inClass (top 15) 0
abbrev s_Data_init : Stmt := inClass (top 16) 0
abbrev s_Reader_init : Stmt := inClass (top 17) 0
abbrev s_Reader_pass_over : Stmt := inClass (top 17) 1
abbrev s_Reader_take_byte : Stmt := inClass (top 17) 2
abbrev s_Reader_take_bytes : Stmt := inClass (top 17) 3
abbrev s_Reader_take_number : Stmt := inClass (top 17) 4
abbrev s_Reader_take_part : Stmt := inClass (top 17) 5
abbrev s_Reader_take_name : Stmt := inClass (top 17) 6
abbrev s_Reader_take_label : Stmt := inClass (top 17) 7
abbrev s_Reader_take_string : Stmt := inClass (top 17) 8
abbrev s_Reader_take_rest : Stmt := inClass (top 17) 9
abbrev s_Reader_check_done : Stmt := inClass (top 17) 10
abbrev s_number_of : Stmt := top 18
abbrev s_read_message : Stmt := top 19
abbrev s_read_entry : Stmt := top 20
abbrev s_read_data : Stmt := top 21
abbrev s_read_layout : Stmt := top 22
abbrev s_read_strings : Stmt := top 23
abbrev s_signs : Stmt := top 35
abbrev s_joined : Stmt := top 36
abbrev s_cut : Stmt := top 37
abbrev s_decimal : Stmt := top 38
abbrev s_decimals : Stmt := top 39
abbrev s_hexadecimal : Stmt := top 40
abbrev s_escaped : Stmt := top 41
abbrev s_is_plain_in_name : Stmt := top 42
abbrev s_is_plain_in_string : Stmt := top 43
abbrev s_tell_label : Stmt := top 44
abbrev s_tell_name : Stmt := top 45
abbrev s_tell_string : Stmt := top 46
abbrev s_tell_strings : Stmt := top 47
abbrev s_tell_any_bytes : Stmt := top 48
abbrev s_tell_data : Stmt := top 49
abbrev s_tell_class : Stmt := top 50
abbrev s_tell_kind : Stmt := top 51
abbrev s_tell_entry : Stmt := top 52
abbrev s_tell_head : Stmt := top 53
abbrev s_tell_message : Stmt := top 54
abbrev s_text : Stmt := top 58
theorem sc_Message_init : FnScope ["self", "number", "flags", "entries"] ["self", "number", "flags", "entries"] (defScope s_Message_init) := ⟨rfl, rfl, rfl, by decide +kernel, rfl, by decide +kernel, by decide +kernel⟩
theorem sc_Entry_init : FnScope ["self", "section", "name", "kind", "cls", "ttl", "data"] ["self", "section", "name", "kind", "cls", "ttl", "data"] (defScope s_Entry_init) := ⟨rfl, rfl, rfl, by decide +kernel, rfl, by decide +kernel, by decide +kernel⟩
theorem sc_Data_init : FnScope ["self", "front", "names", "back"] ["self", "front", "names", "back"] (defScope s_Data_init) := ⟨rfl, rfl, rfl, by decide +kernel, rfl, by decide +kernel, by decide +kernel⟩
theorem sc_Reader_init : FnScope ["self", "message", "at", "end"] ["self", "message", "at", "end"] (defScope s_Reader_init) := ⟨rfl, rfl, rfl, by decide +kernel, rfl, by decide +kernel, by decide +kernel⟩
theorem sc_Reader_pass_over : FnScope ["self", "size", "began"] ["self", "size"] (defScope s_Reader_pass_over) := ⟨rfl, rfl, rfl, by decide +kernel, rfl, by decide +kernel, by decide +kernel⟩
theorem sc_Reader_take_byte : FnScope ["self"] ["self"] (defScope s_Reader_take_byte) := ⟨rfl, rfl, rfl, by decide +kernel, rfl, by decide +kernel, by decide +kernel⟩
theorem sc_Reader_take_bytes : FnScope ["self", "size", "began"] ["self", "size"] (defScope s_Reader_take_bytes) := ⟨rfl, rfl, rfl, by decide +kernel, rfl, by decide +kernel, by decide +kernel⟩
theorem sc_Reader_take_number : FnScope ["self", "size"] ["self", "size"] (defScope s_Reader_take_number) := ⟨rfl, rfl, rfl, by decide +kernel, rfl, by decide +kernel, by decide +kernel⟩
theorem sc_Reader_take_part : FnScope ["self", "size", "began"] ["self", "size"] (defScope s_Reader_take_part) := ⟨rfl, rfl, rfl, by decide +kernel, rfl, by decide +kernel, by decide +kernel⟩
theorem sc_Reader_take_name : FnScope ["self", "labels", "size", "began", "behind", "first", "place"] ["self"] (defScope s_Reader_take_name) := ⟨rfl, rfl, rfl, by decide +kernel, rfl, by decide +kernel, by decide +kernel⟩
theorem sc_Reader_take_label : FnScope ["self", "size"] ["self", "size"] (defScope s_Reader_take_label) := ⟨rfl, rfl, rfl, by decide +kernel, rfl, by decide +kernel, by decide +kernel⟩
theorem sc_Reader_take_string : FnScope ["self"] ["self"] (defScope s_Reader_take_string) := ⟨rfl, rfl, rfl, by decide +kernel, rfl, by decide +kernel, by decide +kernel⟩
theorem sc_Reader_take_rest : FnScope ["self"] ["self"] (defScope s_Reader_take_rest) := ⟨rfl, rfl, rfl, by decide +kernel, rfl, by decide +kernel, by decide +kernel⟩
theorem sc_Reader_check_done : FnScope ["self"] ["self"] (defScope s_Reader_check_done) := ⟨rfl, rfl, rfl, by decide +kernel, rfl, by decide +kernel, by decide +kernel⟩
theorem sc_number_of : FnScope ["digits", "number", "digit"] ["digits"] (defScope s_number_of) := ⟨rfl, rfl, rfl, by decide +kernel, rfl, by decide +kernel, by decide +kernel⟩
theorem sc_read_message : FnScope ["message", "reader", "number", "flags", "counts", "entries", "section", "count", "turn"] ["message"] (defScope s_read_message) := ⟨rfl, rfl, rfl, by decide +kernel, rfl, by decide +kernel, by decide +kernel⟩
theorem sc_read_entry : FnScope ["reader", "section", "name", "kind", "cls", "ttl", "part"] ["reader", "section"] (defScope s_read_entry) := ⟨rfl, rfl, rfl, by decide +kernel, rfl, by decide +kernel, by decide +kernel⟩
theorem sc_read_data : FnScope ["part", "kind", "data", "front"] ["part", "kind"] (defScope s_read_data) := ⟨rfl, rfl, rfl, by decide +kernel, rfl, by decide +kernel, by decide +kernel⟩
theorem sc_read_layout : FnScope ["part", "layout", "front", "names", "back", "turn"] ["part", "layout"] (defScope s_read_layout) := ⟨rfl, rfl, rfl, by decide +kernel, rfl, by decide +kernel, by decide +kernel⟩
theorem sc_read_strings : FnScope ["data", "reader", "strings"] ["data"] (defScope s_read_strings) := ⟨rfl, rfl, rfl, by decide +kernel, rfl, by decide +kernel, by decide +kernel⟩
theorem sc_signs : FnScope ["words", "sign"] ["words"] (defScope s_signs) := ⟨rfl, rfl, rfl, by decide +kernel, rfl, by decide +kernel, by decide +kernel⟩
theorem sc_joined : FnScope ["pieces", "between", "told", "index", "piece"] ["pieces", "between"] (defScope s_joined) := ⟨rfl, rfl, rfl, by decide +kernel, rfl, by decide +kernel, by decide +kernel⟩
theorem sc_cut : FnScope ["data", "size", "at"] ["data", "size"] (defScope s_cut) := ⟨rfl, rfl, rfl, by decide +kernel, rfl, by decide +kernel, by decide +kernel⟩
theorem sc_decimal : FnScope ["number"] ["number"] (defScope s_decimal) := ⟨rfl, rfl, rfl, by decide +kernel, rfl, by decide +kernel, by decide +kernel⟩
theorem sc_decimals : FnScope ["data", "size", "piece"] ["data", "size"] (defScope s_decimals) := ⟨rfl, rfl, rfl, by decide +kernel, rfl, by decide +kernel, by decide +kernel⟩
theorem sc_hexadecimal : FnScope ["data", "told", "byte"] ["data"] (defScope s_hexadecimal) := ⟨rfl, rfl, rfl, by decide +kernel, rfl, by decide +kernel, by decide +kernel⟩
theorem sc_escaped : FnScope ["byte"] ["byte"] (defScope s_escaped) := ⟨rfl, rfl, rfl, by decide +kernel, rfl, by decide +kernel, by decide +kernel⟩
theorem sc_is_plain_in_name : FnScope ["byte"] ["byte"] (defScope s_is_plain_in_name) := ⟨rfl, rfl, rfl, by decide +kernel, rfl, by decide +kernel, by decide +kernel⟩
theorem sc_is_plain_in_string : FnScope ["byte"] ["byte"] (defScope s_is_plain_in_string) := ⟨rfl, rfl, rfl, by decide +kernel, rfl, by decide +kernel, by decide +kernel⟩
theorem sc_tell_label : FnScope ["label", "told", "byte"] ["label"] (defScope s_tell_label) := ⟨rfl, rfl, rfl, by decide +kernel, rfl, by decide +kernel, by decide +kernel⟩
theorem sc_tell_name : FnScope ["labels", "label"] ["labels"] (defScope s_tell_name) := ⟨rfl, rfl, rfl, by decide +kernel, rfl, by decide +kernel, by decide +kernel⟩
theorem sc_tell_string : FnScope ["string", "told", "byte"] ["string"] (defScope s_tell_string) := ⟨rfl, rfl, rfl, by decide +kernel, rfl, by decide +kernel, by decide +kernel⟩
theorem sc_tell_strings : FnScope ["data", "string"] ["data"] (defScope s_tell_strings) := ⟨rfl, rfl, rfl, by decide +kernel, rfl, by decide +kernel, by decide +kernel⟩
theorem sc_tell_any_bytes : FnScope ["data", "words"] ["data"] (defScope s_tell_any_bytes) := ⟨rfl, rfl, rfl, by decide +kernel, rfl, by decide +kernel, by decide +kernel⟩
theorem sc_tell_data : FnScope ["kind", "data", "names", "piece", "labels"] ["kind", "data"] (defScope s_tell_data) := ⟨rfl, rfl, rfl, by decide +kernel, rfl, by decide +kernel, by decide +kernel⟩
theorem sc_tell_class : FnScope ["cls"] ["cls"] (defScope s_tell_class) := ⟨rfl, rfl, rfl, by decide +kernel, rfl, by decide +kernel, by decide +kernel⟩
theorem sc_tell_kind : FnScope ["kind"] ["kind"] (defScope s_tell_kind) := ⟨rfl, rfl, rfl, by decide +kernel, rfl, by decide +kernel, by decide +kernel⟩
theorem sc_tell_entry : FnScope ["entry", "words"] ["entry"] (defScope s_tell_entry) := ⟨rfl, rfl, rfl, by decide +kernel, rfl, by decide +kernel, by decide +kernel⟩
theorem sc_tell_head : FnScope ["message", "flags"] ["message"] (defScope s_tell_head) := ⟨rfl, rfl, rfl, by decide +kernel, rfl, by decide +kernel, by decide +kernel⟩
theorem sc_tell_message : FnScope ["message", "told", "entry"] ["message"] (defScope s_tell_message) := ⟨rfl, rfl, rfl, by decide +kernel, rfl, by decide +kernel, by decide +kernel⟩
theorem sc_text : FnScope ["most", "message", "told"] ["most", "message"] (defScope s_text) := ⟨rfl, rfl, rfl, by decide +kernel, rfl, by decide +kernel, by decide +kernel⟩
/-- the addresses of what the top has made -/
structure Ad where
  c_Message : Addr
  c_Entry : Addr
  c_Data : Addr
  c_Reader : Addr
  c_NotMessage : Addr
  f_Message_init : Addr
  f_Entry_init : Addr
  f_Data_init : Addr
  f_Reader_init : Addr
  f_Reader_pass_over : Addr
  f_Reader_take_byte : Addr
  f_Reader_take_bytes : Addr
  f_Reader_take_number : Addr
  f_Reader_take_part : Addr
  f_Reader_take_name : Addr
  f_Reader_take_label : Addr
  f_Reader_take_string : Addr
  f_Reader_take_rest : Addr
  f_Reader_check_done : Addr
  f_number_of : Addr
  f_read_message : Addr
  f_read_entry : Addr
  f_read_data : Addr
  f_read_layout : Addr
  f_read_strings : Addr
  f_signs : Addr
  f_joined : Addr
  f_cut : Addr
  f_decimal : Addr
  f_decimals : Addr
  f_hexadecimal : Addr
  f_escaped : Addr
  f_is_plain_in_name : Addr
  f_is_plain_in_string : Addr
  f_tell_label : Addr
  f_tell_name : Addr
  f_tell_string : Addr
  f_tell_strings : Addr
  f_tell_any_bytes : Addr
  f_tell_data : Addr
  f_tell_class : Addr
  f_tell_kind : Addr
  f_tell_entry : Addr
  f_tell_head : Addr
  f_tell_message : Addr
  f_text : Addr
  d_KIND_NAMES : Addr
  d_LAYOUTS : Addr
  d_CLASS_NAMES : Addr
  u_SECTION_NAMES : Addr
  v_LAYOUTS_0 : Addr
  v_LAYOUTS_1 : Addr
  v_LAYOUTS_2 : Addr
  v_LAYOUTS_3 : Addr
  v_LAYOUTS_4 : Addr
  v_LAYOUTS_5 : Addr
  v_LAYOUTS_6 : Addr
  v_LAYOUTS_7 : Addr
structure Txt (K : PySem.W.Frag) (mg : Str → Option Value) (t : Ad) : Prop where
  cl_Message : Cls K t.c_Message
  mg_Message : mg "Message" = some (.ref t.c_Message)
  mk_Message : Mk K t.c_Message t.f_Message_init
  na_Message_number : NoAttr K t.c_Message "number"
  na_Message_flags : NoAttr K t.c_Message "flags"
  na_Message_entries : NoAttr K t.c_Message "entries"
  cl_Entry : Cls K t.c_Entry
  mg_Entry : mg "Entry" = some (.ref t.c_Entry)
  mk_Entry : Mk K t.c_Entry t.f_Entry_init
  na_Entry_section : NoAttr K t.c_Entry "section"
  na_Entry_name : NoAttr K t.c_Entry "name"
  na_Entry_kind : NoAttr K t.c_Entry "kind"
  na_Entry_cls : NoAttr K t.c_Entry "cls"
  na_Entry_ttl : NoAttr K t.c_Entry "ttl"
  na_Entry_data : NoAttr K t.c_Entry "data"
  cl_Data : Cls K t.c_Data
  mg_Data : mg "Data" = some (.ref t.c_Data)
  mk_Data : Mk K t.c_Data t.f_Data_init
  na_Data_front : NoAttr K t.c_Data "front"
  na_Data_names : NoAttr K t.c_Data "names"
  na_Data_back : NoAttr K t.c_Data "back"
  cl_Reader : Cls K t.c_Reader
  mg_Reader : mg "Reader" = some (.ref t.c_Reader)
  mk_Reader : Mk K t.c_Reader t.f_Reader_init
  na_Reader_message : NoAttr K t.c_Reader "message"
  na_Reader_at : NoAttr K t.c_Reader "at"
  na_Reader_end : NoAttr K t.c_Reader "end"
  ex_NotMessage : Exc K mg "NotMessage" t.c_NotMessage
  fn_Message_init : Def K "__init__" "Message.__init__" s_Message_init t.f_Message_init ["self", "number", "flags", "entries"]
  fn_Entry_init : Def K "__init__" "Entry.__init__" s_Entry_init t.f_Entry_init ["self", "section", "name", "kind", "cls", "ttl", "data"]
  fn_Data_init : Def K "__init__" "Data.__init__" s_Data_init t.f_Data_init ["self", "front", "names", "back"]
  fn_Reader_init : Def K "__init__" "Reader.__init__" s_Reader_init t.f_Reader_init ["self", "message", "at", "end"]
  fn_Reader_pass_over : Def K "pass_over" "Reader.pass_over" s_Reader_pass_over t.f_Reader_pass_over ["self", "size"]
  me_Reader_pass_over : Meth K t.c_Reader "pass_over" t.f_Reader_pass_over
  fn_Reader_take_byte : Def K "take_byte" "Reader.take_byte" s_Reader_take_byte t.f_Reader_take_byte ["self"]
  me_Reader_take_byte : Meth K t.c_Reader "take_byte" t.f_Reader_take_byte
  fn_Reader_take_bytes : Def K "take_bytes" "Reader.take_bytes" s_Reader_take_bytes t.f_Reader_take_bytes ["self", "size"]
  me_Reader_take_bytes : Meth K t.c_Reader "take_bytes" t.f_Reader_take_bytes
  fn_Reader_take_number : Def K "take_number" "Reader.take_number" s_Reader_take_number t.f_Reader_take_number ["self", "size"]
  me_Reader_take_number : Meth K t.c_Reader "take_number" t.f_Reader_take_number
  fn_Reader_take_part : Def K "take_part" "Reader.take_part" s_Reader_take_part t.f_Reader_take_part ["self", "size"]
  me_Reader_take_part : Meth K t.c_Reader "take_part" t.f_Reader_take_part
  fn_Reader_take_name : Def K "take_name" "Reader.take_name" s_Reader_take_name t.f_Reader_take_name ["self"]
  me_Reader_take_name : Meth K t.c_Reader "take_name" t.f_Reader_take_name
  fn_Reader_take_label : Def K "take_label" "Reader.take_label" s_Reader_take_label t.f_Reader_take_label ["self", "size"]
  me_Reader_take_label : Meth K t.c_Reader "take_label" t.f_Reader_take_label
  fn_Reader_take_string : Def K "take_string" "Reader.take_string" s_Reader_take_string t.f_Reader_take_string ["self"]
  me_Reader_take_string : Meth K t.c_Reader "take_string" t.f_Reader_take_string
  fn_Reader_take_rest : Def K "take_rest" "Reader.take_rest" s_Reader_take_rest t.f_Reader_take_rest ["self"]
  me_Reader_take_rest : Meth K t.c_Reader "take_rest" t.f_Reader_take_rest
  fn_Reader_check_done : Def K "check_done" "Reader.check_done" s_Reader_check_done t.f_Reader_check_done ["self"]
  me_Reader_check_done : Meth K t.c_Reader "check_done" t.f_Reader_check_done
  fn_number_of : Def K "number_of" "number_of" s_number_of t.f_number_of ["digits"]
  mg_number_of : mg "number_of" = some (.ref t.f_number_of)
  fn_read_message : Def K "read_message" "read_message" s_read_message t.f_read_message ["message"]
  mg_read_message : mg "read_message" = some (.ref t.f_read_message)
  fn_read_entry : Def K "read_entry" "read_entry" s_read_entry t.f_read_entry ["reader", "section"]
  mg_read_entry : mg "read_entry" = some (.ref t.f_read_entry)
  fn_read_data : Def K "read_data" "read_data" s_read_data t.f_read_data ["part", "kind"]
  mg_read_data : mg "read_data" = some (.ref t.f_read_data)
  fn_read_layout : Def K "read_layout" "read_layout" s_read_layout t.f_read_layout ["part", "layout"]
  mg_read_layout : mg "read_layout" = some (.ref t.f_read_layout)
  fn_read_strings : Def K "read_strings" "read_strings" s_read_strings t.f_read_strings ["data"]
  mg_read_strings : mg "read_strings" = some (.ref t.f_read_strings)
  fn_signs : Def K "signs" "signs" s_signs t.f_signs ["words"]
  mg_signs : mg "signs" = some (.ref t.f_signs)
  fn_joined : Def K "joined" "joined" s_joined t.f_joined ["pieces", "between"]
  mg_joined : mg "joined" = some (.ref t.f_joined)
  fn_cut : Def K "cut" "cut" s_cut t.f_cut ["data", "size"]
  mg_cut : mg "cut" = some (.ref t.f_cut)
  fn_decimal : Def K "decimal" "decimal" s_decimal t.f_decimal ["number"]
  mg_decimal : mg "decimal" = some (.ref t.f_decimal)
  fn_decimals : Def K "decimals" "decimals" s_decimals t.f_decimals ["data", "size"]
  mg_decimals : mg "decimals" = some (.ref t.f_decimals)
  fn_hexadecimal : Def K "hexadecimal" "hexadecimal" s_hexadecimal t.f_hexadecimal ["data"]
  mg_hexadecimal : mg "hexadecimal" = some (.ref t.f_hexadecimal)
  fn_escaped : Def K "escaped" "escaped" s_escaped t.f_escaped ["byte"]
  mg_escaped : mg "escaped" = some (.ref t.f_escaped)
  fn_is_plain_in_name : Def K "is_plain_in_name" "is_plain_in_name" s_is_plain_in_name t.f_is_plain_in_name ["byte"]
  mg_is_plain_in_name : mg "is_plain_in_name" = some (.ref t.f_is_plain_in_name)
  fn_is_plain_in_string : Def K "is_plain_in_string" "is_plain_in_string" s_is_plain_in_string t.f_is_plain_in_string ["byte"]
  mg_is_plain_in_string : mg "is_plain_in_string" = some (.ref t.f_is_plain_in_string)
  fn_tell_label : Def K "tell_label" "tell_label" s_tell_label t.f_tell_label ["label"]
  mg_tell_label : mg "tell_label" = some (.ref t.f_tell_label)
  fn_tell_name : Def K "tell_name" "tell_name" s_tell_name t.f_tell_name ["labels"]
  mg_tell_name : mg "tell_name" = some (.ref t.f_tell_name)
  fn_tell_string : Def K "tell_string" "tell_string" s_tell_string t.f_tell_string ["string"]
  mg_tell_string : mg "tell_string" = some (.ref t.f_tell_string)
  fn_tell_strings : Def K "tell_strings" "tell_strings" s_tell_strings t.f_tell_strings ["data"]
  mg_tell_strings : mg "tell_strings" = some (.ref t.f_tell_strings)
  fn_tell_any_bytes : Def K "tell_any_bytes" "tell_any_bytes" s_tell_any_bytes t.f_tell_any_bytes ["data"]
  mg_tell_any_bytes : mg "tell_any_bytes" = some (.ref t.f_tell_any_bytes)
  fn_tell_data : Def K "tell_data" "tell_data" s_tell_data t.f_tell_data ["kind", "data"]
  mg_tell_data : mg "tell_data" = some (.ref t.f_tell_data)
  fn_tell_class : Def K "tell_class" "tell_class" s_tell_class t.f_tell_class ["cls"]
  mg_tell_class : mg "tell_class" = some (.ref t.f_tell_class)
  fn_tell_kind : Def K "tell_kind" "tell_kind" s_tell_kind t.f_tell_kind ["kind"]
  mg_tell_kind : mg "tell_kind" = some (.ref t.f_tell_kind)
  fn_tell_entry : Def K "tell_entry" "tell_entry" s_tell_entry t.f_tell_entry ["entry"]
  mg_tell_entry : mg "tell_entry" = some (.ref t.f_tell_entry)
  fn_tell_head : Def K "tell_head" "tell_head" s_tell_head t.f_tell_head ["message"]
  mg_tell_head : mg "tell_head" = some (.ref t.f_tell_head)
  fn_tell_message : Def K "tell_message" "tell_message" s_tell_message t.f_tell_message ["message"]
  mg_tell_message : mg "tell_message" = some (.ref t.f_tell_message)
  fn_text : Def K "text" "text" s_text t.f_text ["most", "message"]
  mg_text : mg "text" = some (.ref t.f_text)
  gv_KIND_A : GV mg "KIND_A" (.int 1)
  gv_KIND_TXT : GV mg "KIND_TXT" (.int 16)
  gv_KIND_AAAA : GV mg "KIND_AAAA" (.int 28)
  gv_KIND_NAMES : GV mg "KIND_NAMES" (.ref t.d_KIND_NAMES)
  gv_LAYOUTS : GV mg "LAYOUTS" (.ref t.d_LAYOUTS)
  gv_CLASS_NAMES : GV mg "CLASS_NAMES" (.ref t.d_CLASS_NAMES)
  gv_SECTION_NAMES : GV mg "SECTION_NAMES" (.ref t.u_SECTION_NAMES)
  gv_QUESTIONS : GV mg "QUESTIONS" (.int 0)
  gv_MOST_BYTES : GV mg "MOST_BYTES" (.int 4096)
  gv_LONGEST_LABEL : GV mg "LONGEST_LABEL" (.int 63)
  gv_LONGEST_NAME : GV mg "LONGEST_NAME" (.int 255)
  gv_FIRST_POINTER : GV mg "FIRST_POINTER" (.int 192)
  gv_LINE_FEED : GV mg "LINE_FEED" (.int 10)
  gv_SPACE : GV mg "SPACE" (.int 32)
  gv_QUOTE : GV mg "QUOTE" (.int 34)
  gv_HYPHEN : GV mg "HYPHEN" (.int 45)
  gv_DOT : GV mg "DOT" (.int 46)
  gv_COLON : GV mg "COLON" (.int 58)
  gv_BACKSLASH : GV mg "BACKSLASH" (.int 92)
  gv_UNDERSCORE : GV mg "UNDERSCORE" (.int 95)
  gv_LAST_PRINTED : GV mg "LAST_PRINTED" (.int 126)
  gv_HEX_DIGITS : GV mg "HEX_DIGITS" (.str "0123456789abcdef")
  gv_WRONG : GV mg "WRONG" (.int (-1))
  gv_TOO_MUCH : GV mg "TOO_MUCH" (.int (-2))
  kd_KIND_NAMES : KD K t.d_KIND_NAMES [(1, .str "A"), (2, .str "NS"), (5, .str "CNAME"), (6, .str "SOA"), (12, .str "PTR"), (15, .str "MX"), (16, .str "TXT"), (28, .str "AAAA"), (33, .str "SRV")]
  kd_LAYOUTS : KD K t.d_LAYOUTS [(1, .ref t.v_LAYOUTS_0), (2, .ref t.v_LAYOUTS_1), (5, .ref t.v_LAYOUTS_2), (6, .ref t.v_LAYOUTS_3), (12, .ref t.v_LAYOUTS_4), (15, .ref t.v_LAYOUTS_5), (28, .ref t.v_LAYOUTS_6), (33, .ref t.v_LAYOUTS_7)]
  kd_CLASS_NAMES : KD K t.d_CLASS_NAMES [(1, .str "IN"), (3, .str "CH"), (4, .str "HS")]
  kt_LAYOUTS_0 : KT0 K t.v_LAYOUTS_0 [.int 4, .int 0, .int 0]
  kt_LAYOUTS_1 : KT0 K t.v_LAYOUTS_1 [.int 0, .int 1, .int 0]
  kt_LAYOUTS_2 : KT0 K t.v_LAYOUTS_2 [.int 0, .int 1, .int 0]
  kt_LAYOUTS_3 : KT0 K t.v_LAYOUTS_3 [.int 0, .int 2, .int 20]
  kt_LAYOUTS_4 : KT0 K t.v_LAYOUTS_4 [.int 0, .int 1, .int 0]
  kt_LAYOUTS_5 : KT0 K t.v_LAYOUTS_5 [.int 2, .int 1, .int 0]
  kt_LAYOUTS_6 : KT0 K t.v_LAYOUTS_6 [.int 16, .int 0, .int 0]
  kt_LAYOUTS_7 : KT0 K t.v_LAYOUTS_7 [.int 6, .int 1, .int 0]
  kt_SECTION_NAMES : KT0 K t.u_SECTION_NAMES [.str "Q", .str "AN", .str "NS", .str "AR"]
  nb_enumerate : mg "enumerate" = none
  nb_len : mg "len" = none
  nb_ord : mg "ord" = none
  nb_range : mg "range" = none
  nb_str : mg "str" = none
/-! ### 2. the objects -/
def fl_Message (x0 x1 x2 : V) : List (Str × V) := [("number", x0), ("flags", x1), ("entries", x2)]
theorem lk_Message_number {x0 x1 x2 : V} : (fl_Message x0 x1 x2).lookup ("number" : Str) = some x0 := by kernel_rfl
theorem st_Message_number {x0 x1 x2 : V} (y : V) : putF "number" y (fl_Message x0 x1 x2) = fl_Message y x1 x2 := by kernel_rfl
theorem lk_Message_flags {x0 x1 x2 : V} : (fl_Message x0 x1 x2).lookup ("flags" : Str) = some x1 := by kernel_rfl
theorem st_Message_flags {x0 x1 x2 : V} (y : V) : putF "flags" y (fl_Message x0 x1 x2) = fl_Message x0 y x2 := by kernel_rfl
theorem lk_Message_entries {x0 x1 x2 : V} : (fl_Message x0 x1 x2).lookup ("entries" : Str) = some x2 := by kernel_rfl
theorem st_Message_entries {x0 x1 x2 : V} (y : V) : putF "entries" y (fl_Message x0 x1 x2) = fl_Message x0 x1 y := by kernel_rfl
theorem in_Message {x0 x1 x2 : V} : putF "entries" x2 (putF "flags" x1 (putF "number" x0 [])) = fl_Message x0 x1 x2 := by kernel_rfl
theorem ln_Message {x0 x1 x2 : V} : (fl_Message x0 x1 x2).length < 1000 := by show 3 < 1000; decide
/-- a new Message -/
def sp_Message_init (C : Addr) : Sp := fun vs H Q _ => ∃ (p dx : Addr) (x0 x1 x2 : V), vs = [.ref p, x0, x1, x2] ∧ H p = some (.ins C dx []) ∧ ∀ H' : Hp, H' p = some (.ins C dx (fl_Message x0 x1 x2)) → (∀ b o, H b = some o → b ≠ p → H' b = some o) → Q .non H'
def fl_Entry (x0 x1 x2 x3 x4 x5 : V) : List (Str × V) := [("section", x0), ("name", x1), ("kind", x2), ("cls", x3), ("ttl", x4), ("data", x5)]
theorem lk_Entry_section {x0 x1 x2 x3 x4 x5 : V} : (fl_Entry x0 x1 x2 x3 x4 x5).lookup ("section" : Str) = some x0 := by kernel_rfl
theorem st_Entry_section {x0 x1 x2 x3 x4 x5 : V} (y : V) : putF "section" y (fl_Entry x0 x1 x2 x3 x4 x5) = fl_Entry y x1 x2 x3 x4 x5 := by kernel_rfl
theorem lk_Entry_name {x0 x1 x2 x3 x4 x5 : V} : (fl_Entry x0 x1 x2 x3 x4 x5).lookup ("name" : Str) = some x1 := by kernel_rfl
theorem st_Entry_name {x0 x1 x2 x3 x4 x5 : V} (y : V) : putF "name" y (fl_Entry x0 x1 x2 x3 x4 x5) = fl_Entry x0 y x2 x3 x4 x5 := by kernel_rfl
theorem lk_Entry_kind {x0 x1 x2 x3 x4 x5 : V} : (fl_Entry x0 x1 x2 x3 x4 x5).lookup ("kind" : Str) = some x2 := by kernel_rfl
theorem st_Entry_kind {x0 x1 x2 x3 x4 x5 : V} (y : V) : putF "kind" y (fl_Entry x0 x1 x2 x3 x4 x5) = fl_Entry x0 x1 y x3 x4 x5 := by kernel_rfl
theorem lk_Entry_cls {x0 x1 x2 x3 x4 x5 : V} : (fl_Entry x0 x1 x2 x3 x4 x5).lookup ("cls" : Str) = some x3 := by kernel_rfl
theorem st_Entry_cls {x0 x1 x2 x3 x4 x5 : V} (y : V) : putF "cls" y (fl_Entry x0 x1 x2 x3 x4 x5) = fl_Entry x0 x1 x2 y x4 x5 := by kernel_rfl
theorem lk_Entry_ttl {x0 x1 x2 x3 x4 x5 : V} : (fl_Entry x0 x1 x2 x3 x4 x5).lookup ("ttl" : Str) = some x4 := by kernel_rfl
theorem st_Entry_ttl {x0 x1 x2 x3 x4 x5 : V} (y : V) : putF "ttl" y (fl_Entry x0 x1 x2 x3 x4 x5) = fl_Entry x0 x1 x2 x3 y x5 := by kernel_rfl
theorem lk_Entry_data {x0 x1 x2 x3 x4 x5 : V} : (fl_Entry x0 x1 x2 x3 x4 x5).lookup ("data" : Str) = some x5 := by kernel_rfl
theorem st_Entry_data {x0 x1 x2 x3 x4 x5 : V} (y : V) : putF "data" y (fl_Entry x0 x1 x2 x3 x4 x5) = fl_Entry x0 x1 x2 x3 x4 y := by kernel_rfl
theorem in_Entry {x0 x1 x2 x3 x4 x5 : V} : putF "data" x5 (putF "ttl" x4 (putF "cls" x3 (putF "kind" x2 (putF "name" x1 (putF "section" x0 []))))) = fl_Entry x0 x1 x2 x3 x4 x5 := by kernel_rfl
theorem ln_Entry {x0 x1 x2 x3 x4 x5 : V} : (fl_Entry x0 x1 x2 x3 x4 x5).length < 1000 := by show 6 < 1000; decide
/-- a new Entry -/
def sp_Entry_init (C : Addr) : Sp := fun vs H Q _ => ∃ (p dx : Addr) (x0 x1 x2 x3 x4 x5 : V), vs = [.ref p, x0, x1, x2, x3, x4, x5] ∧ H p = some (.ins C dx []) ∧ ∀ H' : Hp, H' p = some (.ins C dx (fl_Entry x0 x1 x2 x3 x4 x5)) → (∀ b o, H b = some o → b ≠ p → H' b = some o) → Q .non H'
def fl_Data (x0 x1 x2 : V) : List (Str × V) := [("front", x0), ("names", x1), ("back", x2)]
theorem lk_Data_front {x0 x1 x2 : V} : (fl_Data x0 x1 x2).lookup ("front" : Str) = some x0 := by kernel_rfl
theorem st_Data_front {x0 x1 x2 : V} (y : V) : putF "front" y (fl_Data x0 x1 x2) = fl_Data y x1 x2 := by kernel_rfl
theorem lk_Data_names {x0 x1 x2 : V} : (fl_Data x0 x1 x2).lookup ("names" : Str) = some x1 := by kernel_rfl
theorem st_Data_names {x0 x1 x2 : V} (y : V) : putF "names" y (fl_Data x0 x1 x2) = fl_Data x0 y x2 := by kernel_rfl
theorem lk_Data_back {x0 x1 x2 : V} : (fl_Data x0 x1 x2).lookup ("back" : Str) = some x2 := by kernel_rfl
theorem st_Data_back {x0 x1 x2 : V} (y : V) : putF "back" y (fl_Data x0 x1 x2) = fl_Data x0 x1 y := by kernel_rfl
theorem in_Data {x0 x1 x2 : V} : putF "back" x2 (putF "names" x1 (putF "front" x0 [])) = fl_Data x0 x1 x2 := by kernel_rfl
theorem ln_Data {x0 x1 x2 : V} : (fl_Data x0 x1 x2).length < 1000 := by show 3 < 1000; decide
/-- a new Data -/
def sp_Data_init (C : Addr) : Sp := fun vs H Q _ => ∃ (p dx : Addr) (x0 x1 x2 : V), vs = [.ref p, x0, x1, x2] ∧ H p = some (.ins C dx []) ∧ ∀ H' : Hp, H' p = some (.ins C dx (fl_Data x0 x1 x2)) → (∀ b o, H b = some o → b ≠ p → H' b = some o) → Q .non H'
def fl_Reader (x0 x1 x2 : V) : List (Str × V) := [("message", x0), ("at", x1), ("end", x2)]
theorem lk_Reader_message {x0 x1 x2 : V} : (fl_Reader x0 x1 x2).lookup ("message" : Str) = some x0 := by kernel_rfl
theorem st_Reader_message {x0 x1 x2 : V} (y : V) : putF "message" y (fl_Reader x0 x1 x2) = fl_Reader y x1 x2 := by kernel_rfl
theorem lk_Reader_at {x0 x1 x2 : V} : (fl_Reader x0 x1 x2).lookup ("at" : Str) = some x1 := by kernel_rfl
theorem st_Reader_at {x0 x1 x2 : V} (y : V) : putF "at" y (fl_Reader x0 x1 x2) = fl_Reader x0 y x2 := by kernel_rfl
theorem lk_Reader_end {x0 x1 x2 : V} : (fl_Reader x0 x1 x2).lookup ("end" : Str) = some x2 := by kernel_rfl
theorem st_Reader_end {x0 x1 x2 : V} (y : V) : putF "end" y (fl_Reader x0 x1 x2) = fl_Reader x0 x1 y := by kernel_rfl
theorem in_Reader {x0 x1 x2 : V} : putF "end" x2 (putF "at" x1 (putF "message" x0 [])) = fl_Reader x0 x1 x2 := by kernel_rfl
theorem ln_Reader {x0 x1 x2 : V} : (fl_Reader x0 x1 x2).length < 1000 := by show 3 < 1000; decide
theorem no_Reader_pass_over {x0 x1 x2 : V} : (fl_Reader x0 x1 x2).lookup ("pass_over" : Str) = none := by kernel_rfl
theorem no_Reader_take_byte {x0 x1 x2 : V} : (fl_Reader x0 x1 x2).lookup ("take_byte" : Str) = none := by kernel_rfl
theorem no_Reader_take_bytes {x0 x1 x2 : V} : (fl_Reader x0 x1 x2).lookup ("take_bytes" : Str) = none := by kernel_rfl
theorem no_Reader_take_number {x0 x1 x2 : V} : (fl_Reader x0 x1 x2).lookup ("take_number" : Str) = none := by kernel_rfl
theorem no_Reader_take_part {x0 x1 x2 : V} : (fl_Reader x0 x1 x2).lookup ("take_part" : Str) = none := by kernel_rfl
theorem no_Reader_take_name {x0 x1 x2 : V} : (fl_Reader x0 x1 x2).lookup ("take_name" : Str) = none := by kernel_rfl
theorem no_Reader_take_label {x0 x1 x2 : V} : (fl_Reader x0 x1 x2).lookup ("take_label" : Str) = none := by kernel_rfl
theorem no_Reader_take_string {x0 x1 x2 : V} : (fl_Reader x0 x1 x2).lookup ("take_string" : Str) = none := by kernel_rfl
theorem no_Reader_take_rest {x0 x1 x2 : V} : (fl_Reader x0 x1 x2).lookup ("take_rest" : Str) = none := by kernel_rfl
theorem no_Reader_check_done {x0 x1 x2 : V} : (fl_Reader x0 x1 x2).lookup ("check_done" : Str) = none := by kernel_rfl
/-- a new Reader -/
def sp_Reader_init (C : Addr) : Sp := fun vs H Q _ => ∃ (p dx : Addr) (x0 x1 x2 : V), vs = [.ref p, x0, x1, x2] ∧ H p = some (.ins C dx []) ∧ ∀ H' : Hp, H' p = some (.ins C dx (fl_Reader x0 x1 x2)) → (∀ b o, H b = some o → b ≠ p → H' b = some o) → Q .non H'
abbrev bV (c : UInt8) : V := .int ((c.toNat : Nat) : Int)
abbrev iv (b : Sp08.Bytes) : List V := b.map bV
/-- all but p is as it was -/
def SameX (p : Addr) (H H' : Hp) : Prop := ∀ b o, H b = some o → b ≠ p → H' b = some o
theorem SameX.refl (p : Addr) (H : Hp) : SameX p H H := fun _ _ h _ => h
theorem SameX.trans {p : Addr} {H H1 H2 : Hp} (a : SameX p H H1) (b : SameX p H1 H2) : SameX p H H2 := fun c o h n => b c o (a c o h n) n
theorem SameX.of {p : Addr} {H H' : Hp} (a : Same H H') : SameX p H H' := fun c o h _ => a c o h
theorem SameX.upd {p : Addr} {H : Hp} {o : HO} : SameX p H (L2.upd H p o) := fun b q h n => by rw [upd_ne n]; exact h
theorem Same.upd {l : Addr} {H : Hp} {o : HO} (n : H l = none) : Same H (L2.upd H l o) := fun b q h => by rw [upd_ne (ne_of_none h n)]; exact h
theorem SameX.seq {K : PySem.W.Frag} {p a : Addr} {H H' : Hp} {xs : List V} {C dx : Addr} {fs : List (Str × V)} (e : SameX p H H') (hp : H p = some (.ins C dx fs)) (h : SqL K H a xs) : SqL K H' a xs := by
  rcases h with (h | ⟨o, h⟩) | h
  · exact .inl (.inl (e _ _ h (ne_of h hp (by intro z; cases z))))
  · exact .inl (.inr ⟨o, e _ _ h (ne_of h hp (by intro z; cases z))⟩)
  · exact .inr h
/-- a reader at p: the next place is a, what it may read is r -/
def RdS (K : PySem.W.Frag) (t : Ad) (H : Hp) (p : Addr) (a : Nat) (r : Sp08.Bytes) : Prop :=
  ∃ (ma dx : Addr) (m : Sp08.Bytes), H p = some (.ins t.c_Reader dx (fl_Reader (.ref ma) (.int (a : Int)) (.int (r.length : Int)))) ∧ SqL K H ma (iv m) ∧ r = m.take r.length ∧ r.length ≤ m.length
theorem iv_cut {m r : Sp08.Bytes} {a n : Nat} (hr : r = m.take r.length) (hl : r.length ≤ m.length) (h : a + n ≤ r.length) : cutV (iv m) (some (a : Int)) (some ((a + n : Nat) : Int)) = iv ((r.drop a).take n) := by
  unfold cutV
  rw [HT.sIx_nat, HT.sIx_nat, List.length_map]
  have h1 : min a m.length = a := by omega
  have h2 : min (a + n) m.length = a + n := by omega
  rw [h1, h2, ← List.map_drop, ← List.map_take]
  congr 1
  rw [show a + n - a = n by omega]
  conv => rhs; rw [hr]
  rw [List.drop_take, List.take_take]
  congr 1
  omega
section
variable {P : Program} {w : World} {K : PySem.W.Frag} {mg : Str → Option Value} {base : Heap} {t : Ad}
/-! ### 3. new objects -/
theorem ok_Message_init (T : Txt K mg t) : Ok P w K mg base CX0 1 t.f_Message_init ["self", "number", "flags", "entries"] (sp_Message_init t.c_Message) := by
  obtain ⟨fd, F, bd⟩ := T.fn_Message_init
  refine ⟨fd, bd, F.kp, F.ok sc_Message_init (fun vs H Q E h => ?_) (fun cdv A outer s H vs Q E hr h => ?_)⟩
  · obtain ⟨p, dx, x0, x1, x2, rfl, _⟩ := h
    rfl
  · obtain ⟨p, dx, x0, x1, x2, rfl, hp, k⟩ := h
    refine ⟨_, (pss_cons (ps_fld (pv 0) (pv 1) rfl) (pss_cons (ps_fld (pv 0) (pv 2) rfl) (pss_one (ps_fld (pv 0) (pv 3) rfl)))), ?_⟩
    refine ⟨_, rfl, _, rfl, p, t.c_Message, dx, _, rfl, hp, T.cl_Message, T.na_Message_number, pl0, _, rfl, _, rfl, p, t.c_Message, dx, _, rfl, upd_same, T.cl_Message, T.na_Message_flags, pl1, _, rfl, _, rfl, p, t.c_Message, dx, _, rfl, upd_same, T.cl_Message, T.na_Message_entries, pl2, ?_⟩
    refine k _ (Eq.trans upd_same (congrArg (fun q => some (HO.ins t.c_Message dx q)) in_Message)) fun b o e hb => ?_
    rw [upd_ne hb, upd_ne hb, upd_ne hb]
    exact e
theorem ok_Entry_init (T : Txt K mg t) : Ok P w K mg base CX0 1 t.f_Entry_init ["self", "section", "name", "kind", "cls", "ttl", "data"] (sp_Entry_init t.c_Entry) := by
  obtain ⟨fd, F, bd⟩ := T.fn_Entry_init
  refine ⟨fd, bd, F.kp, F.ok sc_Entry_init (fun vs H Q E h => ?_) (fun cdv A outer s H vs Q E hr h => ?_)⟩
  · obtain ⟨p, dx, x0, x1, x2, x3, x4, x5, rfl, _⟩ := h
    rfl
  · obtain ⟨p, dx, x0, x1, x2, x3, x4, x5, rfl, hp, k⟩ := h
    refine ⟨_, (pss_cons (ps_fld (pv 0) (pv 1) rfl) (pss_cons (ps_fld (pv 0) (pv 2) rfl) (pss_cons (ps_fld (pv 0) (pv 3) rfl) (pss_cons (ps_fld (pv 0) (pv 4) rfl) (pss_cons (ps_fld (pv 0) (pv 5) rfl) (pss_one (ps_fld (pv 0) (pv 6) rfl))))))), ?_⟩
    refine ⟨_, rfl, _, rfl, p, t.c_Entry, dx, _, rfl, hp, T.cl_Entry, T.na_Entry_section, pl0, _, rfl, _, rfl, p, t.c_Entry, dx, _, rfl, upd_same, T.cl_Entry, T.na_Entry_name, pl1, _, rfl, _, rfl, p, t.c_Entry, dx, _, rfl, upd_same, T.cl_Entry, T.na_Entry_kind, pl2, _, rfl, _, rfl, p, t.c_Entry, dx, _, rfl, upd_same, T.cl_Entry, T.na_Entry_cls, pl3, _, rfl, _, rfl, p, t.c_Entry, dx, _, rfl, upd_same, T.cl_Entry, T.na_Entry_ttl, pl4, _, rfl, _, rfl, p, t.c_Entry, dx, _, rfl, upd_same, T.cl_Entry, T.na_Entry_data, pl5, ?_⟩
    refine k _ (Eq.trans upd_same (congrArg (fun q => some (HO.ins t.c_Entry dx q)) in_Entry)) fun b o e hb => ?_
    rw [upd_ne hb, upd_ne hb, upd_ne hb, upd_ne hb, upd_ne hb, upd_ne hb]
    exact e
theorem ok_Data_init (T : Txt K mg t) : Ok P w K mg base CX0 1 t.f_Data_init ["self", "front", "names", "back"] (sp_Data_init t.c_Data) := by
  obtain ⟨fd, F, bd⟩ := T.fn_Data_init
  refine ⟨fd, bd, F.kp, F.ok sc_Data_init (fun vs H Q E h => ?_) (fun cdv A outer s H vs Q E hr h => ?_)⟩
  · obtain ⟨p, dx, x0, x1, x2, rfl, _⟩ := h
    rfl
  · obtain ⟨p, dx, x0, x1, x2, rfl, hp, k⟩ := h
    refine ⟨_, (pss_cons (ps_fld (pv 0) (pv 1) rfl) (pss_cons (ps_fld (pv 0) (pv 2) rfl) (pss_one (ps_fld (pv 0) (pv 3) rfl)))), ?_⟩
    refine ⟨_, rfl, _, rfl, p, t.c_Data, dx, _, rfl, hp, T.cl_Data, T.na_Data_front, pl0, _, rfl, _, rfl, p, t.c_Data, dx, _, rfl, upd_same, T.cl_Data, T.na_Data_names, pl1, _, rfl, _, rfl, p, t.c_Data, dx, _, rfl, upd_same, T.cl_Data, T.na_Data_back, pl2, ?_⟩
    refine k _ (Eq.trans upd_same (congrArg (fun q => some (HO.ins t.c_Data dx q)) in_Data)) fun b o e hb => ?_
    rw [upd_ne hb, upd_ne hb, upd_ne hb]
    exact e
theorem ok_Reader_init (T : Txt K mg t) : Ok P w K mg base CX0 1 t.f_Reader_init ["self", "message", "at", "end"] (sp_Reader_init t.c_Reader) := by
  obtain ⟨fd, F, bd⟩ := T.fn_Reader_init
  refine ⟨fd, bd, F.kp, F.ok sc_Reader_init (fun vs H Q E h => ?_) (fun cdv A outer s H vs Q E hr h => ?_)⟩
  · obtain ⟨p, dx, x0, x1, x2, rfl, _⟩ := h
    rfl
  · obtain ⟨p, dx, x0, x1, x2, rfl, hp, k⟩ := h
    refine ⟨_, (pss_cons (ps_fld (pv 0) (pv 1) rfl) (pss_cons (ps_fld (pv 0) (pv 2) rfl) (pss_one (ps_fld (pv 0) (pv 3) rfl)))), ?_⟩
    refine ⟨_, rfl, _, rfl, p, t.c_Reader, dx, _, rfl, hp, T.cl_Reader, T.na_Reader_message, pl0, _, rfl, _, rfl, p, t.c_Reader, dx, _, rfl, upd_same, T.cl_Reader, T.na_Reader_at, pl1, _, rfl, _, rfl, p, t.c_Reader, dx, _, rfl, upd_same, T.cl_Reader, T.na_Reader_end, pl2, ?_⟩
    refine k _ (Eq.trans upd_same (congrArg (fun q => some (HO.ins t.c_Reader dx q)) in_Reader)) fun b o e hb => ?_
    rw [upd_ne hb, upd_ne hb, upd_ne hb]
    exact e
/-! ### 4. the reader -/
def sp_pass_over (K : PySem.W.Frag) (t : Ad) : Sp := fun vs H Q E => ∃ (p : Addr) (a n : Nat) (r : Sp08.Bytes), vs = [.ref p, .int (n : Int)] ∧ RdS K t H p a r ∧ (r.length < a + n → ∀ H', E (.ref t.c_NotMessage) none H') ∧
  (a + n ≤ r.length → ∀ H', RdS K t H' p (a + n) r → SameX p H H' → Q (.int (a : Int)) H')
theorem ok_Reader_pass_over (T : Txt K mg t) : Ok P w K mg base (XN P w t.c_NotMessage) 1 t.f_Reader_pass_over ["self", "size"] (sp_pass_over K t) := by
  obtain ⟨fd, F, bd⟩ := T.fn_Reader_pass_over
  refine ⟨fd, bd, F.kp, F.okX (C := t.c_NotMessage) sc_Reader_pass_over (fun vs H Q E h => ?_) (fun cdv A outer s H vs Q E hr h => ?_)⟩
  · obtain ⟨p, a, n, r, rfl, _⟩ := h
    rfl
  · obtain ⟨p, a, n, r, rfl, ⟨ma, dx, m, hp, hm, er, hl⟩, kE, kQ⟩ := h
    refine ⟨_, (pss_cons (ps_set (i := 2) sc_Reader_pass_over.nd rfl (Or.inl rfl) (pe_fld (pv 0) rfl)) (pss_cons (ps_if (pt_cmpR op_gt (pe_op op_add (pv 2) (pv 1)) (pe_fld (pv 0) rfl) (nomark _)) (pss_one (ps_raise raises1 T.ex_NotMessage rfl rfl)) pss_nil) (pss_cons (ps_fld (pv 0) (pe_op op_add (pv 2) (pv 1)) rfl) (pss_one (ps_ret (pv 2)))))), ?_⟩
    refine ⟨_, rfl, p, _, dx, _, _, rfl, hp, T.cl_Reader, T.na_Reader_at, lk_Reader_at, _, rfl, _, rfl, _, _, rfl, rfl, _, rfl, p, _, dx, _, _, rfl, hp, T.cl_Reader, T.na_Reader_end, lk_Reader_end, _, _, rfl, rfl, _, rfl, ?_⟩
    refine ite2 (fun hlt => ?_) (fun hlt => ?_)
    · have hlt := of_decide_eq_true hlt
      exact kE (by omega) _
    · have hge : ¬ ((r.length : Int) < (a : Int) + (n : Int)) := fun z => hlt (decide_eq_true z)
      refine ⟨_, rfl, _, rfl, _, _, rfl, rfl, _, rfl, p, _, dx, _, rfl, hp, T.cl_Reader, T.na_Reader_at, ln_Reader, _, rfl, ?_⟩
      have e1 : (a : Int) + (n : Int) = ((a + n : Nat) : Int) := by omega
      refine kQ (by omega) _ ⟨ma, dx, m, ?_, SameX.seq SameX.upd hp hm, er, hl⟩ SameX.upd
      rw [upd_same, st_Reader_at, ← e1]
end
end Pn
end
section
set_option linter.all false
set_option Elab.async false
set_option maxRecDepth 100000
namespace Pn
open PySem L2
theorem iv_get {b : Sp08.Bytes} {i : Nat} {y : V} (h : (iv b)[i]? = some y) : ∃ c, b[i]? = some c ∧ y = bV c := by
  rw [List.getElem?_map] at h
  cases e : b[i]? with
  | none => rw [e] at h; cases h
  | some c => rw [e] at h; exact ⟨c, rfl, (Option.some.inj h).symm⟩
theorem iv_of {b : Sp08.Bytes} {i : Nat} {c : UInt8} (h : b[i]? = some c) : (iv b)[i]? = some (bV c) := by
  rw [List.getElem?_map, h]; rfl
section
variable {P : Program} {w : World} {K : PySem.W.Frag} {mg : Str → Option Value} {base : Heap} {t : Ad}
def sp_number_of (K : PySem.W.Frag) : Sp := fun vs H Q _ => ∃ (a : Addr) (b : Sp08.Bytes), vs = [.ref a] ∧ SqL K H a (iv b) ∧ Q (.int ((Sp08.number b : Nat) : Int)) H
theorem ok_number_of (T : Txt K mg t) : Ok P w K mg base CX0 1 t.f_number_of ["digits"] (sp_number_of K) := by
  obtain ⟨fd, F, bd⟩ := T.fn_number_of
  refine ⟨fd, bd, F.kp, F.ok sc_number_of (fun vs H Q E h => ?_) (fun cdv A outer s H vs Q E hr h => ?_)⟩
  · obtain ⟨a, b, rfl, _⟩ := h
    rfl
  · obtain ⟨a, b, rfl, hS, k⟩ := h
    refine ⟨_, (pss_cons (ps_set (i := 1) sc_number_of.nd rfl (Or.inl rfl) pe_int) (pss_cons (ps_for PassesOwn.never rfl (pi_list (pv 0)) (pg_name (i := 2) sc_number_of.nd rfl (Or.inl rfl)) (pss_one (ps_set (i := 1) sc_number_of.nd rfl (Or.inl rfl) (pe_op op_add (pe_op op_mul (pv 1) pe_int) (pv 2))))) (pss_one (ps_ret (pv 1))))), ?_⟩
    refine ⟨_, rfl, a, rfl, ⟨_, hS⟩, for_list (K := K) (a := a) (xs := iv b) (fun i σ H2 => ∃ v : Option V, σ = [some (.ref a), some (.int ((Sp08.number (b.take i) : Nat) : Int)), v] ∧ H2 = H)
      ⟨none, rfl, rfl⟩ (fun i σ H2 _ ⟨_, _, e⟩ => by rw [e]; exact hS) ?_ ?_⟩
    · rintro i y σ H2 hi ⟨v, rfl, rfl⟩
      obtain ⟨c, hc, rfl⟩ := iv_get hi
      refine ⟨_, rfl, _, _, rfl, rfl, .inr ⟨by decide, by decide⟩, _, rfl, _, _, rfl, rfl, ?_⟩
      refine ⟨some (bV c), ?_, rfl⟩
      obtain ⟨hl, ec⟩ := List.getElem?_eq_some_iff.mp hc
      rw [List.take_succ_eq_append_getElem hl, ec, Ma.number_snoc]
      have e : ((Sp08.number (b.take i) : Nat) : Int) * 256 + ((c.toNat : Nat) : Int) = ((256 * Sp08.number (b.take i) + c.toNat : Nat) : Int) := by omega
      show [some (V.ref a), some (V.int (((Sp08.number (b.take i) : Nat) : Int) * 256 + ((c.toNat : Nat) : Int))), some (bV c)] = _
      rw [e]
    · rintro σ H2 ⟨v, rfl, rfl⟩
      refine ⟨_, rfl, ?_⟩
      rw [List.length_map, List.take_length]
      exact k
def sp_take_byte (K : PySem.W.Frag) (t : Ad) : Sp := fun vs H Q E => ∃ (p : Addr) (a : Nat) (r : Sp08.Bytes), vs = [.ref p] ∧ RdS K t H p a r ∧ (r[a]? = none → ∀ H', E (.ref t.c_NotMessage) none H') ∧
  (∀ c, r[a]? = some c → ∀ H', RdS K t H' p (a + 1) r → SameX p H H' → Q (bV c) H')
theorem ok_Reader_take_byte (T : Txt K mg t) : Ok P w K mg base (XN P w t.c_NotMessage) 2 t.f_Reader_take_byte ["self"] (sp_take_byte K t) := by
  obtain ⟨fd, F, bd⟩ := T.fn_Reader_take_byte
  obtain ⟨fd_Reader_pass_over, b_Reader_pass_over, k_Reader_pass_over, G_Reader_pass_over⟩ := ok_Reader_pass_over (P := P) (w := w) (base := base) T
  refine ⟨fd, bd, F.kp, F.okX (C := t.c_NotMessage) sc_Reader_take_byte (fun vs H Q E h => ?_) (fun cdv A outer s H vs Q E hr h => ?_)⟩
  · obtain ⟨p, a, r, rfl, _⟩ := h
    rfl
  · obtain ⟨p, a, r, rfl, R, kE, kQ⟩ := h
    obtain ⟨ma, dx, m, hp, hm, er, hl⟩ := id R
    refine ⟨_, (pss_one (ps_ret (pe_ix ix_list (pe_fld (pv 0) rfl) (pe_meth (pv 0) T.cl_Reader T.me_Reader_pass_over G_Reader_pass_over (hr.mono (by decide)) b_Reader_pass_over .nil pass1 (pa_cons pe_int pa_nil)) (fun _ _ => rfl)))), ?_⟩
    refine ⟨_, rfl, p, _, dx, _, _, rfl, hp, T.cl_Reader, T.na_Reader_message, lk_Reader_message, _, rfl, p, dx, _, rfl, hp, no_Reader_pass_over, p, a, 1, r, rfl, R, fun hlt H' => ?_, fun hge H' R' s' => ?_⟩
    · exact kE (List.getElem?_eq_none (by omega)) H'
    · obtain ⟨c, hc⟩ : ∃ c, r[a]? = some c := ⟨r[a], List.getElem?_eq_getElem (by omega)⟩
      have hmc : m[a]? = some c := by
        rw [er, List.getElem?_take] at hc
        split at hc
        · exact hc
        · cases hc
      exact ⟨ma, _, _, bV c, rfl, rfl, s'.seq hp hm, atI_nat (iv_of hmc), kQ c hc H' R' s'⟩
def sp_take_bytes (K : PySem.W.Frag) (t : Ad) : Sp := fun vs H Q E => ∃ (p : Addr) (a n : Nat) (r : Sp08.Bytes), vs = [.ref p, .int (n : Int)] ∧ RdS K t H p a r ∧ (r.length < a + n → ∀ H', E (.ref t.c_NotMessage) none H') ∧
  (a + n ≤ r.length → ∀ H' l, RdS K t H' p (a + n) r → SameX p H H' → H l = none → H' l = some (.lst (iv ((r.drop a).take n))) → Q (.ref l) H')
theorem RdS.same {t : Ad} {H H' : Hp} {p : Addr} {a : Nat} {r : Sp08.Bytes} (h : RdS K t H p a r) (e : Same H H') : RdS K t H' p a r := by
  obtain ⟨ma, dx, m, hp, hm, er, hl⟩ := h
  exact ⟨ma, dx, m, e _ _ hp, e.seq hm, er, hl⟩
theorem RdS.free {t : Ad} {H : Hp} {p l : Addr} {a : Nat} {r : Sp08.Bytes} (h : RdS K t H p a r) (n : H l = none) : p ≠ l := by
  obtain ⟨ma, dx, m, hp, hm, er, hl⟩ := h
  exact ne_of_none hp n
theorem SameX.free {p l : Addr} {H H' : Hp} (e : SameX p H H') (n : H' l = none) (h : p ≠ l) : H l = none := by
  cases q : H l with
  | none => rfl
  | some o => rw [e l o q (Ne.symm h)] at n; cases n
theorem ok_Reader_take_bytes (T : Txt K mg t) : Ok P w K mg base (XN P w t.c_NotMessage) 2 t.f_Reader_take_bytes ["self", "size"] (sp_take_bytes K t) := by
  obtain ⟨fd, F, bd⟩ := T.fn_Reader_take_bytes
  obtain ⟨fd_Reader_pass_over, b_Reader_pass_over, k_Reader_pass_over, G_Reader_pass_over⟩ := ok_Reader_pass_over (P := P) (w := w) (base := base) T
  refine ⟨fd, bd, F.kp, F.okX (C := t.c_NotMessage) sc_Reader_take_bytes (fun vs H Q E h => ?_) (fun cdv A outer s H vs Q E hr h => ?_)⟩
  · obtain ⟨p, a, n, r, rfl, _⟩ := h
    rfl
  · obtain ⟨p, a, n, r, rfl, R, kE, kQ⟩ := h
    obtain ⟨ma, dx, m, hp, hm, er, hl⟩ := id R
    refine ⟨_, (pss_cons (ps_set (i := 2) sc_Reader_take_bytes.nd rfl (Or.inl rfl) (pe_meth (pv 0) T.cl_Reader T.me_Reader_pass_over G_Reader_pass_over (hr.mono (by decide)) b_Reader_pass_over .nil pass1 (pa_cons (pv 1) pa_nil))) (pss_one (ps_ret (pe_slice (r := rSlL K) sl_list (pe_fld (pv 0) rfl) (po_some (pv 2)) (po_some (pe_fld (pv 0) rfl)))))), ?_⟩
    refine ⟨_, rfl, p, dx, _, rfl, hp, no_Reader_pass_over, _, rfl, p, a, n, r, rfl, R, fun hlt H' => kE hlt H', fun hge H' R' s' => ?_⟩
    obtain ⟨ma', dx', m', hp', hm', er', hl'⟩ := id R'
    refine ⟨_, rfl, p, _, dx', _, _, rfl, hp', T.cl_Reader, T.na_Reader_message, lk_Reader_message, _, rfl, _, rfl, _, rfl, p, _, dx', _, _, rfl, hp', T.cl_Reader, T.na_Reader_at, lk_Reader_at, _, rfl, ma', _, rfl, hm', fun l hl0 => ?_⟩
    refine kQ hge _ l (R'.same (Same.upd hl0)) (s'.trans (SameX.of (Same.upd hl0))) (s'.free hl0 (R'.free hl0)) ?_
    rw [upd_same, iv_cut er' hl' hge]
def sp_take_number (K : PySem.W.Frag) (t : Ad) : Sp := fun vs H Q E => ∃ (p : Addr) (a n : Nat) (r : Sp08.Bytes), vs = [.ref p, .int (n : Int)] ∧ RdS K t H p a r ∧ (r.length < a + n → ∀ H', E (.ref t.c_NotMessage) none H') ∧
  (a + n ≤ r.length → ∀ H', RdS K t H' p (a + n) r → SameX p H H' → Q (.int ((Sp08.number ((r.drop a).take n) : Nat) : Int)) H')
theorem ok_Reader_take_number (T : Txt K mg t) : Ok P w K mg base (XN P w t.c_NotMessage) 3 t.f_Reader_take_number ["self", "size"] (sp_take_number K t) := by
  obtain ⟨fd, F, bd⟩ := T.fn_Reader_take_number
  obtain ⟨fd_number_of, b_number_of, k_number_of, G_number_of⟩ := ok_number_of (P := P) (w := w) (base := base) T
  obtain ⟨fd_Reader_take_bytes, b_Reader_take_bytes, k_Reader_take_bytes, G_Reader_take_bytes⟩ := ok_Reader_take_bytes (P := P) (w := w) (base := base) T
  refine ⟨fd, bd, F.kp, F.okX (C := t.c_NotMessage) sc_Reader_take_number (fun vs H Q E h => ?_) (fun cdv A outer s H vs Q E hr h => ?_)⟩
  · obtain ⟨p, a, n, r, rfl, _⟩ := h
    rfl
  · obtain ⟨p, a, n, r, rfl, R, kE, kQ⟩ := h
    obtain ⟨ma, dx, m, hp, hm, er, hl⟩ := id R
    refine ⟨_, (pss_one (ps_ret (pe_call G_number_of (hr.mono (by decide)) rfl T.mg_number_of k_number_of b_number_of .nil pass0 (pa_cons (pe_meth (pv 0) T.cl_Reader T.me_Reader_take_bytes G_Reader_take_bytes (hr.mono (by decide)) b_Reader_take_bytes .nil pass1 (pa_cons (pv 1) pa_nil)) pa_nil)))), ?_⟩
    refine ⟨_, rfl, p, dx, _, rfl, hp, no_Reader_take_bytes, _, rfl, p, a, n, r, rfl, R, fun hlt H' => kE hlt H', fun hge H' l R' s' _ hl' => ?_⟩
    exact ⟨l, _, rfl, SqL.of hl', kQ hge H' R' s'⟩
def sp_take_part (K : PySem.W.Frag) (t : Ad) : Sp := fun vs H Q E => ∃ (p : Addr) (a n : Nat) (r : Sp08.Bytes), vs = [.ref p, .int (n : Int)] ∧ RdS K t H p a r ∧ (r.length < a + n → ∀ H', E (.ref t.c_NotMessage) none H') ∧
  (a + n ≤ r.length → ∀ H' q, RdS K t H' p (a + n) r → SameX p H H' → H q = none → RdS K t H' q a (r.take (a + n)) → Q (.ref q) H')
theorem ok_Reader_take_part (T : Txt K mg t) : Ok P w K mg base (XN P w t.c_NotMessage) 3 t.f_Reader_take_part ["self", "size"] (sp_take_part K t) := by
  obtain ⟨fd, F, bd⟩ := T.fn_Reader_take_part
  obtain ⟨fd_Reader_init, b_Reader_init, k_Reader_init, G_Reader_init⟩ := ok_Reader_init (P := P) (w := w) (base := base) T
  obtain ⟨fd_Reader_pass_over, b_Reader_pass_over, k_Reader_pass_over, G_Reader_pass_over⟩ := ok_Reader_pass_over (P := P) (w := w) (base := base) T
  refine ⟨fd, bd, F.kp, F.okX (C := t.c_NotMessage) sc_Reader_take_part (fun vs H Q E h => ?_) (fun cdv A outer s H vs Q E hr h => ?_)⟩
  · obtain ⟨p, a, n, r, rfl, _⟩ := h
    rfl
  · obtain ⟨p, a, n, r, rfl, R, kE, kQ⟩ := h
    obtain ⟨ma, dx, m, hp, hm, er, hl⟩ := id R
    refine ⟨_, (pss_cons (ps_set (i := 2) sc_Reader_take_part.nd rfl (Or.inl rfl) (pe_meth (pv 0) T.cl_Reader T.me_Reader_pass_over G_Reader_pass_over (hr.mono (by decide)) b_Reader_pass_over .nil pass1 (pa_cons (pv 1) pa_nil))) (pss_one (ps_ret (pe_make T.mk_Reader G_Reader_init (hr.mono (by decide)) rfl T.mg_Reader b_Reader_init .nil pass0 (pa_cons (pe_fld (pv 0) rfl) (pa_cons (pv 2) (pa_cons (pe_fld (pv 0) rfl) pa_nil))))))), ?_⟩
    refine ⟨_, rfl, p, dx, _, rfl, hp, no_Reader_pass_over, _, rfl, p, a, n, r, rfl, R, fun hlt H' => kE hlt H', fun hge H' R' s' => ?_⟩
    obtain ⟨ma', dx', m', hp', hm', er', hl'⟩ := id R'
    refine ⟨_, rfl, p, _, dx', _, _, rfl, hp', T.cl_Reader, T.na_Reader_message, lk_Reader_message, _, rfl, _, rfl, p, _, dx', _, _, rfl, hp', T.cl_Reader, T.na_Reader_at, lk_Reader_at, ?_⟩
    intro q dq nq ndq neq
    refine ⟨q, dq, _, _, _, rfl, upd_same, fun H2 h2 k2 => ⟨rfl, ?_⟩⟩
    have s2 : Same H' H2 := Same.made nq ndq k2
    refine kQ hge H2 q (R'.same s2) (s'.trans (SameX.of s2)) (s'.free nq (R'.free nq)) ⟨ma', dq, m', ?_, s2.seq hm', ?_, ?_⟩
    · rw [h2]
      have : (r.take (a + n)).length = a + n := by rw [List.length_take]; omega
      rw [this]
    · have : (r.take (a + n)).length = a + n := by rw [List.length_take]; omega
      rw [this]
      conv => lhs; rw [er', List.take_take]
      congr 1
      omega
    · rw [List.length_take]; omega
def sp_take_label (K : PySem.W.Frag) (t : Ad) : Sp := fun vs H Q E => ∃ (p : Addr) (a n : Nat) (r : Sp08.Bytes), vs = [.ref p, .int (n : Int)] ∧ RdS K t H p a r ∧ (63 < n ∨ r.length < a + n → ∀ H', E (.ref t.c_NotMessage) none H') ∧
  (n ≤ 63 → a + n ≤ r.length → ∀ H' l, RdS K t H' p (a + n) r → SameX p H H' → H l = none → H' l = some (.lst (iv ((r.drop a).take n))) → Q (.ref l) H')
theorem ok_Reader_take_label (T : Txt K mg t) : Ok P w K mg base (XN P w t.c_NotMessage) 3 t.f_Reader_take_label ["self", "size"] (sp_take_label K t) := by
  obtain ⟨fd, F, bd⟩ := T.fn_Reader_take_label
  obtain ⟨fd_Reader_take_bytes, b_Reader_take_bytes, k_Reader_take_bytes, G_Reader_take_bytes⟩ := ok_Reader_take_bytes (P := P) (w := w) (base := base) T
  refine ⟨fd, bd, F.kp, F.okX (C := t.c_NotMessage) sc_Reader_take_label (fun vs H Q E h => ?_) (fun cdv A outer s H vs Q E hr h => ?_)⟩
  · obtain ⟨p, a, n, r, rfl, _⟩ := h
    rfl
  · obtain ⟨p, a, n, r, rfl, R, kE, kQ⟩ := h
    obtain ⟨ma, dx, m, hp, hm, er, hl⟩ := id R
    refine ⟨_, (pss_cons (ps_if (pt_cmpR op_gt (pv 1) (pe_gv rfl T.gv_LONGEST_LABEL) (nomark _)) (pss_one (ps_raise raises1 T.ex_NotMessage rfl rfl)) pss_nil) (pss_one (ps_ret (pe_meth (pv 0) T.cl_Reader T.me_Reader_take_bytes G_Reader_take_bytes (hr.mono (by decide)) b_Reader_take_bytes .nil pass1 (pa_cons (pv 1) pa_nil))))), ?_⟩
    refine ⟨_, rfl, _, _, rfl, rfl, _, rfl, ?_⟩
    refine ite2 (fun hlt => ?_) (fun hlt => ?_)
    · have hlt := of_decide_eq_true hlt
      exact kE (.inl (by omega)) _
    · have hge : ¬ ((63 : Int) < (n : Int)) := fun z => hlt (decide_eq_true z)
      exact ⟨_, rfl, p, dx, _, rfl, hp, no_Reader_take_bytes, _, rfl, p, a, n, r, rfl, R, fun hlt H' => kE (.inr hlt) H', fun h2 H' l R' s' n' h' => kQ (by omega) h2 H' l R' s' n' h'⟩
def sp_take_string (K : PySem.W.Frag) (t : Ad) : Sp := fun vs H Q E => ∃ (p : Addr) (a : Nat) (r : Sp08.Bytes), vs = [.ref p] ∧ RdS K t H p a r ∧ ((r[a]? = none ∨ ∃ c, r[a]? = some c ∧ r.length < a + 1 + c.toNat) → ∀ H', E (.ref t.c_NotMessage) none H') ∧
  (∀ c, r[a]? = some c → a + 1 + c.toNat ≤ r.length → ∀ H' l, RdS K t H' p (a + 1 + c.toNat) r → SameX p H H' → H l = none → H' l = some (.lst (iv ((r.drop (a + 1)).take c.toNat))) → Q (.ref l) H')
theorem ok_Reader_take_string (T : Txt K mg t) : Ok P w K mg base (XN P w t.c_NotMessage) 3 t.f_Reader_take_string ["self"] (sp_take_string K t) := by
  obtain ⟨fd, F, bd⟩ := T.fn_Reader_take_string
  obtain ⟨fd_Reader_take_bytes, b_Reader_take_bytes, k_Reader_take_bytes, G_Reader_take_bytes⟩ := ok_Reader_take_bytes (P := P) (w := w) (base := base) T
  obtain ⟨fd_Reader_take_byte, b_Reader_take_byte, k_Reader_take_byte, G_Reader_take_byte⟩ := ok_Reader_take_byte (P := P) (w := w) (base := base) T
  refine ⟨fd, bd, F.kp, F.okX (C := t.c_NotMessage) sc_Reader_take_string (fun vs H Q E h => ?_) (fun cdv A outer s H vs Q E hr h => ?_)⟩
  · obtain ⟨p, a, r, rfl, _⟩ := h
    rfl
  · obtain ⟨p, a, r, rfl, R, kE, kQ⟩ := h
    obtain ⟨ma, dx, m, hp, hm, er, hl⟩ := id R
    refine ⟨_, (pss_one (ps_ret (pe_meth (pv 0) T.cl_Reader T.me_Reader_take_bytes G_Reader_take_bytes (hr.mono (by decide)) b_Reader_take_bytes .nil pass1 (pa_cons (pe_meth0 (pv 0) T.cl_Reader T.me_Reader_take_byte G_Reader_take_byte (hr.mono (by decide)) b_Reader_take_byte .nil pass1) pa_nil)))), ?_⟩
    refine ⟨_, rfl, p, dx, _, rfl, hp, no_Reader_take_bytes, _, rfl, p, dx, _, rfl, hp, no_Reader_take_byte, p, a, r, rfl, R, fun hn H' => kE (.inl hn) H', fun c hc H' R' s' => ?_⟩
    refine ⟨p, a + 1, c.toNat, r, rfl, R', fun hlt H2 => kE (.inr ⟨c, hc, hlt⟩) H2, fun hge H2 l R2 s2 n2 h2 => ?_⟩
    exact kQ c hc hge H2 l R2 (s'.trans s2) (s'.free n2 (R'.free n2)) h2
def sp_take_rest (K : PySem.W.Frag) (t : Ad) : Sp := fun vs H Q E => ∃ (p : Addr) (a : Nat) (r : Sp08.Bytes), vs = [.ref p] ∧ RdS K t H p a r ∧ a ≤ r.length ∧
  ∀ H' l, RdS K t H' p r.length r → SameX p H H' → H l = none → H' l = some (.lst (iv (r.drop a))) → Q (.ref l) H'
theorem ok_Reader_take_rest (T : Txt K mg t) : Ok P w K mg base (XN P w t.c_NotMessage) 3 t.f_Reader_take_rest ["self"] (sp_take_rest K t) := by
  obtain ⟨fd, F, bd⟩ := T.fn_Reader_take_rest
  obtain ⟨fd_Reader_take_bytes, b_Reader_take_bytes, k_Reader_take_bytes, G_Reader_take_bytes⟩ := ok_Reader_take_bytes (P := P) (w := w) (base := base) T
  refine ⟨fd, bd, F.kp, F.okX (C := t.c_NotMessage) sc_Reader_take_rest (fun vs H Q E h => ?_) (fun cdv A outer s H vs Q E hr h => ?_)⟩
  · obtain ⟨p, a, r, rfl, _⟩ := h
    rfl
  · obtain ⟨p, a, r, rfl, R, hle, kQ⟩ := h
    obtain ⟨ma, dx, m, hp, hm, er, hl⟩ := id R
    refine ⟨_, (pss_one (ps_ret (pe_meth (pv 0) T.cl_Reader T.me_Reader_take_bytes G_Reader_take_bytes (hr.mono (by decide)) b_Reader_take_bytes .nil pass1 (pa_cons (pe_op op_sub (pe_fld (pv 0) rfl) (pe_fld (pv 0) rfl)) pa_nil)))), ?_⟩
    refine ⟨_, rfl, p, dx, _, rfl, hp, no_Reader_take_bytes, _, rfl, p, _, dx, _, _, rfl, hp, T.cl_Reader, T.na_Reader_end, lk_Reader_end, _, rfl, p, _, dx, _, _, rfl, hp, T.cl_Reader, T.na_Reader_at, lk_Reader_at, _, _, rfl, rfl, p, a, r.length - a, r, ?_, R, fun hlt H' => ?_, fun _ H' l R' s' n' h' => ?_⟩
    · have e : ((r.length : Nat) : Int) - (a : Int) = ((r.length - a : Nat) : Int) := by omega
      show [V.ref p, V.int (((r.length : Nat) : Int) - (a : Int))] = _
      rw [e]
    · omega
    · rw [show a + (r.length - a) = r.length by omega] at R'
      rw [List.take_of_length_le (by rw [List.length_drop]; omega)] at h'
      exact kQ H' l R' s' n' h'
def sp_check_done (K : PySem.W.Frag) (t : Ad) : Sp := fun vs H Q E => ∃ (p : Addr) (a : Nat) (r : Sp08.Bytes), vs = [.ref p] ∧ RdS K t H p a r ∧ (a ≠ r.length → ∀ H', E (.ref t.c_NotMessage) none H') ∧ (a = r.length → Q .non H)
theorem ok_Reader_check_done (T : Txt K mg t) : Ok P w K mg base (XN P w t.c_NotMessage) 1 t.f_Reader_check_done ["self"] (sp_check_done K t) := by
  obtain ⟨fd, F, bd⟩ := T.fn_Reader_check_done
  refine ⟨fd, bd, F.kp, F.okX (C := t.c_NotMessage) sc_Reader_check_done (fun vs H Q E h => ?_) (fun cdv A outer s H vs Q E hr h => ?_)⟩
  · obtain ⟨p, a, r, rfl, _⟩ := h
    rfl
  · obtain ⟨p, a, r, rfl, R, kE, kQ⟩ := h
    obtain ⟨ma, dx, m, hp, hm, er, hl⟩ := id R
    refine ⟨_, (pss_one (ps_if (pt_cmpR op_ne (pe_fld (pv 0) rfl) (pe_fld (pv 0) rfl) (nomark _)) (pss_one (ps_raise raises1 T.ex_NotMessage rfl rfl)) pss_nil)), ?_⟩
    refine ⟨_, rfl, p, _, dx, _, _, rfl, hp, T.cl_Reader, T.na_Reader_at, lk_Reader_at, _, rfl, p, _, dx, _, _, rfl, hp, T.cl_Reader, T.na_Reader_end, lk_Reader_end, rfl, _, rfl, ?_⟩
    refine ite2 (fun hne => ?_) (fun hne => ?_)
    · exact kE (fun z => by rw [z] at hne; simp at hne) _
    · exact kQ (by
        by_cases z : a = r.length
        · exact z
        · exfalso
          apply hne
          simp
          omega)
end
end Pn
end
section
set_option linter.all false
set_option Elab.async false
set_option maxRecDepth 100000
namespace Pn
open PySem L2
/-! ### lists of what is new -/
/-- what stands in G stands in H' and is new since H -/
def Nw (H H' G : Hp) : Prop := ∀ b o, G b = some o → H b = none ∧ H' b = some o
/-- G is part of G' -/
def Sub (G G' : Hp) : Prop := ∀ b o, G b = some o → G' b = some o
theorem Sub.lst {G G' : Hp} (e : Sub G G') : ∀ b xs, G b = some (.lst xs) → G' b = some (.lst xs) := fun b _ h => e b _ h
/-- of a thing at an address, by a part of the heap -/
def Mono {α : Type} (R : Hp → Addr → α → Prop) : Prop := ∀ (G G' : Hp) (a : Addr) (x : α), Sub G G' → R G a x → R G' a x
/-- a list of such things -/
def LL {α : Type} (R : Hp → Addr → α → Prop) (G : Hp) (a : Addr) (ls : List α) : Prop := ∃ as : List Addr, G a = some (.lst (as.map V.ref)) ∧ Paired (R G) as ls
theorem LL.mono {α : Type} {R : Hp → Addr → α → Prop} (m : Mono R) : Mono (LL R) := fun _ _ _ _ e ⟨as, h1, h2⟩ => ⟨as, e _ _ h1, Paired.mapP h2 fun _ _ q => m _ _ _ _ e q⟩
/-- bytes -/
def BL (G : Hp) (a : Addr) (b : Sp08.Bytes) : Prop := G a = some (.lst (iv b))
theorem BL.mono : Mono BL := fun _ _ _ _ e h => e _ _ h
abbrev LLH := LL BL
theorem LLH.mono : Mono LLH := LL.mono BL.mono
/-- a list at D that grows: what it holds is new since H and lies apart from D -/
def LB {α : Type} (R : Hp → Addr → α → Prop) (H : Hp) (D : Addr) (H2 : Hp) (ls : List α) : Prop :=
  ∃ (as : List Addr) (G : Hp), H2 D = some (.lst (as.map V.ref)) ∧ (∀ b o, G b = some o → b ≠ D ∧ H b = none ∧ H2 b = some o) ∧ Paired (R G) as ls
section
variable {α : Type} {R : Hp → Addr → α → Prop} {H H2 H3 : Hp} {D : Addr} {ls : List α}
theorem LB.nil (h : H2 D = some (.lst [])) : LB R H D H2 [] := ⟨[], fun _ => none, h, fun _ _ z => (nomatch z), .nil⟩
theorem LB.one {n : Addr} {x : α} {G' : Hp} (hn : Nw H H2 G') (hx : R G' n x) (hl : H2 D = none) : LB R H D (L2.upd H2 D (.lst [V.ref n])) [x] :=
  ⟨[n], G', upd_same, fun b o e => ⟨ne_of_none (hn b o e).2 hl, (hn b o e).1, (upd_ne (ne_of_none (hn b o e).2 hl)).trans (hn b o e).2⟩, .cons hx .nil⟩
theorem LB.at_ (h : LB R H D H2 ls) : ∃ xs, H2 D = some (.lst xs) ∧ xs.length = ls.length ∧ xs = xs.map id ∧ ∃ as : List Addr, xs = as.map V.ref := by
  obtain ⟨as, G, h1, _, h3⟩ := h
  exact ⟨_, h1, by rw [List.length_map]; exact Paired.length h3, by simp, as, rfl⟩
theorem LB.keep (h : LB R H D H2 ls) (k : ∀ b o, H2 b = some o → (H b = none ∨ b = D) → H3 b = some o) : LB R H D H3 ls := by
  obtain ⟨as, G, h1, h2, h3⟩ := h
  exact ⟨as, G, k _ _ h1 (.inr rfl), fun b o e => ⟨(h2 b o e).1, (h2 b o e).2.1, k b o (h2 b o e).2.2 (.inl (h2 b o e).2.1)⟩, h3⟩
theorem paired_snoc {β γ : Type} {F : β → γ → Prop} : ∀ {xs : List β} {ys : List γ} {x : β} {y : γ}, Paired F xs ys → F x y → Paired F (xs ++ [x]) (ys ++ [y])
  | _, _, _, _, .nil, h => .cons h .nil
  | _, _, _, _, .cons r t, h => .cons r (paired_snoc t h)
/-- one more: made between H2 and H3 -/
theorem LB.push (m : Mono R) (h : LB R H D H2 ls) (k : ∀ b o, H2 b = some o → (H b = none ∨ b = D) → H3 b = some o) (hf : ∀ b, H2 b = none → H b = none) {n : Addr} {x : α} {G' : Hp} (hn : Nw H2 H3 G') (hx : R G' n x) {xs : List V} (hD : H3 D = some (.lst xs)) :
    LB R H D (L2.upd H3 D (.lst (xs ++ [V.ref n]))) (ls ++ [x]) := by
  obtain ⟨as, G, h1, h2, h3⟩ := h
  have e := k _ _ h1 (.inr rfl)
  rw [hD] at e
  cases e
  have s1 : Sub G' (fun b => (G' b).or (G b)) := fun b o e => by show (G' b).or (G b) = _; rw [e]; rfl
  have s2 : Sub G (fun b => (G' b).or (G b)) := fun b o e => by
    show (G' b).or (G b) = _
    cases q : G' b with
    | none => exact e
    | some o' =>
      have a := (hn b o' q).1
      rw [(h2 b o e).2.2] at a
      cases a
  refine ⟨as ++ [n], fun b => (G' b).or (G b), by rw [upd_same, List.map_append]; rfl, fun b o e => ?_, paired_snoc (Paired.mapP h3 fun _ _ q => m _ _ _ _ s2 q) (m _ _ _ _ s1 hx)⟩
  have e : (G' b).or (G b) = some o := e
  cases q : G' b with
  | some o' =>
    rw [q] at e
    cases e
    obtain ⟨a1, a2⟩ := hn b o q
    have nb : b ≠ D := fun z => by rw [z, h1] at a1; cases a1
    exact ⟨nb, hf b a1, by rw [upd_ne nb]; exact a2⟩
  | none =>
    rw [q] at e
    obtain ⟨a1, a2, a3⟩ := h2 b o e
    exact ⟨a1, a2, by rw [upd_ne a1]; exact k b o a3 (.inl a2)⟩
theorem LB.done (m : Mono R) (h : LB R H D H2 ls) (hD : H D = none) : ∃ G, Nw H H2 G ∧ LL R G D ls := by
  obtain ⟨as, G, h1, h2, h3⟩ := h
  have gD : G D = none := by
    cases q : G D with
    | none => rfl
    | some o => exact absurd rfl (h2 D o q).1
  refine ⟨L2.upd G D (.lst (as.map V.ref)), fun b o e => ?_, as, upd_same, Paired.mapP h3 fun _ _ q => m _ _ _ _ (fun b o e => by rw [upd_ne (ne_of_none e gD)]; exact e) q⟩
  by_cases z : b = D
  · subst z
    rw [upd_same] at e
    cases e
    exact ⟨hD, h1⟩
  · rw [upd_ne z] at e
    exact ⟨(h2 b o e).2.1, (h2 b o e).2.2⟩
end
theorem Nw.one {H H' : Hp} {n : Addr} {o : HO} (a : H n = none) (b : H' n = some o) : Nw H H' (L2.upd (fun _ => none) n o) := fun c q e => by
  by_cases z : c = n
  · subst z
    rw [upd_same] at e
    cases e
    exact ⟨a, b⟩
  · rw [upd_ne z] at e
    cases e
theorem BL.one {n : Addr} {b : Sp08.Bytes} : BL (L2.upd (fun _ => none) n (.lst (iv b))) n b := upd_same
theorem Same.lst {H H' : Hp} (e : Same H H') : ∀ b xs, H b = some (.lst xs) → H' b = some (.lst xs) := fun b _ h => e b _ h
theorem SameX.lst {H H' : Hp} {p C dx : Addr} {fs : List (Str × V)} (e : SameX p H H') (hp : H p = some (.ins C dx fs)) : ∀ b xs, H b = some (.lst xs) → H' b = some (.lst xs) := fun b _ h => e b _ h (ne_of h hp (by intro z; cases z))
theorem RdS.lst {K : PySem.W.Frag} {t : Ad} {H H' : Hp} {p : Addr} {a : Nat} {r : Sp08.Bytes} (R : RdS K t H p a r) (e : SameX p H H') : ∀ b xs, H b = some (.lst xs) → H' b = some (.lst xs) := by
  obtain ⟨ma, dx, m, hp, _⟩ := R
  exact SameX.lst e hp
theorem iv_ne {m : Sp08.Bytes} {as : List Addr} (h : m ≠ []) : iv m ≠ as.map V.ref := by
  cases m with
  | nil => exact absurd rfl h
  | cons c r =>
    cases as with
    | nil => simp
    | cons x y => simp
theorem RdS.updL {K : PySem.W.Frag} {t : Ad} {H : Hp} {p l : Addr} {a : Nat} {r : Sp08.Bytes} {as : List Addr} {o : HO} (R : RdS K t H p a r) (hr : r ≠ []) (hl : H l = some (.lst (as.map V.ref))) : RdS K t (L2.upd H l o) p a r := by
  obtain ⟨ma, dx, m, hp, hm, er, hle⟩ := R
  have hm0 : m ≠ [] := fun z => hr (by rw [er, z]; simp)
  refine ⟨ma, dx, m, by rw [upd_ne (ne_of hp hl (by intro z; cases z))]; exact hp, ?_, er, hle⟩
  rcases hm with (h | ⟨o', h⟩) | h
  · refine .inl (.inl ?_)
    rw [upd_ne (ne_of h hl (fun z => iv_ne hm0 (HO.lst.inj z)))]
    exact h
  · refine .inl (.inr ⟨o', ?_⟩)
    rw [upd_ne (ne_of h hl (by intro z; cases z))]
    exact h
  · exact .inr h
theorem len_size (n : Sp08.Name) : n.length < Sp08.Name.size n := by
  induction n with
  | nil => simp [Sp08.Name.size]
  | cons l r ih => simp [Sp08.Name.size] at ih ⊢; omega
def bhV : Option Nat → V
  | none => .non
  | some z => .int (z : Int)
/-- the name's loop falls -/
def nmu (σ : St) (_ : Hp) : Nat := match σ[3]?, σ[2]? with
  | some (some (V.int b)), some (some (V.int z)) => b.toNat * 256 + (256 - z.toNat)
  | _, _ => 0
section
variable {P : Program} {w : World} {K : PySem.W.Frag} {mg : Str → Option Value} {base : Heap} {t : Ad}
def sp_take_name (K : PySem.W.Frag) (t : Ad) : Sp := fun vs H Q E => ∃ (p : Addr) (a : Nat) (r : Sp08.Bytes), vs = [.ref p] ∧ RdS K t H p a r ∧ (Sp08.nameAt r a = none → ∀ H', E (.ref t.c_NotMessage) none H') ∧
  (∀ x, Sp08.nameAt r a = some x → ∀ H' l G, RdS K t H' p x.2 r → SameX p H H' → Nw H H' G → LLH G l x.1 → Q (.ref l) H')
/-- between two turns -/
def NmInv (K : PySem.W.Frag) (t : Ad) (H : Hp) (p l : Addr) (a : Nat) (r : Sp08.Bytes) (σ : St) (H2 : Hp) : Prop :=
  ∃ (pre : Sp08.Name) (size b pos : Nat) (bh : Option Nat) (c : UInt8) (pl : Option V), σ = [some (.ref p), some (.ref l), some (.int (size : Int)), some (.int (b : Int)), some (bhV bh), some (bV c), pl] ∧
    Ma.NI r a pre size b pos bh ∧ r[pos]? = some c ∧ RdS K t H2 p (pos + 1) r ∧ SameX p H H2 ∧ LB BL H l H2 pre
theorem ok_Reader_take_name (T : Txt K mg t) : Ok P w K mg base (XN P w t.c_NotMessage) 4 t.f_Reader_take_name ["self"] (sp_take_name K t) := by
  obtain ⟨fd, F, bd⟩ := T.fn_Reader_take_name
  obtain ⟨fd_Reader_take_byte, b_Reader_take_byte, k_Reader_take_byte, G_Reader_take_byte⟩ := ok_Reader_take_byte (P := P) (w := w) (base := base) T
  obtain ⟨fd_Reader_take_label, b_Reader_take_label, k_Reader_take_label, G_Reader_take_label⟩ := ok_Reader_take_label (P := P) (w := w) (base := base) T
  refine ⟨fd, bd, F.kp, F.okX (C := t.c_NotMessage) sc_Reader_take_name (fun vs H Q E h => ?_) (fun cdv A outer s H vs Q E hr h => ?_)⟩
  · obtain ⟨p, a, r, rfl, _⟩ := h
    rfl
  · obtain ⟨p, a, r, rfl, R, kE, kQ⟩ := h
    obtain ⟨ma, dx, m, hp, hm, er, hle⟩ := id R
    refine ⟨_, (pss_cons (ps_set (i := 1) sc_Reader_take_name.nd rfl (Or.inl rfl) (pe_lst pa_nil)) (pss_cons (ps_set (i := 2) sc_Reader_take_name.nd rfl (Or.inl rfl) pe_int) (pss_cons (ps_set (i := 3) sc_Reader_take_name.nd rfl (Or.inl rfl) (pe_fld (pv 0) rfl)) (pss_cons (ps_set (i := 4) sc_Reader_take_name.nd rfl (Or.inl rfl) pe_non) (pss_cons (ps_set (i := 5) sc_Reader_take_name.nd rfl (Or.inl rfl) (pe_meth0 (pv 0) T.cl_Reader T.me_Reader_take_byte G_Reader_take_byte (hr.mono (by decide)) b_Reader_take_byte .nil pass1)) (pss_cons (ps_while own1 (pt_cmpR op_ne (pv 5) pe_int (nomark _)) (pss_cons (ps_if (pt_cmpR op_ge (pv 5) (pe_gv rfl T.gv_FIRST_POINTER) (nomark _)) (pss_cons (ps_set (i := 6) sc_Reader_take_name.nd rfl (Or.inl rfl) (pe_op op_add (pe_op op_mul (pe_op op_sub (pv 5) (pe_gv rfl T.gv_FIRST_POINTER)) pe_int) (pe_meth0 (pv 0) T.cl_Reader T.me_Reader_take_byte G_Reader_take_byte (hr.mono (by decide)) b_Reader_take_byte .nil pass1))) (pss_cons (ps_if (pt_cmpR op_ge (pv 6) (pv 3) (nomark _)) (pss_one (ps_raise raises1 T.ex_NotMessage rfl rfl)) pss_nil) (pss_cons (ps_if (pt_cmpR op_isN (pv 4) pe_non (nomark _)) (pss_one (ps_set (i := 4) sc_Reader_take_name.nd rfl (Or.inl rfl) (pe_fld (pv 0) rfl))) pss_nil) (pss_cons (ps_set (i := 3) sc_Reader_take_name.nd rfl (Or.inl rfl) (pv 6)) (pss_one (ps_fld (pv 0) (pv 6) rfl)))))) (pss_cons (ps_expr (pe_bm PySem.F.plainAttrs_list PySem.F.slot_list_append PySem.F.type_list_append mt_append (pv 1) (pa_cons (pe_meth (pv 0) T.cl_Reader T.me_Reader_take_label G_Reader_take_label (hr.mono (by decide)) b_Reader_take_label .nil pass1 (pa_cons (pv 5) pa_nil)) pa_nil))) (pss_cons (ps_aug (i := 2) sc_Reader_take_name.nd rfl (Or.inl rfl) (pe_op op_add (pv 5) pe_int) ip_add) (pss_one (ps_if (pt_cmpR op_gt (pv 2) (pe_gv rfl T.gv_LONGEST_NAME) (nomark _)) (pss_one (ps_raise raises1 T.ex_NotMessage rfl rfl)) pss_nil))))) (pss_one (ps_set (i := 5) sc_Reader_take_name.nd rfl (Or.inl rfl) (pe_meth0 (pv 0) T.cl_Reader T.me_Reader_take_byte G_Reader_take_byte (hr.mono (by decide)) b_Reader_take_byte .nil pass1))))) (pss_cons (ps_if (pt_cmpR op_notN (pv 4) pe_non (nomark _)) (pss_one (ps_fld (pv 0) (pv 4) rfl)) pss_nil) (pss_one (ps_ret (pv 1)))))))))), ?_⟩
    -- labels = []; size = 1; began = self.at; behind = None; first = self.take_byte()
    refine ⟨Nat.zero_le _, fun l hl => ?_⟩
    have s0 : Same H (L2.upd H l (.lst [])) := Same.upd hl
    have R0 := R.same s0
    have pl : p ≠ l := ne_of_none hp hl
    have hp0 := s0 _ _ hp
    refine ⟨_, rfl, p, _, dx, _, _, rfl, hp0, T.cl_Reader, T.na_Reader_at, lk_Reader_at, _, rfl, p, dx, _, rfl, hp0, no_Reader_take_byte, p, a, r, rfl, R0, fun hn H' => kE ((Ma.NI.start r a).out hn) H', fun c hc H1 R1 s1 => ?_⟩
    have hl1 : H1 l = some (.lst ([] : List V)) := s1 l _ upd_same (Ne.symm pl)
    refine while_by (NmInv K t H p l a r) nmu ⟨[], 1, a, a, none, c, none, rfl, Ma.NI.start r a, hc, R1, (SameX.of s0).trans s1, LB.nil hl1⟩ ?_ (fun σ H Q Q' hq ⟨v, e, hs, k, ek, q⟩ => ⟨v, e, hs, k, ek, hq _ _ q⟩)
    rintro σ H2 ⟨pre, size, b, pos, bh, c, plv, rfl, NI, hc, R2, s2, B2⟩
    obtain ⟨xs, hl2, hxs, _, as, exs⟩ := B2.at_
    have new : ∀ {b : Addr}, H b = none ∨ b = l → b ≠ p := fun {b} z e => by
      subst e
      rcases z with z | z
      · rw [hp] at z; cases z
      · exact pl z
    obtain ⟨ma2, dx2, m2, hp2, hm2, er2, hle2⟩ := id R2
    refine ⟨_, rfl, rfl, _, rfl, ?_⟩
    refine ite2 (fun hne => ?_) (fun hne => ?_)
    · have hne : (!decide (V.int ((c.toNat : Nat) : Int) = V.int 0)) = true := hne
      have c0 : c.toNat ≠ 0 := fun z => by rw [z] at hne; simp at hne
      -- if first >= FIRST_POINTER
      refine ⟨_, rfl, _, _, rfl, rfl, _, rfl, ?_⟩
      refine ite2 (fun hge => ?_) (fun hge => ?_)
      · have hge : 192 ≤ c.toNat := by have := of_decide_eq_true hge; omega
        have c256 : c.toNat < 256 := UInt8.toNat_lt c
        -- place = ..
        refine ⟨_, rfl, _, _, rfl, rfl, _, _, rfl, rfl, .inr ⟨by decide, by decide⟩, _, rfl, p, dx2, _, rfl, hp2, no_Reader_take_byte, p, pos + 1, r, rfl, R2, fun hn H' => kE (NI.ptrOut hc hge hn) H', fun d hd H3 R3 s3 => ?_⟩
        have epl : (((c.toNat : Nat) : Int) - 192) * 256 + ((d.toNat : Nat) : Int) = (((c.toNat - 192) * 256 + d.toNat : Nat) : Int) := by omega
        refine ⟨_, _, rfl, rfl, ?_⟩
        -- if place >= began
        refine ⟨_, rfl, _, rfl, _, _, rfl, rfl, _, rfl, ?_⟩
        refine ite2 (fun hbe => ?_) (fun hbe => ?_)
        · have hbe := of_decide_eq_true hbe
          exact kE (NI.ptrOn hc hge hd (by omega)) _
        · have hbl : (c.toNat - 192) * 256 + d.toNat < b := by
            have : ¬ ((b : Int) ≤ (((c.toNat : Nat) : Int) - 192) * 256 + ((d.toNat : Nat) : Int)) := fun z => hbe (decide_eq_true z)
            omega
          have NI' := NI.ptr hc hge hd hbl
          obtain ⟨ma3, dx3, m3, hp3, hm3, er3, hle3⟩ := id R3
          -- if behind is None: behind = self.at
          refine ⟨_, rfl, rfl, _, rfl, ?_⟩
          have fin : ∀ (H4 : Hp) (c' : UInt8), r[(c.toNat - 192) * 256 + d.toNat]? = some c' → RdS K t H4 p ((c.toNat - 192) * 256 + d.toNat + 1) r → SameX p H3 H4 →
              NmInv K t H p l a r [some (.ref p), some (.ref l), some (.int (size : Int)), some (.int ((((c.toNat : Nat) : Int) - 192) * 256 + ((d.toNat : Nat) : Int))), some (bhV (some (bh.getD (pos + 2)))), some (bV c'), some (.int ((((c.toNat : Nat) : Int) - 192) * 256 + ((d.toNat : Nat) : Int)))] H4 := fun H4 c' hc' R4 s4 => by
            exact ⟨pre, size, _, _, _, c', _, by rw [epl], NI', hc', R4, (s2.trans s3).trans s4, B2.keep fun b o e z => (s3.trans s4) b o e (new z)⟩
          have mu : ∀ (x y z : Option V) (H4 : Hp), nmu [some (.ref p), some (.ref l), some (.int (size : Int)), some (.int ((((c.toNat : Nat) : Int) - 192) * 256 + ((d.toNat : Nat) : Int))), x, y, z] H4 < nmu [some (.ref p), some (.ref l), some (.int (size : Int)), some (.int (b : Int)), some (bhV bh), some (bV c), plv] H2 := fun x y z H4 => by
            rw [epl]
            show ((((c.toNat - 192) * 256 + d.toNat : Nat) : Int)).toNat * 256 + (256 - ((size : Int)).toNat) < ((b : Int)).toNat * 256 + (256 - ((size : Int)).toNat)
            omega
          have R4 : RdS K t (L2.upd H3 p (.ins t.c_Reader dx3 (putF "at" (.int ((((c.toNat : Nat) : Int) - 192) * 256 + ((d.toNat : Nat) : Int))) (fl_Reader (.ref ma3) (.int ((pos + 1 + 1 : Nat) : Int)) (.int (r.length : Int)))))) p ((c.toNat - 192) * 256 + d.toNat) r :=
            ⟨ma3, dx3, m3, by rw [upd_same, st_Reader_at, epl], SameX.seq SameX.upd hp3 hm3, er3, hle3⟩
          obtain ⟨ma4, dx4, m4, hp4, _⟩ := id R4
          cases bh with
          | none =>
            refine ite2 (fun _ => ?_) (fun z => absurd rfl z)
            refine ⟨_, rfl, p, _, dx3, _, _, rfl, hp3, T.cl_Reader, T.na_Reader_at, lk_Reader_at, _, rfl, _, rfl, _, rfl, p, _, dx3, _, rfl, hp3, T.cl_Reader, T.na_Reader_at, ln_Reader, ?_⟩
            refine ⟨_, rfl, p, dx4, _, rfl, hp4, no_Reader_take_byte, p, _, r, rfl, R4, fun hn H' => kE (NI'.out hn) H', fun c' hc' H5 R5 s5 => ⟨fin H5 c' hc' R5 (SameX.upd.trans s5), mu _ _ _ _⟩⟩
          | some z =>
            refine ite2 (fun hz => by simp [bhV] at hz) (fun _ => ?_)
            refine ⟨_, rfl, _, rfl, _, rfl, p, _, dx3, _, rfl, hp3, T.cl_Reader, T.na_Reader_at, ln_Reader, ?_⟩
            refine ⟨_, rfl, p, dx4, _, rfl, hp4, no_Reader_take_byte, p, _, r, rfl, R4, fun hn H' => kE (NI'.out hn) H', fun c' hc' H5 R5 s5 => ⟨fin H5 c' hc' R5 (SameX.upd.trans s5), mu _ _ _ _⟩⟩
      · have hlt : c.toNat < 192 := by
          have : ¬ ((192 : Int) ≤ ((c.toNat : Nat) : Int)) := fun z => hge (decide_eq_true z)
          omega
        -- labels.append(self.take_label(first))
        refine ⟨_, rfl, .inl ⟨rfl, _, SqL.of hl2⟩, _, rfl, p, dx2, _, rfl, hp2, no_Reader_take_label, _, rfl, p, pos + 1, c.toNat, r, rfl, R2, fun hbad H' => ?_, fun h63 hin H3 n R3 s3 hn hn3 => ?_⟩
        · rcases hbad with hbad | hbad
          · exact kE (NI.high hc (by omega) hlt) H'
          · by_cases h64 : c.toNat < 64
            · exact kE (NI.short hc c0 h64 hbad) H'
            · exact kE (NI.high hc (by omega) hlt) H'
        · have hl3 := R2.lst s3 _ _ hl2
          have few : xs.length < sizeLine := by
            have a2 := len_size pre
            have a3 := NI.sz
            have a4 := NI.le
            have : (255 : Nat) < sizeLine := by decide
            omega
          have B3 := B2.push BL.mono (fun b o e z => s3 b o e (new z)) (fun b e => s2.free e (fun z => by rw [← z, hp2] at e; cases e)) (Nw.one hn hn3) BL.one hl3
          refine ⟨l, _, _, rfl, rfl, hl3, few, ?_⟩
          have h64 : c.toNat < 64 := by omega
          have r0 : r ≠ [] := fun z => by rw [z] at hc; simp at hc
          have R3' : RdS K t (L2.upd H3 l (.lst (xs ++ [V.ref n]))) p (pos + 1 + c.toNat) r := R3.updL r0 (by rw [hl3, exs])
          have s3' : SameX p H (L2.upd H3 l (.lst (xs ++ [V.ref n]))) := fun b' o h nb => by
            rw [upd_ne (ne_of_none h hl)]
            exact (s2.trans s3) b' o h nb
          obtain ⟨ma3, dx3, m3, hp3, _⟩ := id R3'
          have esz : (size : Int) + (((c.toNat : Nat) : Int) + 1) = ((size + (c.toNat + 1) : Nat) : Int) := by omega
          -- size += first + 1; if size > LONGEST_NAME
          refine ⟨_, rfl, _, rfl, _, _, rfl, rfl, _, _, rfl, rfl, _, rfl, _, _, rfl, rfl, _, rfl, ?_⟩
          refine ite2 (fun hbig => ?_) (fun hbig => ?_)
          · have hbig : (255 : Int) < (size : Int) + (((c.toNat : Nat) : Int) + 1) := of_decide_eq_true hbig
            exact kE (NI.long hc c0 h64 hin (by omega)) _
          · have hsm : size + (c.toNat + 1) ≤ 255 := by
              have : ¬ ((255 : Int) < (size : Int) + (((c.toNat : Nat) : Int) + 1)) := fun z => hbig (decide_eq_true z)
              omega
            have NI' := NI.label hc c0 h64 hin hsm
            refine ⟨_, rfl, p, dx3, _, rfl, hp3, no_Reader_take_byte, p, _, r, rfl, R3', fun hn' H' => kE (NI'.out hn') H', fun c' hc' H5 R5 s5 => ⟨⟨_, _, b, _, bh, c', plv, ?_, NI', hc', R5, s3'.trans s5, B3.keep fun b o e z => s5 b o e (new z)⟩, ?_⟩⟩
            · rw [← esz]; rfl
            · show ((b : Int)).toNat * 256 + (256 - ((size : Int) + (((c.toNat : Nat) : Int) + 1)).toNat) < ((b : Int)).toNat * 256 + (256 - ((size : Int)).toNat)
              have := NI.le
              omega
    · -- if behind is not None: self.at = behind; return labels
      have c0 : c.toNat = 0 := by
        by_cases z : c.toNat = 0
        · exact z
        · exfalso
          apply hne
          simp
          omega
      have fin := NI.done hc c0
      refine ⟨_, rfl, rfl, _, rfl, ?_⟩
      cases bh with
      | none =>
        refine ite2 (fun hz => by simp [bhV] at hz) (fun _ => ?_)
        obtain ⟨G, g1, g2⟩ := B2.done BL.mono hl
        exact ⟨_, rfl, kQ _ fin H2 l G R2 s2 g1 g2⟩
      | some z =>
        refine ite2 (fun _ => ?_) (fun hz => by simp [bhV] at hz)
        refine ⟨_, rfl, _, rfl, p, _, dx2, _, rfl, hp2, T.cl_Reader, T.na_Reader_at, ln_Reader, _, rfl, ?_⟩
        have B3 := B2.keep (H3 := L2.upd H2 p (.ins t.c_Reader dx2 (putF "at" (bhV (some z)) (fl_Reader (.ref ma2) (.int ((pos + 1 : Nat) : Int)) (.int (r.length : Int)))))) fun b o e y => by rw [upd_ne (new y)]; exact e
        obtain ⟨G, g1, g2⟩ := B3.done BL.mono hl
        exact kQ _ fin _ l G ⟨ma2, dx2, m2, by rw [upd_same, st_Reader_at]; rfl, SameX.seq SameX.upd hp2 hm2, er2, hle2⟩ (s2.trans SameX.upd) g1 g2
end
end Pn
end
section
set_option linter.all false
set_option Elab.async false
set_option maxRecDepth 100000
namespace Pn
open PySem L2
/-! ### loops that the layer has no word for -/
theorem for_enum {K : PySem.W.Frag} {a : Addr} {xs : List V} {g : TG} {tb : TS} {D : Ends} {σ : St} {H : Hp} (Pv : Nat → St → Hp → Prop) (h0 : Pv 0 σ H) (hl : ∀ i σ H, i ≤ xs.length → Pv i σ H → SqL K H a xs)
    (hs : ∀ i x σ H T, xs[i]? = some x → Pv i σ H → H T = none → g (.ref T) σ (L2.upd H T (.tup [.int ((i : Nat) : Int), x])) fun σ2 H2 => tb { D with nx := Pv (i + 1), ct := Pv (i + 1), bk := D.nx } σ2 H2) (hd : ∀ σ H, Pv xs.length σ H → D.nx σ H) :
    ∃ W : Nat → Nat → St → Hp → Prop, (∃ m, W 0 m σ H) ∧ ∀ i m σ H, W i m σ H →
      ((Ite K a).stop i H ∧ D.nx σ H) ∨ ((Ite K a).go i H ∧ ∃ N : St → Hp → Prop, (∀ σ' H', N σ' H' → ∃ m', m' < m ∧ W (i + 1) m' σ' H') ∧ ∀ x H', (Ite K a).yld i H x H' → g x σ H' fun σ2 H2 => tb { D with nx := N, ct := N, bk := D.nx } σ2 H2) := by
  refine ⟨fun i m σ H => m = xs.length - i ∧ i ≤ xs.length ∧ Pv i σ H, ⟨xs.length, by simp, Nat.zero_le _, h0⟩, ?_⟩
  rintro i m σ H ⟨rfl, hi, p⟩
  have q := hl i σ H hi p
  by_cases hlt : i < xs.length
  · refine .inr ⟨⟨xs, xs[i], q, by simp [hlt]⟩, Pv (i + 1), fun σ' H' p' => ⟨xs.length - (i + 1), by omega, rfl, hlt, p'⟩, fun v H' y => ?_⟩
    obtain ⟨T, x, rfl, hT, rfl, hx⟩ := y
    exact hs i x σ H T (hx xs q) p hT
  · have e : i = xs.length := by omega
    subst e
    exact .inl ⟨⟨xs, q, Nat.le_refl _⟩, hd σ H p⟩
theorem lc_str {x : Str} {g : TG} {tt : TT} {te : TE} {vs : List Nat} {σ : St} {H1 : Hp} {D : Addr} {Qd : Hp → Prop} (Pv : Nat → Hp → Prop) (h0 : Pv 0 (L2.upd H1 D (.lst [])))
    (hs : ∀ i c H, x.cps[i]? = some c → Pv i H → g (.str ⟨#[c]⟩) (wipe σ vs) H fun σ2 H2 => wipe σ2 vs = wipe σ vs ∧ tt σ2 H2 fun b H3 =>
      if b = true then te σ2 H3 fun y H4 => ∃ acc, H4 D = some (.lst acc) ∧ acc.length < sizeLine ∧ Pv (i + 1) (L2.upd H4 D (.lst (acc ++ [y]))) else Pv (i + 1) H3) (hd : ∀ H, Pv x.cps.size H → Qd H) :
    ∃ W : Nat → Nat → Hp → Prop, (∃ m, W 0 m (L2.upd H1 D (.lst []))) ∧ ∀ i m H, W i m H →
      ((Its x).stop i H ∧ Qd H) ∨ ((Its x).go i H ∧ ∃ Nx : Hp → Prop, (∀ H', Nx H' → ∃ m', m' < m ∧ W (i + 1) m' H') ∧ ∀ v H', (Its x).yld i H v H' → g v (wipe σ vs) H' fun σ2 H2 => wipe σ2 vs = wipe σ vs ∧ tt σ2 H2 fun b H3 =>
        if b = true then te σ2 H3 fun y H4 => ∃ acc, H4 D = some (.lst acc) ∧ acc.length < sizeLine ∧ Nx (L2.upd H4 D (.lst (acc ++ [y]))) else Nx H3) := by
  refine ⟨fun i m H => m = x.cps.size - i ∧ i ≤ x.cps.size ∧ Pv i H, ⟨x.cps.size, by simp, Nat.zero_le _, h0⟩, ?_⟩
  rintro i m H ⟨rfl, hi, p⟩
  by_cases hlt : i < x.cps.size
  · refine .inr ⟨hlt, Pv (i + 1), fun H' p' => ⟨x.cps.size - (i + 1), by omega, rfl, hlt, p'⟩, fun v H' y => ?_⟩
    obtain ⟨e, c, hc, rfl⟩ := y
    subst e
    exact hs i c _ hc p
  · have e : i = x.cps.size := by omega
    subst e
    exact .inl ⟨Nat.le_refl _, hd H p⟩
theorem lc_rangeC {lo c : Int} {n : Nat} {g : TG} {tt : TT} {te : TE} {vs : List Nat} {σ : St} {H1 : Hp} {D : Addr} {Qd : Hp → Prop} (Pv : Nat → Hp → Prop) (h0 : Pv 0 (L2.upd H1 D (.lst [])))
    (hs : ∀ i H, i < n → Pv i H → g (.int (lo + (i : Nat) * c)) (wipe σ vs) H fun σ2 H2 => wipe σ2 vs = wipe σ vs ∧ tt σ2 H2 fun b H3 =>
      if b = true then te σ2 H3 fun y H4 => ∃ acc, H4 D = some (.lst acc) ∧ acc.length < sizeLine ∧ Pv (i + 1) (L2.upd H4 D (.lst (acc ++ [y]))) else Pv (i + 1) H3) (hd : ∀ H, Pv n H → Qd H) :
    ∃ W : Nat → Nat → Hp → Prop, (∃ m, W 0 m (L2.upd H1 D (.lst []))) ∧ ∀ i m H, W i m H →
      ((Itc lo c n).stop i H ∧ Qd H) ∨ ((Itc lo c n).go i H ∧ ∃ Nx : Hp → Prop, (∀ H', Nx H' → ∃ m', m' < m ∧ W (i + 1) m' H') ∧ ∀ v H', (Itc lo c n).yld i H v H' → g v (wipe σ vs) H' fun σ2 H2 => wipe σ2 vs = wipe σ vs ∧ tt σ2 H2 fun b H3 =>
        if b = true then te σ2 H3 fun y H4 => ∃ acc, H4 D = some (.lst acc) ∧ acc.length < sizeLine ∧ Nx (L2.upd H4 D (.lst (acc ++ [y]))) else Nx H3) := by
  refine ⟨fun i m H => m = n - i ∧ i ≤ n ∧ Pv i H, ⟨n, by simp, Nat.zero_le _, h0⟩, ?_⟩
  rintro i m H ⟨rfl, hi, p⟩
  by_cases hlt : i < n
  · refine .inr ⟨hlt, Pv (i + 1), fun H' p' => ⟨n - (i + 1), by omega, rfl, hlt, p'⟩, fun v H' y => ?_⟩
    obtain ⟨e, y⟩ := y
    subst e y
    exact hs i _ hlt p
  · have e : i = n := by omega
    subst e
    exact .inl ⟨Nat.le_refl _, hd H p⟩
theorem yes_if {σ : St} {H : Hp} {A B : Hp → Prop} (h : A H) : tYes σ H (fun b H3 => if b = true then A H3 else B H3) := by
  show if true = true then A H else B H
  rw [if_pos rfl]
  exact h
/-! ### all that is new -/
def nw (H H' : Hp) : Hp := fun b => match H b with
  | none => H' b
  | some _ => none
theorem nw_at {H H' : Hp} {n : Addr} {o : HO} (a : H n = none) (b : H' n = some o) : nw H H' n = some o := by unfold nw; rw [a]; exact b
theorem nw_of {H H' : Hp} {n : Addr} {o : HO} (h : nw H H' n = some o) : H n = none ∧ H' n = some o := by
  unfold nw at h
  cases q : H n with
  | none => rw [q] at h; exact ⟨rfl, h⟩
  | some u => rw [q] at h; cases h
theorem nw_nw (H H' : Hp) : Nw H H' (nw H H') := fun _ _ h => nw_of h
theorem nw_in (H H' : Hp) : Sub (nw H H') H' := fun _ _ h => (nw_of h).2
theorem Nw.sub {H H' G : Hp} (h : Nw H H' G) : Sub G (nw H H') := fun b o e => nw_at (h b o e).1 (h b o e).2
theorem nw_on {H H1 H2 : Hp} (k : ∀ b o, H1 b = some o → H b = none → H2 b = some o) : Sub (nw H H1) (nw H H2) := fun b o e => nw_at (nw_of e).1 (k b o (nw_of e).2 (nw_of e).1)
theorem nw_pre {H H1 H2 : Hp} (f : ∀ b, H1 b = none → H b = none) : Sub (nw H1 H2) (nw H H2) := fun b o e => nw_at (f b (nw_of e).1) (nw_of e).2
theorem SameX.off {p : Addr} {H H' : Hp} (e : SameX p H H') (h : H' p ≠ none) : ∀ b, H' b = none → H b = none := fun b n => e.free n (fun z => h (by rw [z]; exact n))
theorem SameX.to {p : Addr} {H0 H H' : Hp} {o : HO} (e : SameX p H H') (h : H0 p = some o) : ∀ b q, H b = some q → H0 b = none → H' b = some q := fun b q k n => e b q k (Ne.symm (ne_of_none h n))
theorem RdS.ne {K : PySem.W.Frag} {t : Ad} {H : Hp} {p : Addr} {a : Nat} {r : Sp08.Bytes} (h : RdS K t H p a r) : H p ≠ none := by
  obtain ⟨ma, dx, m, hp, _⟩ := h
  rw [hp]; simp
/-! ### what is read -/
def DatH (t : Ad) (G : Hp) (q : Addr) (d : Ma.D3) : Prop := ∃ dx f n b, G q = some (.ins t.c_Data dx (fl_Data (.ref f) (.ref n) (.ref b))) ∧ BL G f d.1 ∧ LL LLH G n d.2.1 ∧ BL G b d.2.2
theorem DatH.mono {t : Ad} : Mono (DatH t) := fun _ _ _ _ e ⟨dx, f, n, b, h1, h2, h3, h4⟩ => ⟨dx, f, n, b, e _ _ h1, e _ _ h2, LL.mono LLH.mono _ _ _ _ e h3, e _ _ h4⟩
def EntH (t : Ad) (G : Hp) (q : Addr) (e : Ma.E3) : Prop := ∃ dx nm, LLH G nm e.name ∧ ((e.s = 0 ∧ G q = some (.ins t.c_Entry dx (fl_Entry (.int 0) (.ref nm) (.int (e.kind : Int)) (.int (e.cls : Int)) .non .non))) ∨
  (e.s ≠ 0 ∧ ∃ da, DatH t G da e.data ∧ G q = some (.ins t.c_Entry dx (fl_Entry (.int (e.s : Int)) (.ref nm) (.int (e.kind : Int)) (.int (e.cls : Int)) (.int (e.ttl : Int)) (.ref da)))))
theorem EntH.mono {t : Ad} : Mono (EntH t) := fun _ _ _ _ e ⟨dx, nm, h1, h2⟩ => ⟨dx, nm, LLH.mono _ _ _ _ e h1, h2.elim (fun h => .inl ⟨h.1, e _ _ h.2⟩) fun ⟨h, da, h3, h4⟩ => .inr ⟨h, da, DatH.mono _ _ _ _ e h3, e _ _ h4⟩⟩
def MesH (t : Ad) (G : Hp) (q : Addr) (M : Ma.M3) : Prop := ∃ dx ea, G q = some (.ins t.c_Message dx (fl_Message (.int (M.id : Int)) (.int (M.flags : Int)) (.ref ea))) ∧ LL (EntH t) G ea M.es
theorem MesH.mono {t : Ad} : Mono (MesH t) := fun _ _ _ _ e ⟨dx, ea, h1, h2⟩ => ⟨dx, ea, e _ _ h1, LL.mono EntH.mono _ _ _ _ e h2⟩
/-- where a reader is -/
def rdAt (H : Hp) (q : Addr) : Nat := match H q with
  | some (.ins _ _ fs) => (match fs.lookup ("at" : Str) with
    | some (V.int z) => z.toNat
    | _ => 0)
  | _ => 0
theorem RdS.place {K : PySem.W.Frag} {t : Ad} {H : Hp} {p : Addr} {a : Nat} {r : Sp08.Bytes} (h : RdS K t H p a r) : rdAt H p = a := by
  obtain ⟨ma, dx, m, hp, _⟩ := h
  unfold rdAt
  rw [hp]
  simp only
  rw [lk_Reader_at]
  rfl
section
variable {P : Program} {w : World} {K : PySem.W.Frag} {mg : Str → Option Value} {base : Heap} {t : Ad}
/-- a new reader of a list -/
theorem RdS.new {H1 : Hp} {q dq d : Addr} {b : Sp08.Bytes} (h1 : H1 q = some (.ins t.c_Reader dq (fl_Reader (.ref d) (.int 0) (.int ((iv b).length : Int))))) (hS : SqL K H1 d (iv b)) : RdS K t H1 q 0 b := by
  refine ⟨d, dq, b, ?_, hS, by simp, Nat.le_refl _⟩
  rw [h1, List.length_map]
  rfl
def sp_read_strings (K : PySem.W.Frag) (t : Ad) : Sp := fun vs H Q E => ∃ (d : Addr) (b : Sp08.Bytes), vs = [.ref d] ∧ SqL K H d (iv b) ∧ b.length ≤ 10000 ∧ (Ma.S b = none ∨ b = [] → ∀ H', E (.ref t.c_NotMessage) none H') ∧
  (∀ l, Ma.S b = some l → b ≠ [] → ∀ H' a, Same H H' → LLH (nw H H') a l → Q (.ref a) H')
theorem ok_read_strings (T : Txt K mg t) : Ok P w K mg base (XN P w t.c_NotMessage) 4 t.f_read_strings ["data"] (sp_read_strings K t) := by
  obtain ⟨fd, F, bd⟩ := T.fn_read_strings
  obtain ⟨fd_Reader_take_string, b_Reader_take_string, k_Reader_take_string, G_Reader_take_string⟩ := ok_Reader_take_string (P := P) (w := w) (base := base) T
  obtain ⟨fd_Reader_init, b_Reader_init, k_Reader_init, G_Reader_init⟩ := ok_Reader_init (P := P) (w := w) (base := base) T
  refine ⟨fd, bd, F.kp, F.okX (C := t.c_NotMessage) sc_read_strings (fun vs H Q E h => ?_) (fun cdv A outer s H vs Q E hr h => ?_)⟩
  · obtain ⟨d, b, rfl, _⟩ := h
    rfl
  · obtain ⟨d, b, rfl, hS, hb, kE, kQ⟩ := h
    refine ⟨_, (pss_cons (ps_set (i := 1) sc_read_strings.nd rfl (Or.inl rfl) (pe_make T.mk_Reader G_Reader_init (hr.mono (by decide)) rfl T.mg_Reader b_Reader_init .nil pass0 (pa_cons (pv 0) (pa_cons pe_int (pa_cons (pe_callB call_len_seq rfl T.nb_len PySem.boot_len (pa_cons (pv 0) pa_nil)) pa_nil))))) (pss_cons (ps_set (i := 2) sc_read_strings.nd rfl (Or.inl rfl) (pe_lst (pa_cons (pe_meth0 (pv 1) T.cl_Reader T.me_Reader_take_string G_Reader_take_string (hr.mono (by decide)) b_Reader_take_string .nil pass1) pa_nil))) (pss_cons (ps_while own1 (pt_cmpR op_lt (pe_fld (pv 1) rfl) (pe_fld (pv 1) rfl) (nomark _)) (pss_one (ps_expr (pe_bm PySem.F.plainAttrs_list PySem.F.slot_list_append PySem.F.type_list_append mt_append (pv 2) (pa_cons (pe_meth0 (pv 1) T.cl_Reader T.me_Reader_take_string G_Reader_take_string (hr.mono (by decide)) b_Reader_take_string .nil pass1) pa_nil))))) (pss_one (ps_ret (pv 2)))))), ?_⟩
    refine ⟨_, rfl, _, rfl, d, _, rfl, .inl hS, ?_⟩
    intro q dq nq ndq neq
    refine ⟨q, dq, _, _, _, rfl, upd_same, fun H1 h1 k1 => ⟨rfl, ?_⟩⟩
    have s1 : Same H H1 := Same.made nq ndq k1
    have R1 : RdS K t H1 q 0 b := RdS.new h1 (s1.seq hS)
    -- strings = [reader.take_string()]
    refine ⟨_, rfl, q, dq, _, rfl, h1, no_Reader_take_string, q, 0, b, rfl, R1, fun hbad H' => ?_, fun c hc hge H2 n R2 s2 nn hn => ?_⟩
    · rcases hbad with hbad | ⟨c, hc, hlt⟩
      · refine kE (.inr ?_) H'
        cases b with
        | nil => rfl
        | cons x y => simp at hbad
      · refine kE (.inl ?_) H'
        have e := Ma.S_step hc
        rw [if_pos hlt] at e
        exact e
    have hq2 : H2 q ≠ none := R2.ne
    have off2 : ∀ x, H2 x = none → H1 x = none := s2.off hq2
    have k2 : Same H H2 := fun x o e => s2 x o (s1 x o e) (ne_of_none e nq)
    refine ⟨by show 1 ≤ sizeLine; decide, fun l hl => ?_⟩
    have s3 : Same H2 (L2.upd H2 l (.lst [V.ref n])) := Same.upd hl
    have hb0 : b ≠ [] := fun z => by rw [z] at hc; simp at hc
    have nl : n ≠ l := ne_of_none hn hl
    have B3 : LB BL H1 l (L2.upd H2 l (.lst [V.ref n])) [(b.drop 1).take c.toNat] := LB.one (Nw.one nn hn) BL.one hl
    have h1l : H1 l = none := off2 l hl
    have ql : q ≠ l := ne_of_none h1 h1l
    have new : ∀ {x : Addr}, H1 x = none ∨ x = l → x ≠ q := fun {x} z e => by
      subst e
      rcases z with z | z
      · rw [h1] at z; cases z
      · exact ql z
    refine while_by (fun σ H4 => ∃ (pre : List Sp08.Bytes) (p : Nat), σ = [some (.ref d), some (.ref q), some (.ref l)] ∧ RdS K t H4 q p b ∧ Ma.S b = (Ma.S (b.drop p)).map (fun z => pre ++ z) ∧ p ≤ b.length ∧ pre.length ≤ p ∧ SameX q H1 H4 ∧ LB BL H1 l H4 pre)
      (fun _ H4 => b.length - rdAt H4 q) ⟨_, _, rfl, R2.same s3, ?_, hge, ?_, s2.trans (SameX.of s3), B3⟩ ?_ ?_
    · have e := Ma.S_step hc
      rw [if_neg (by omega)] at e
      rw [List.drop_zero] at e
      rw [e]
      rfl
    · show 1 ≤ 0 + 1 + c.toNat
      omega
    · rintro σ H4 ⟨pre, p, rfl, R4, eS, hp, hpre, s4, B4⟩
      obtain ⟨ma4, dx4, m4, hq4, hm4, er4, hle4⟩ := id R4
      refine ⟨_, rfl, q, _, dx4, _, _, rfl, hq4, T.cl_Reader, T.na_Reader_at, lk_Reader_at, _, rfl, q, _, dx4, _, _, rfl, hq4, T.cl_Reader, T.na_Reader_end, lk_Reader_end, _, _, rfl, rfl, _, rfl, ?_⟩
      refine ite2 (fun hlt => ?_) (fun hlt => ?_)
      · have hlt : p < b.length := by have : (p : Int) < (b.length : Int) := of_decide_eq_true hlt; omega
        obtain ⟨xs, hl4, hxs, _, as, exs⟩ := B4.at_
        refine ⟨_, rfl, .inl ⟨rfl, _, SqL.of hl4⟩, _, rfl, q, dx4, _, rfl, hq4, no_Reader_take_string, q, p, b, rfl, R4, fun hbad H' => ?_, fun c hc hge H5 n5 R5 s5 nn5 hn5 => ?_⟩
        · rcases hbad with hbad | ⟨c, hc, hlt'⟩
          · have := List.getElem?_eq_none_iff.mp hbad
            omega
          · refine kE (.inl ?_) H'
            have e := Ma.S_step hc
            rw [if_pos hlt'] at e
            rw [eS, e]
            rfl
        · have hl5 := s5 l _ hl4 (Ne.symm ql)
          have B5 := B4.push BL.mono (fun x o e z => s5 x o e (new z)) (s4.off R4.ne) (Nw.one nn5 hn5) BL.one hl5
          have few : xs.length < sizeLine := by
            have : (10000 : Nat) < sizeLine := by decide
            omega
          refine ⟨l, _, _, rfl, rfl, hl5, few, ?_⟩
          have R6 : RdS K t (L2.upd H5 l (.lst (xs ++ [V.ref n5]))) q (p + 1 + c.toNat) b := R5.updL hb0 (by rw [hl5, exs])
          refine ⟨⟨_, _, rfl, R6, ?_, hge, ?_, fun x o e z => ?_, B5⟩, ?_⟩
          · have e := Ma.S_step hc
            rw [if_neg (by omega)] at e
            rw [eS, e, Option.map_map]
            congr 1
            funext z
            simp
          · rw [List.length_append]; simp; omega
          · rw [upd_ne (ne_of_none e h1l)]
            exact (s4.trans s5) x o e z
          · show b.length - rdAt _ q < b.length - rdAt H4 q
            rw [R6.place, R4.place]
            omega
      · have hge' : p = b.length := by
          have : ¬ ((p : Int) < (b.length : Int)) := fun z => hlt (decide_eq_true z)
          omega
        obtain ⟨G, g1, g2⟩ := B4.done BL.mono h1l
        have e : Ma.S b = some pre := by
          rw [eS, hge', List.drop_length, Ma.S_nil]
          simp
        have f1 : ∀ x, H1 x = none → H x = none := fun x z => s1.free z
        exact ⟨_, rfl, kQ _ e hb0 H4 l (fun x o ex => s4 x o (s1 x o ex) (ne_of_none ex nq)) (LLH.mono _ _ _ _ (fun x o ex => nw_pre f1 x o (g1.sub x o ex)) g2)⟩
    · exact fun σ H Q Q' hq ⟨v, e, a, C, dx, fs, v1, e1, e2, e3, e4, e5, w, f, a', C', dx', fs', v2, g1, g2, g3, g4, g5, i, j, h1, h2, k, ek, q⟩ => ⟨v, e, a, C, dx, fs, v1, e1, e2, e3, e4, e5, w, f, a', C', dx', fs', v2, g1, g2, g3, g4, g5, i, j, h1, h2, k, ek, hq _ _ q⟩
end
end Pn
end
section
set_option linter.all false
set_option Elab.async false
set_option maxRecDepth 100000
namespace Pn
open PySem L2
theorem LLH.lift {H H' G : Hp} {l : Addr} {n : Sp08.Name} (g1 : Nw H H' G) (g2 : LLH G l n) : LLH (nw H H') l n := LLH.mono _ _ _ _ g1.sub g2
section
variable {P : Program} {w : World} {K : PySem.W.Frag} {mg : Str → Option Value} {base : Heap} {t : Ad}
def sp_read_layout (K : PySem.W.Frag) (t : Ad) : Sp := fun vs H Q E => ∃ (p u : Addr) (a f k z : Nat) (r : Sp08.Bytes), vs = [.ref p, .ref u] ∧ RdS K t H p a r ∧ KT0 K u [.int (f : Int), .int (k : Int), .int (z : Int)] ∧ k ≤ 100 ∧
  (Ma.lay0 r a f k z = none → ∀ H', E (.ref t.c_NotMessage) none H') ∧ (∀ x, Ma.lay0 r a f k z = some x → ∀ H' q, RdS K t H' p x.2 r → SameX p H H' → DatH t (nw H H') q x.1 → Q (.ref q) H')
theorem ok_read_layout (T : Txt K mg t) : Ok P w K mg base (XN P w t.c_NotMessage) 5 t.f_read_layout ["part", "layout"] (sp_read_layout K t) := by
  obtain ⟨fd, F, bd⟩ := T.fn_read_layout
  obtain ⟨fd_Data_init, b_Data_init, k_Data_init, G_Data_init⟩ := ok_Data_init (P := P) (w := w) (base := base) T
  obtain ⟨fd_Reader_take_bytes, b_Reader_take_bytes, k_Reader_take_bytes, G_Reader_take_bytes⟩ := ok_Reader_take_bytes (P := P) (w := w) (base := base) T
  obtain ⟨fd_Reader_take_name, b_Reader_take_name, k_Reader_take_name, G_Reader_take_name⟩ := ok_Reader_take_name (P := P) (w := w) (base := base) T
  refine ⟨fd, bd, F.kp, F.okX (C := t.c_NotMessage) sc_read_layout (fun vs H Q E h => ?_) (fun cdv A outer s H vs Q E hr h => ?_)⟩
  · obtain ⟨p, u, a, f, k, z, r, rfl, _⟩ := h
    rfl
  · obtain ⟨p, u, a, f, k, z, r, rfl, R, hu, hk, kE, kQ⟩ := h
    obtain ⟨ma, dx, m, hp, hm, er, hle⟩ := id R
    refine ⟨_, (pss_cons (ps_set (i := 2) sc_read_layout.nd rfl (Or.inl rfl) (pe_meth (pv 0) T.cl_Reader T.me_Reader_take_bytes G_Reader_take_bytes (hr.mono (by decide)) b_Reader_take_bytes .nil pass1 (pa_cons (pe_ix ix_tup (pv 1) pe_int (fun _ _ => rfl)) pa_nil))) (pss_cons (ps_setLcX (own := [("turn", 5)]) (i := 3) cxOf_top (fun _ _ h => h) rfl sc_read_layout.nd rfl rfl (sw_true rfl rfl rfl rfl) (pi_range1 rfl T.nb_range (pa_cons (pe_ix ix_tup (pv 1) pe_int (fun _ _ => rfl)) pa_nil)) (blkOk_by (by kernel_rfl)) (fun _ _ _ _ _ _ => (pg_name (i := 5) sc_read_layout.nd rfl (Or.inl rfl))) (fun _ _ _ _ _ _ => pts_nil) (fun _ _ _ _ _ _ hP => (pe_meth0 (pv 0) T.cl_Reader T.me_Reader_take_name G_Reader_take_name (hr.mono (by decide)) b_Reader_take_name .nil hP))) (pss_cons (ps_set (i := 4) sc_read_layout.nd rfl (Or.inl rfl) (pe_meth (pv 0) T.cl_Reader T.me_Reader_take_bytes G_Reader_take_bytes (hr.mono (by decide)) b_Reader_take_bytes .nil pass1 (pa_cons (pe_ix ix_tup (pv 1) pe_int (fun _ _ => rfl)) pa_nil))) (pss_one (ps_ret (pe_make T.mk_Data G_Data_init (hr.mono (by decide)) rfl T.mg_Data b_Data_init .nil pass0 (pa_cons (pv 2) (pa_cons (pv 3) (pa_cons (pv 4) pa_nil))))))))), ?_⟩
    -- front = part.take_bytes(layout[0])
    refine ⟨_, rfl, p, dx, _, rfl, hp, no_Reader_take_bytes, _, rfl, u, _, _, _, rfl, rfl, hu.sq, atI_nat (j := 0) rfl, p, a, f, r, rfl, R, fun hlt H' => kE (by unfold Ma.lay0; rw [if_pos hlt]) H', fun hge H1 l R1 s1 nn h1 => ?_⟩
    have hp1 := R1.ne
    have off1 := s1.off hp1
    obtain ⟨ma1, dx1, m1, hpp1, _⟩ := id R1
    -- names = [part.take_name() for turn in range(layout[1])]
    refine ⟨_, rfl, u, _, _, _, rfl, rfl, hu.sq, atI_nat (j := 1) rfl, (k : Int), rfl, by omega, by omega, fun D hD => ?_⟩
    have hpD : p ≠ D := ne_of_none hpp1 hD
    have new : ∀ {b : Addr}, H1 b = none ∨ b = D → b ≠ p := fun {b} y e => by
      subst e
      rcases y with y | y
      · rw [hpp1] at y; cases y
      · exact hpD y
    refine lc_range (n := k) (fun i H2 => ∃ x, Ma.names r i (a + f) = some x ∧ RdS K t H2 p x.2 r ∧ SameX p H1 H2 ∧ LB LLH H1 D H2 x.1) ⟨([], a + f), rfl, R1.same (Same.upd hD), SameX.of (Same.upd hD), LB.nil upd_same⟩ ?_ ?_
    · rintro i H2 hi ⟨x, ex, R2, s2, B2⟩
      obtain ⟨ma2, dx2, m2, hp2, _⟩ := id R2
      refine ⟨rfl, yes_if ?_⟩
      refine ⟨_, rfl, p, dx2, _, rfl, hp2, no_Reader_take_name, p, x.2, r, rfl, R2, fun hn H' => kE ?_ H', fun y hy H3 n G R3 s3 g1 g2 => ?_⟩
      · have e : Ma.names r (i + 1) (a + f) = none := by rw [Ma.names, ex]; simp only [Option.bind_some, hn]; rfl
        unfold Ma.lay0
        rw [if_neg (by omega), Ma.names_none e (by omega)]
        rfl
      · obtain ⟨xs, hD2, hxs, _, as, exs⟩ := B2.at_
        have hD3 := s3 D _ hD2 (Ne.symm hpD)
        have el : x.1.length = i := Ma.names_len ex
        refine ⟨xs, hD3, by have : (1000 : Nat) < sizeLine := by decide
                            omega, _, by rw [Ma.names, ex]; simp only [Option.bind_some, hy]; rfl, ?_, ?_, B2.push LLH.mono (fun b o e y => s3 b o e (new y)) (s2.off R2.ne) g1 g2 hD3⟩
        · have hy2 := Ma.nameAt_place hy
          exact R3.updL (fun q => by rw [q] at hy2; simp at hy2; omega) (by rw [hD3, exs])
        · exact fun b o e y => by rw [upd_ne (ne_of_none e hD)]; exact (s2.trans s3) b o e y
    · rintro H2 ⟨x, ex, R2, s2, B2⟩
      obtain ⟨ma2, dx2, m2, hp2, _⟩ := id R2
      obtain ⟨G, g1, g2⟩ := B2.done LLH.mono hD
      -- back = part.take_bytes(layout[2])
      refine ⟨_, rfl, p, dx2, _, rfl, hp2, no_Reader_take_bytes, _, rfl, u, _, _, _, rfl, rfl, hu.sq, atI_nat (j := 2) rfl, p, x.2, z, r, rfl, R2, fun hlt H' => kE ?_ H', fun hge2 H3 l3 R3 s3 nn3 h3 => ?_⟩
      · unfold Ma.lay0
        rw [if_neg (by omega), ex]
        simp only [Option.bind_some]
        rw [if_pos hlt]
      · -- return Data(front, names, back)
        refine ⟨_, rfl, _, rfl, _, rfl, ?_⟩
        intro q dq nq ndq neq
        refine ⟨q, dq, _, _, _, rfl, upd_same, fun H4 h4 k4 => ⟨rfl, ?_⟩⟩
        have s4 : Same H3 H4 := Same.made nq ndq k4
        have el : Ma.lay0 r a f k z = some (((r.drop a).take f, x.1, (r.drop x.2).take z), x.2 + z) := by
          unfold Ma.lay0
          rw [if_neg (by omega), ex]
          simp only [Option.bind_some]
          rw [if_neg (by omega)]
        have s14 : SameX p H1 H4 := (s2.trans s3).trans (SameX.of s4)
        have s24 : SameX p H2 H4 := s3.trans (SameX.of s4)
        have off2 : ∀ b, H2 b = none → H b = none := fun b y => off1 b (s2.off R2.ne b y)
        have off3 : ∀ b, H3 b = none → H b = none := fun b y => off2 b (s3.off R3.ne b y)
        refine kQ _ el H4 q (R3.same s4) (s1.trans s14) ⟨dq, l, D, l3, nw_at (off3 q nq) h4, nw_at nn (s14.to hp l _ h1 nn), ?_, nw_at (off2 l3 nn3) (s4 _ _ h3)⟩
        refine LL.mono LLH.mono _ _ _ _ (fun b o e => ?_) g2
        obtain ⟨e1, e2⟩ := g1 b o e
        exact nw_at (off1 b e1) (s24.to hp b o e2 (off1 b e1))
end
end Pn
end
section
set_option linter.all false
set_option Elab.async false
set_option maxRecDepth 100000
namespace Pn
open PySem L2
theorem RdS.past {K : PySem.W.Frag} {t : Ad} {H H' : Hp} {p q C dx : Addr} {fs : List (Str × V)} {a : Nat} {r : Sp08.Bytes} (R : RdS K t H p a r) (e : SameX q H H') (hq : H q = some (.ins C dx fs)) (ne : p ≠ q) : RdS K t H' p a r := by
  obtain ⟨ma, dx, m, hp, hm, er, hle⟩ := R
  exact ⟨ma, dx, m, e _ _ hp ne, e.seq hq hm, er, hle⟩
theorem valI_cons {k : Int} {v : V} {r : List (Int × V)} {n : Int} : valI ((k, v) :: r) n = if k = n then some v else valI r n := by
  unfold valI
  rw [List.find?_cons]
  by_cases e : k = n
  · rw [if_pos e]; simp [e]
  · rw [if_neg e]; simp [e]
section
variable {P : Program} {w : World} {K : PySem.W.Frag} {mg : Str → Option Value} {base : Heap} {t : Ad}
abbrev laysV (t : Ad) : List (Int × V) := [(1, .ref t.v_LAYOUTS_0), (2, .ref t.v_LAYOUTS_1), (5, .ref t.v_LAYOUTS_2), (6, .ref t.v_LAYOUTS_3), (12, .ref t.v_LAYOUTS_4), (15, .ref t.v_LAYOUTS_5), (28, .ref t.v_LAYOUTS_6), (33, .ref t.v_LAYOUTS_7)]
theorem lays_none {k : Nat} (h : Ma.layouts k = none) : valI (laysV t) (k : Int) = none := by
  unfold Ma.layouts at h
  repeat (split at h; · cases h)
  simp only [valI_cons]
  rw [if_neg (by omega), if_neg (by omega), if_neg (by omega), if_neg (by omega), if_neg (by omega), if_neg (by omega), if_neg (by omega), if_neg (by omega)]
  rfl
theorem lays_some (T : Txt K mg t) {k : Nat} {x : Nat × Nat × Nat} (h : Ma.layouts k = some x) : x.2.1 ≤ 100 ∧ ∃ u, valI (laysV t) (k : Int) = some (.ref u) ∧ KT0 K u [.int (x.1 : Int), .int (x.2.1 : Int), .int (x.2.2 : Int)] := by
  unfold Ma.layouts at h
  split at h
  · rename_i e; subst e; cases h; exact ⟨by decide, _, rfl, T.kt_LAYOUTS_0⟩
  split at h
  · rename_i e; subst e; cases h; exact ⟨by decide, _, rfl, T.kt_LAYOUTS_1⟩
  split at h
  · rename_i e; subst e; cases h; exact ⟨by decide, _, rfl, T.kt_LAYOUTS_2⟩
  split at h
  · rename_i e; subst e; cases h; exact ⟨by decide, _, rfl, T.kt_LAYOUTS_3⟩
  split at h
  · rename_i e; subst e; cases h; exact ⟨by decide, _, rfl, T.kt_LAYOUTS_4⟩
  split at h
  · rename_i e; subst e; cases h; exact ⟨by decide, _, rfl, T.kt_LAYOUTS_5⟩
  split at h
  · rename_i e; subst e; cases h; exact ⟨by decide, _, rfl, T.kt_LAYOUTS_6⟩
  split at h
  · rename_i e; subst e; cases h; exact ⟨by decide, _, rfl, T.kt_LAYOUTS_7⟩
  · cases h
def sp_read_data (K : PySem.W.Frag) (t : Ad) : Sp := fun vs H Q E => ∃ (p : Addr) (a k : Nat) (r : Sp08.Bytes), vs = [.ref p, .int (k : Int)] ∧ RdS K t H p a r ∧ a ≤ r.length ∧ r.length ≤ 10000 ∧ (Ma.data3 r k a = none → ∀ H', E (.ref t.c_NotMessage) none H') ∧
  (∀ d, Ma.data3 r k a = some d → ∀ H' q, SameX p H H' → DatH t (nw H H') q d → Q (.ref q) H')
theorem ok_read_data (T : Txt K mg t) : Ok P w K mg base (XN P w t.c_NotMessage) 6 t.f_read_data ["part", "kind"] (sp_read_data K t) := by
  obtain ⟨fd, F, bd⟩ := T.fn_read_data
  obtain ⟨fd_Data_init, b_Data_init, k_Data_init, G_Data_init⟩ := ok_Data_init (P := P) (w := w) (base := base) T
  obtain ⟨fd_read_strings, b_read_strings, k_read_strings, G_read_strings⟩ := ok_read_strings (P := P) (w := w) (base := base) T
  obtain ⟨fd_Reader_take_rest, b_Reader_take_rest, k_Reader_take_rest, G_Reader_take_rest⟩ := ok_Reader_take_rest (P := P) (w := w) (base := base) T
  obtain ⟨fd_Reader_check_done, b_Reader_check_done, k_Reader_check_done, G_Reader_check_done⟩ := ok_Reader_check_done (P := P) (w := w) (base := base) T
  obtain ⟨fd_read_layout, b_read_layout, k_read_layout, G_read_layout⟩ := ok_read_layout (P := P) (w := w) (base := base) T
  refine ⟨fd, bd, F.kp, F.okX (C := t.c_NotMessage) sc_read_data (fun vs H Q E h => ?_) (fun cdv A outer s H vs Q E hr h => ?_)⟩
  · obtain ⟨p, a, k, r, rfl, _⟩ := h
    rfl
  · obtain ⟨p, a, k, r, rfl, R, hle0, hlen, kE, kQ⟩ := h
    obtain ⟨ma, dx, m, hp, hm, er, hle⟩ := id R
    refine ⟨_, (pss_cons (ps_if (pt_cmp (pc_kin (pv 1) (pe_gv rfl T.gv_LAYOUTS))) (pss_cons (ps_set (i := 2) sc_read_data.nd rfl (Or.inl rfl) (pe_call G_read_layout (hr.mono (by decide)) rfl T.mg_read_layout k_read_layout b_read_layout .nil pass1 (pa_cons (pv 0) (pa_cons (pe_kget (pe_gv rfl T.gv_LAYOUTS) (pv 1) (fun _ _ => rfl)) pa_nil)))) (pss_cons (ps_expr (pe_meth0 (pv 0) T.cl_Reader T.me_Reader_check_done G_Reader_check_done (hr.mono (by decide)) b_Reader_check_done .nil pass1)) (pss_one (ps_ret (pv 2))))) pss_nil) (pss_cons (ps_set (i := 3) sc_read_data.nd rfl (Or.inl rfl) (pe_meth0 (pv 0) T.cl_Reader T.me_Reader_take_rest G_Reader_take_rest (hr.mono (by decide)) b_Reader_take_rest .nil pass1)) (pss_cons (ps_if (pt_cmpR op_eq (pv 1) (pe_gv rfl T.gv_KIND_TXT) (nomark _)) (pss_one (ps_expr (pe_call G_read_strings (hr.mono (by decide)) rfl T.mg_read_strings k_read_strings b_read_strings .nil pass1 (pa_cons (pv 3) pa_nil)))) pss_nil) (pss_one (ps_ret (pe_make T.mk_Data G_Data_init (hr.mono (by decide)) rfl T.mg_Data b_Data_init .nil pass0 (pa_cons (pv 3) (pa_cons (pe_lst pa_nil) (pa_cons (pe_lst pa_nil) pa_nil))))))))), ?_⟩
    refine ⟨_, rfl, t.d_LAYOUTS, _, _, rfl, T.kd_LAYOUTS, rfl, _, rfl, ?_⟩
    refine ite2 (fun hin => ?_) (fun hin => ?_)
    · obtain ⟨x, ex⟩ : ∃ x, Ma.layouts k = some x := by
        cases q : Ma.layouts k with
        | some x => exact ⟨x, rfl⟩
        | none => rw [lays_none (t := t) q] at hin; cases hin
      obtain ⟨hk, u, ev, hu⟩ := lays_some T ex
      have ed : Ma.data3 r k a = (Ma.lay0 r a x.1 x.2.1 x.2.2).bind fun y => if y.2 = r.length then some y.1 else none := by
        unfold Ma.data3
        rw [ex]
        exact Ma.layout_lay0 r a x.1 x.2.1 x.2.2
      refine ⟨_, rfl, _, rfl, t.d_LAYOUTS, _, _, _, rfl, T.kd_LAYOUTS, rfl, ev, p, u, a, x.1, x.2.1, x.2.2, r, rfl, R, hu, hk, fun hn H' => kE (by rw [ed, hn]; rfl) H', fun y hy H1 q R1 s1 d1 => ?_⟩
      obtain ⟨ma1, dx1, m1, hp1, _⟩ := id R1
      refine ⟨_, rfl, p, dx1, _, rfl, hp1, no_Reader_check_done, p, y.2, r, rfl, R1, fun hne H' => kE (by rw [ed, hy]; simp only [Option.bind_some]; rw [if_neg hne]) H', fun e => ?_⟩
      exact ⟨_, rfl, kQ y.1 (by rw [ed, hy]; simp only [Option.bind_some]; rw [if_pos e]) H1 q s1 d1⟩
    · have ex : Ma.layouts k = none := by
        cases q : Ma.layouts k with
        | none => rfl
        | some x =>
          obtain ⟨_, u, ev, _⟩ := lays_some T q
          exact absurd (by rw [ev]; rfl) hin
      -- front = part.take_rest()
      refine ⟨_, rfl, p, dx, _, rfl, hp, no_Reader_take_rest, p, a, r, rfl, R, hle0, fun H1 l R1 s1 nn h1 => ?_⟩
      have off1 := s1.off R1.ne
      -- if kind == KIND_TXT
      refine ⟨_, rfl, rfl, _, rfl, ?_⟩
      refine ite2 (fun h16 => ?_) (fun h16 => ?_)
      · have h16 : k = 16 := by have := V.int.inj (of_decide_eq_true h16); omega
        have ed : Ma.data3 r k a = match Ma.S (r.drop a) with | some (_ :: _) => some (r.drop a, [], []) | _ => none := by
          unfold Ma.data3
          rw [ex]
          simp only
          rw [if_pos h16]
          try (rcases Ma.S (r.drop a) with _ | (_ | _) <;> rfl)
        refine ⟨_, rfl, l, r.drop a, rfl, SqL.of h1, by rw [List.length_drop]; omega, fun hbad H' => kE ?_ H', fun ls hs hne H2 a2 s2 g2 => ?_⟩
        · rw [ed]
          rcases hbad with hbad | hbad
          · rw [hbad]
          · rw [hbad, Ma.S_nil]
        · have edd : Ma.data3 r k a = some (r.drop a, [], []) := by
            rw [ed, hs]
            cases ls with
            | nil => exact absurd (Ma.S_some_nil hs) hne
            | cons x y => rfl
          refine ⟨_, rfl, Nat.zero_le _, fun l2 hl2 => ⟨Nat.zero_le _, fun l3 hl3 => ?_⟩⟩
          intro q dq nq ndq neq
          refine ⟨q, dq, _, _, _, rfl, upd_same, fun H4 h4 k4 => ⟨rfl, ?_⟩⟩
          have s3 : Same H2 (L2.upd (L2.upd H2 l2 (.lst [])) l3 (.lst [])) := (Same.upd hl2).trans (Same.upd hl3)
          have s4 : Same _ H4 := Same.made nq ndq k4
          have s14 : Same H1 H4 := (s2.trans s3).trans s4
          have f2 : ∀ b, H2 b = none → H b = none := fun b z => off1 b (s2.free z)
          have f3 : ∀ b, (L2.upd (L2.upd H2 l2 (.lst [])) l3 (.lst [])) b = none → H b = none := fun b z => f2 b (s3.free z)
          have fl3 : H2 l3 = none := (Same.upd hl2).free hl3
          refine kQ _ edd H4 q (s1.trans (SameX.of s14)) ⟨dq, l, l2, l3, nw_at (f3 q nq) h4, nw_at nn (s14 _ _ h1), ⟨[], nw_at (f2 l2 hl2) (s4 _ _ ((Same.upd hl3) _ _ upd_same)), .nil⟩, nw_at (f2 l3 fl3) (s4 _ _ upd_same)⟩
      · have h16 : ¬ k = 16 := fun z => h16 (by rw [z]; rfl)
        have edd : Ma.data3 r k a = some (r.drop a, [], []) := by
          unfold Ma.data3
          rw [ex]
          simp only
          rw [if_neg h16]
        refine ⟨_, rfl, Nat.zero_le _, fun l2 hl2 => ⟨Nat.zero_le _, fun l3 hl3 => ?_⟩⟩
        intro q dq nq ndq neq
        refine ⟨q, dq, _, _, _, rfl, upd_same, fun H4 h4 k4 => ⟨rfl, ?_⟩⟩
        have s3 : Same H1 (L2.upd (L2.upd H1 l2 (.lst [])) l3 (.lst [])) := (Same.upd hl2).trans (Same.upd hl3)
        have s4 : Same _ H4 := Same.made nq ndq k4
        have s14 : Same H1 H4 := s3.trans s4
        have f3 : ∀ b, (L2.upd (L2.upd H1 l2 (.lst [])) l3 (.lst [])) b = none → H b = none := fun b z => off1 b (s3.free z)
        have fl3 : H1 l3 = none := (Same.upd hl2).free hl3
        refine kQ _ edd H4 q (s1.trans (SameX.of s14)) ⟨dq, l, l2, l3, nw_at (f3 q nq) h4, nw_at nn (s14 _ _ h1), ⟨[], nw_at (off1 l2 hl2) (s4 _ _ ((Same.upd hl3) _ _ upd_same)), .nil⟩, nw_at (off1 l3 fl3) (s4 _ _ upd_same)⟩
def sp_read_entry (K : PySem.W.Frag) (t : Ad) : Sp := fun vs H Q E => ∃ (p : Addr) (a s : Nat) (r : Sp08.Bytes), vs = [.ref p, .int (s : Int)] ∧ RdS K t H p a r ∧ r.length ≤ 10000 ∧ (Ma.entry3 r s a = none → ∀ H', E (.ref t.c_NotMessage) none H') ∧
  (∀ x, Ma.entry3 r s a = some x → ∀ H' q, RdS K t H' p x.2 r → SameX p H H' → EntH t (nw H H') q x.1 → Q (.ref q) H')
theorem ok_read_entry (T : Txt K mg t) : Ok P w K mg base (XN P w t.c_NotMessage) 7 t.f_read_entry ["reader", "section"] (sp_read_entry K t) := by
  obtain ⟨fd, F, bd⟩ := T.fn_read_entry
  obtain ⟨fd_Entry_init, b_Entry_init, k_Entry_init, G_Entry_init⟩ := ok_Entry_init (P := P) (w := w) (base := base) T
  obtain ⟨fd_read_data, b_read_data, k_read_data, G_read_data⟩ := ok_read_data (P := P) (w := w) (base := base) T
  obtain ⟨fd_Reader_take_part, b_Reader_take_part, k_Reader_take_part, G_Reader_take_part⟩ := ok_Reader_take_part (P := P) (w := w) (base := base) T
  obtain ⟨fd_Reader_take_number, b_Reader_take_number, k_Reader_take_number, G_Reader_take_number⟩ := ok_Reader_take_number (P := P) (w := w) (base := base) T
  obtain ⟨fd_Reader_take_name, b_Reader_take_name, k_Reader_take_name, G_Reader_take_name⟩ := ok_Reader_take_name (P := P) (w := w) (base := base) T
  refine ⟨fd, bd, F.kp, F.okX (C := t.c_NotMessage) sc_read_entry (fun vs H Q E h => ?_) (fun cdv A outer s H vs Q E hr h => ?_)⟩
  · obtain ⟨p, a, sec, r, rfl, _⟩ := h
    rfl
  · obtain ⟨p, a, sec, r, rfl, R, hlen, kE, kQ⟩ := h
    obtain ⟨ma, dx, m, hp, hm, er, hle⟩ := id R
    refine ⟨_, (pss_cons (ps_set (i := 2) sc_read_entry.nd rfl (Or.inl rfl) (pe_meth0 (pv 0) T.cl_Reader T.me_Reader_take_name G_Reader_take_name (hr.mono (by decide)) b_Reader_take_name .nil pass1)) (pss_cons (ps_set (i := 3) sc_read_entry.nd rfl (Or.inl rfl) (pe_meth (pv 0) T.cl_Reader T.me_Reader_take_number G_Reader_take_number (hr.mono (by decide)) b_Reader_take_number .nil pass1 (pa_cons pe_int pa_nil))) (pss_cons (ps_set (i := 4) sc_read_entry.nd rfl (Or.inl rfl) (pe_meth (pv 0) T.cl_Reader T.me_Reader_take_number G_Reader_take_number (hr.mono (by decide)) b_Reader_take_number .nil pass1 (pa_cons pe_int pa_nil))) (pss_cons (ps_if (pt_cmpR op_eq (pv 1) (pe_gv rfl T.gv_QUESTIONS) (nomark _)) (pss_one (ps_ret (pe_make T.mk_Entry G_Entry_init (hr.mono (by decide)) rfl T.mg_Entry b_Entry_init .nil pass0 (pa_cons (pv 1) (pa_cons (pv 2) (pa_cons (pv 3) (pa_cons (pv 4) (pa_cons pe_non (pa_cons pe_non pa_nil))))))))) pss_nil) (pss_cons (ps_set (i := 5) sc_read_entry.nd rfl (Or.inl rfl) (pe_meth (pv 0) T.cl_Reader T.me_Reader_take_number G_Reader_take_number (hr.mono (by decide)) b_Reader_take_number .nil pass1 (pa_cons pe_int pa_nil))) (pss_cons (ps_set (i := 6) sc_read_entry.nd rfl (Or.inl rfl) (pe_meth (pv 0) T.cl_Reader T.me_Reader_take_part G_Reader_take_part (hr.mono (by decide)) b_Reader_take_part .nil pass1 (pa_cons (pe_meth (pv 0) T.cl_Reader T.me_Reader_take_number G_Reader_take_number (hr.mono (by decide)) b_Reader_take_number .nil pass1 (pa_cons pe_int pa_nil)) pa_nil))) (pss_one (ps_ret (pe_make T.mk_Entry G_Entry_init (hr.mono (by decide)) rfl T.mg_Entry b_Entry_init .nil pass0 (pa_cons (pv 1) (pa_cons (pv 2) (pa_cons (pv 3) (pa_cons (pv 4) (pa_cons (pv 5) (pa_cons (pe_call G_read_data (hr.mono (by decide)) rfl T.mg_read_data k_read_data b_read_data .nil pass1 (pa_cons (pv 6) (pa_cons (pv 3) pa_nil))) pa_nil))))))))))))))), ?_⟩
    refine ⟨_, rfl, p, dx, _, rfl, hp, no_Reader_take_name, p, a, r, rfl, R, fun hn H' => kE (by unfold Ma.entry3; rw [hn]; rfl) H', fun x hx H1 n G R1 s1 g1 g2 => ?_⟩
    obtain ⟨ma1, dx1, m1, hp1, _⟩ := id R1
    have ee : Ma.entry3 r sec a = (if sec = 0 then (if r.length < x.2 + 4 then none else some (⟨0, x.1, Sp08.number (Ma.slice r x.2 2), Sp08.number (Ma.slice r (x.2 + 2) 2), 0, ([], [], [])⟩, x.2 + 4))
        else if r.length < x.2 + 10 then none
        else if r.length < x.2 + 10 + Sp08.number (Ma.slice r (x.2 + 8) 2) then none
        else (Ma.data3 (r.take (x.2 + 10 + Sp08.number (Ma.slice r (x.2 + 8) 2))) (Sp08.number (Ma.slice r x.2 2)) (x.2 + 10)).map fun d =>
          (⟨sec, x.1, Sp08.number (Ma.slice r x.2 2), Sp08.number (Ma.slice r (x.2 + 2) 2), Sp08.number (Ma.slice r (x.2 + 4) 4), d⟩, x.2 + 10 + Sp08.number (Ma.slice r (x.2 + 8) 2))) := by
      unfold Ma.entry3
      rw [hx]
      rfl
    have bad4 : r.length < x.2 + 4 → Ma.entry3 r sec a = none := fun hlt => by
      rw [ee]
      by_cases h0 : sec = 0
      · rw [if_pos h0, if_pos hlt]
      · rw [if_neg h0, if_pos (by omega)]
    -- kind = reader.take_number(2); cls = reader.take_number(2)
    refine ⟨_, rfl, p, dx1, _, rfl, hp1, no_Reader_take_number, p, x.2, 2, r, rfl, R1, fun hlt H' => kE (bad4 (by omega)) H', fun h2 H2 R2 s2 => ?_⟩
    obtain ⟨ma2, dx2, m2, hp2, _⟩ := id R2
    refine ⟨_, rfl, p, dx2, _, rfl, hp2, no_Reader_take_number, p, x.2 + 2, 2, r, rfl, R2, fun hlt H' => kE (bad4 (by omega)) H', fun h3 H3 R3 s3 => ?_⟩
    obtain ⟨ma3, dx3, m3, hp3, _⟩ := id R3
    have s03 : SameX p H H3 := (s1.trans s2).trans s3
    have s13 : SameX p H1 H3 := s2.trans s3
    have gn : LLH (nw H H1) n x.1 := LLH.lift g1 g2
    -- if section == QUESTIONS
    refine ⟨_, rfl, rfl, _, rfl, ?_⟩
    refine ite2 (fun h0 => ?_) (fun h0 => ?_)
    · have h0 : sec = 0 := by have := V.int.inj (of_decide_eq_true h0); omega
      refine ⟨_, rfl, _, rfl, _, rfl, _, rfl, ?_⟩
      intro q dq nq ndq neq
      refine ⟨q, dq, _, _, _, _, _, _, rfl, upd_same, fun H4 h4 k4 => ⟨rfl, ?_⟩⟩
      have s4 : Same H3 H4 := Same.made nq ndq k4
      have f3 : ∀ b, H3 b = none → H b = none := s03.off R3.ne
      refine kQ _ (by rw [ee, if_pos h0, if_neg (by omega)]) H4 q (R3.same s4) (s03.trans (SameX.of s4)) ⟨dq, n, LLH.mono _ _ _ _ (nw_on fun b o e z => s4 _ _ (s13.to hp b o e z)) gn, .inl ⟨rfl, ?_⟩⟩
      refine nw_at (f3 q nq) ?_
      rw [h4, h0]
      rfl
    · have h0 : ¬ sec = 0 := fun z => h0 (by rw [z]; rfl)
      have bad10 : r.length < x.2 + 10 → Ma.entry3 r sec a = none := fun hlt => by rw [ee, if_neg h0, if_pos hlt]
      -- ttl = reader.take_number(4)
      refine ⟨_, rfl, p, dx3, _, rfl, hp3, no_Reader_take_number, p, x.2 + 2 + 2, 4, r, rfl, R3, fun hlt H' => kE (bad10 (by omega)) H', fun h4 H4 R4 s4 => ?_⟩
      obtain ⟨ma4, dx4, m4, hp4, _⟩ := id R4
      -- part = reader.take_part(reader.take_number(2))
      refine ⟨_, rfl, p, dx4, _, rfl, hp4, no_Reader_take_part, _, rfl, p, dx4, _, rfl, hp4, no_Reader_take_number, p, x.2 + 2 + 2 + 4, 2, r, rfl, R4, fun hlt H' => kE (bad10 (by omega)) H', fun h5 H5 R5 s5 => ?_⟩
      have en : x.2 + 2 + 2 + 4 = x.2 + 8 := by omega
      refine ⟨p, x.2 + 2 + 2 + 4 + 2, Sp08.number (Ma.slice r (x.2 + 8) 2), r, by rw [en]; rfl, R5, fun hlt H' => kE (by rw [ee, if_neg h0, if_neg (by omega), if_pos (by omega)]) H', fun h6 H6 pt R6 s6 n6 Rp => ?_⟩
      have en2 : x.2 + 2 + 2 + 4 + 2 = x.2 + 10 := by omega
      rw [en2] at Rp R6 h6
      have ee2 : Ma.entry3 r sec a = (Ma.data3 (r.take (x.2 + 10 + Sp08.number (Ma.slice r (x.2 + 8) 2))) (Sp08.number (Ma.slice r x.2 2)) (x.2 + 10)).map fun d =>
          (⟨sec, x.1, Sp08.number (Ma.slice r x.2 2), Sp08.number (Ma.slice r (x.2 + 2) 2), Sp08.number (Ma.slice r (x.2 + 4) 4), d⟩, x.2 + 10 + Sp08.number (Ma.slice r (x.2 + 8) 2)) := by
        rw [ee, if_neg h0, if_neg (by omega), if_neg (by omega)]
      have lp : (r.take (x.2 + 10 + Sp08.number (Ma.slice r (x.2 + 8) 2))).length = x.2 + 10 + Sp08.number (Ma.slice r (x.2 + 8) 2) := by rw [List.length_take]; omega
      have s06 : SameX p H H6 := ((s03.trans s4).trans s5).trans s6
      have s16 : SameX p H1 H6 := ((s13.trans s4).trans s5).trans s6
      have f6 : ∀ b, H6 b = none → H b = none := s06.off R6.ne
      have hpt : H pt = none := (((s03.trans s4).trans s5).off R5.ne) pt n6
      have npt : p ≠ pt := ne_of_none hp hpt
      obtain ⟨mp, dp, mmp, hpp, _⟩ := id Rp
      -- return Entry(.., read_data(part, kind))
      refine ⟨_, rfl, _, rfl, _, rfl, _, rfl, _, rfl, _, rfl, _, rfl, pt, x.2 + 10, Sp08.number (Ma.slice r x.2 2), _, rfl, Rp, by rw [lp]; omega, by rw [lp]; omega, fun hn H' => kE (by rw [ee2, hn]; rfl) H', fun d hd H7 da s7 d7 => ?_⟩
      intro q dq nq ndq neq
      refine ⟨q, dq, _, _, _, _, _, _, rfl, upd_same, fun H8 h8 k8 => ⟨rfl, ?_⟩⟩
      have s8 : Same H7 H8 := Same.made nq ndq k8
      have f7 : ∀ b, H7 b = none → H b = none := fun b z => by
        cases e : H b with
        | none => rfl
        | some o =>
          cases e6 : H6 b with
          | none => rw [f6 b e6] at e; cases e
          | some o6 => rw [s7 b o6 e6 (ne_of_none e hpt)] at z; cases z
      have h1pt : H1 pt = none := (((s13.trans s4).trans s5).off R5.ne) pt n6
      have d8 : DatH t (nw H H8) da d := DatH.mono _ _ _ _ (fun b o e => nw_on (fun b o e z => s8 b o e) b o (nw_pre f6 b o e)) d7
      refine kQ _ (by rw [ee2, hd]; rfl) H8 q ((R6.past s7 hpp npt).same s8) (fun b o e z => s8 _ _ (s7 b o (s06 b o e z) (ne_of_none e hpt))) ⟨dq, n, LLH.mono _ _ _ _ (nw_on fun b o e z => s8 _ _ (s7 b o (s16.to hp b o e z) (ne_of_none e h1pt))) gn, .inr ⟨h0, da, d8, ?_⟩⟩
      exact nw_at (f7 q nq) h8
end
end Pn
end
section
set_option linter.all false
set_option Elab.async false
set_option maxRecDepth 100000
namespace Pn
open PySem L2
theorem RdS.updS {K : PySem.W.Frag} {t : Ad} {H : Hp} {p l : Addr} {a : Nat} {r : Sp08.Bytes} {xs : List V} {o : HO} (R : RdS K t H p a r) (hl : H l = some (.lst xs)) (hx : xs.length < r.length) : RdS K t (L2.upd H l o) p a r := by
  obtain ⟨ma, dx, m, hp, hm, er, hle⟩ := R
  refine ⟨ma, dx, m, by rw [upd_ne (ne_of hp hl (by intro z; cases z))]; exact hp, ?_, er, hle⟩
  rcases hm with (h | ⟨o', h⟩) | h
  · refine .inl (.inl ?_)
    rw [upd_ne (ne_of h hl (fun z => ?_))]
    · exact h
    · have e := congrArg List.length (HO.lst.inj z)
      rw [List.length_map] at e
      omega
  · refine .inl (.inr ⟨o', ?_⟩)
    rw [upd_ne (ne_of h hl (by intro z; cases z))]
    exact h
  · exact .inr h
/-- the four counts of a message -/
def cntV (m : Sp08.Bytes) (i : Nat) : List V := (List.range i).map fun j => V.int ((Sp08.number (Ma.slice m (2 * (2 + j)) 2) : Nat) : Int)
theorem cntV_succ (m : Sp08.Bytes) (i : Nat) : cntV m (i + 1) = cntV m i ++ [V.int ((Sp08.number (Ma.slice m (2 * (2 + i)) 2) : Nat) : Int)] := by
  unfold cntV
  rw [List.range_succ, List.map_append]
  rfl
theorem cntV_get {m : Sp08.Bytes} {i j : Nat} {x : V} (h : (cntV m j)[i]? = some x) : x = V.int ((Sp08.number (Ma.slice m (2 * (2 + i)) 2) : Nat) : Int) := by
  unfold cntV at h
  rw [List.getElem?_map] at h
  cases e : (List.range j)[i]? with
  | none => rw [e] at h; cases h
  | some k =>
    rw [e] at h
    obtain ⟨hl, ek⟩ := List.getElem?_eq_some_iff.mp e
    rw [List.getElem_range] at ek
    subst ek
    exact (Option.some.inj h).symm
theorem secs_bad {m : Sp08.Bytes} {i : Nat} (h : Ma.secs m i = none) (hi : i ≤ 4) : Ma.read3 m = none := by
  unfold Ma.read3
  by_cases h12 : m.length < 12
  · rw [if_pos h12]
  · rw [if_neg h12, Ma.secs_none h hi]; rfl
section
variable {P : Program} {w : World} {K : PySem.W.Frag} {mg : Str → Option Value} {base : Heap} {t : Ad}
def sp_read_message (K : PySem.W.Frag) (t : Ad) : Sp := fun vs H Q E => ∃ (ma : Addr) (m : Sp08.Bytes), vs = [.ref ma] ∧ SqL K H ma (iv m) ∧ m.length ≤ 4096 ∧ (Ma.read3 m = none → ∀ H', E (.ref t.c_NotMessage) none H') ∧
  (∀ M, Ma.read3 m = some M → ∀ H' q, Same H H' → MesH t (nw H H') q M → Q (.ref q) H')
theorem ok_read_message (T : Txt K mg t) : Ok P w K mg base (XN P w t.c_NotMessage) 8 t.f_read_message ["message"] (sp_read_message K t) := by
  obtain ⟨fd, F, bd⟩ := T.fn_read_message
  obtain ⟨fd_Message_init, b_Message_init, k_Message_init, G_Message_init⟩ := ok_Message_init (P := P) (w := w) (base := base) T
  obtain ⟨fd_Reader_check_done, b_Reader_check_done, k_Reader_check_done, G_Reader_check_done⟩ := ok_Reader_check_done (P := P) (w := w) (base := base) T
  obtain ⟨fd_read_entry, b_read_entry, k_read_entry, G_read_entry⟩ := ok_read_entry (P := P) (w := w) (base := base) T
  obtain ⟨fd_Reader_take_number, b_Reader_take_number, k_Reader_take_number, G_Reader_take_number⟩ := ok_Reader_take_number (P := P) (w := w) (base := base) T
  obtain ⟨fd_Reader_init, b_Reader_init, k_Reader_init, G_Reader_init⟩ := ok_Reader_init (P := P) (w := w) (base := base) T
  refine ⟨fd, bd, F.kp, F.okX (C := t.c_NotMessage) sc_read_message (fun vs H Q E h => ?_) (fun cdv A outer s H vs Q E hr h => ?_)⟩
  · obtain ⟨ma, m, rfl, _⟩ := h
    rfl
  · obtain ⟨ma, m, rfl, hS, hlen, kE, kQ⟩ := h
    refine ⟨_, (pss_cons (ps_set (i := 1) sc_read_message.nd rfl (Or.inr rfl) (pe_make T.mk_Reader G_Reader_init (hr.mono (by decide)) rfl T.mg_Reader b_Reader_init .nil pass0 (pa_cons (pv 0) (pa_cons pe_int (pa_cons (pe_callB call_len_seq rfl T.nb_len PySem.boot_len (pa_cons (pv 0) pa_nil)) pa_nil))))) (pss_cons (ps_set (i := 2) sc_read_message.nd rfl (Or.inl rfl) (pe_meth (pv 1) T.cl_Reader T.me_Reader_take_number G_Reader_take_number (hr.mono (by decide)) b_Reader_take_number .nil pass1 (pa_cons pe_int pa_nil))) (pss_cons (ps_set (i := 3) sc_read_message.nd rfl (Or.inl rfl) (pe_meth (pv 1) T.cl_Reader T.me_Reader_take_number G_Reader_take_number (hr.mono (by decide)) b_Reader_take_number .nil pass1 (pa_cons pe_int pa_nil))) (pss_cons (ps_setLcX (own := [("section", 6)]) (i := 4) cxOf_top (fun _ _ h => h) rfl sc_read_message.nd rfl rfl (sw_true rfl rfl rfl rfl) (pi_tup (pe_gv rfl T.gv_SECTION_NAMES)) (blkOk_by (by kernel_rfl)) (fun _ _ _ _ _ _ => (pg_name (i := 6) sc_read_message.nd rfl (Or.inl rfl))) (fun _ _ _ _ _ _ => pts_nil) (fun _ _ _ _ _ _ hP => (pe_meth (pv 1) T.cl_Reader T.me_Reader_take_number G_Reader_take_number (hr.mono (by decide)) b_Reader_take_number .nil hP (pa_cons pe_int pa_nil)))) (pss_cons (ps_set (i := 5) sc_read_message.nd rfl (Or.inl rfl) (pe_lst pa_nil)) (pss_cons (ps_for own1 rfl (pi_enum rfl T.nb_enumerate (pa_cons (pv 4) pa_nil)) (pg_tup rfl (pgs_cons (pg_name (i := 6) sc_read_message.nd rfl (Or.inl rfl)) (pgs_cons (pg_name (i := 7) sc_read_message.nd rfl (Or.inl rfl)) pgs_nil))) (pss_one (ps_for own1 rfl (pi_range1 rfl T.nb_range (pa_cons (pv 7) pa_nil)) (pg_name (i := 8) sc_read_message.nd rfl (Or.inl rfl)) (pss_one (ps_expr (pe_bm PySem.F.plainAttrs_list PySem.F.slot_list_append PySem.F.type_list_append mt_append (pv 5) (pa_cons (pe_call G_read_entry (hr.mono (by decide)) rfl T.mg_read_entry k_read_entry b_read_entry .nil pass1 (pa_cons (pv 1) (pa_cons (pv 6) pa_nil))) pa_nil))))))) (pss_cons (ps_expr (pe_meth0 (pv 1) T.cl_Reader T.me_Reader_check_done G_Reader_check_done (hr.mono (by decide)) b_Reader_check_done .nil pass1)) (pss_one (ps_ret (pe_make T.mk_Message G_Message_init (hr.mono (by decide)) rfl T.mg_Message b_Message_init .nil pass0 (pa_cons (pv 2) (pa_cons (pv 3) (pa_cons (pv 5) pa_nil))))))))))))), ?_⟩
    -- reader = Reader(message, 0, len(message))
    refine ⟨_, rfl, _, rfl, ma, _, rfl, .inl hS, ?_⟩
    intro q dq nq ndq neq
    refine ⟨q, dq, _, _, _, rfl, upd_same, fun H1 h1 k1 => ⟨rfl, ?_⟩⟩
    have s1 : Same H H1 := Same.made nq ndq k1
    have R1 : RdS K t H1 q 0 m := RdS.new h1 (s1.seq hS)
    have short : m.length < 12 → Ma.read3 m = none := fun h => by unfold Ma.read3; rw [if_pos h]
    -- number, flags
    refine ⟨_, rfl, q, dq, _, rfl, h1, no_Reader_take_number, q, 0, 2, m, rfl, R1, fun hlt H' => kE (short (by omega)) H', fun g2 H2 R2 s2 => ?_⟩
    obtain ⟨ma2, dx2, m2, hq2, _⟩ := id R2
    refine ⟨_, rfl, q, dx2, _, rfl, hq2, no_Reader_take_number, q, 0 + 2, 2, m, rfl, R2, fun hlt H' => kE (short (by omega)) H', fun g3 H3 R3 s3 => ?_⟩
    obtain ⟨ma3, dx3, m3, hq3, _⟩ := id R3
    have s13 : SameX q H1 H3 := s2.trans s3
    -- counts = [reader.take_number(2) for section in SECTION_NAMES]
    refine ⟨t.u_SECTION_NAMES, rfl, ⟨_, T.kt_SECTION_NAMES.sq⟩, fun D hD => ?_⟩
    have hqD : q ≠ D := ne_of_none hq3 hD
    refine lc_tup (K := K) (a := t.u_SECTION_NAMES) (xs := [.str "Q", .str "AN", .str "NS", .str "AR"]) (fun i H4 => (i ≤ 4 ∧ 4 + 2 * i ≤ m.length) ∧ RdS K t H4 q (4 + 2 * i) m ∧ SameX q H3 H4 ∧ H4 D = some (.lst (cntV m i)))
      ⟨⟨by omega, by omega⟩, R3.same (Same.upd hD), SameX.of (Same.upd hD), upd_same⟩ (fun _ _ _ _ => T.kt_SECTION_NAMES.sq) ?_ ?_
    · rintro i x H4 hi ⟨h4, R4, s4, hD4⟩
      have hi : i < 4 := (List.getElem?_eq_some_iff.mp hi).1
      obtain ⟨ma4, dx4, m4, hq4, _⟩ := id R4
      refine ⟨rfl, yes_if ?_⟩
      refine ⟨_, rfl, q, dx4, _, rfl, hq4, no_Reader_take_number, q, 4 + 2 * i, 2, m, rfl, R4, fun hlt H' => kE (short (by omega)) H', fun g5 H5 R5 s5 => ?_⟩
      have hD5 := s5 D _ hD4 (Ne.symm hqD)
      refine ⟨_, hD5, by unfold cntV; rw [List.length_map, List.length_range]; have : (4 : Nat) < sizeLine := by decide
                         omega, ⟨by omega, by omega⟩, ?_, fun b o e z => by rw [upd_ne (ne_of_none e hD)]; exact (s4.trans s5) b o e z, ?_⟩
      · have e : 4 + 2 * i + 2 = 4 + 2 * (i + 1) := by omega
        rw [e] at R5
        exact R5.updS hD5 (by unfold cntV; rw [List.length_map, List.length_range]; omega)
      · rw [upd_same, cntV_succ]
        have e : 4 + 2 * i = 2 * (2 + i) := by omega
        rw [e]
        rfl
    · rintro H4 ⟨⟨_, h12⟩, R4, s4, hD4⟩
      have h12 : 12 ≤ m.length := h12
      have s14 : SameX q H1 H4 := s13.trans s4
      have off4 : ∀ b, H4 b = none → H1 b = none := s14.off R4.ne
      -- entries = []
      refine ⟨Nat.zero_le _, fun ea hea => ?_⟩
      have s5 : Same H4 (L2.upd H4 ea (.lst [])) := Same.upd hea
      have hqe : q ≠ ea := R4.free hea
      have new : ∀ {b : Addr}, H4 b = none ∨ b = ea → b ≠ q := fun {b} y e => by
        subst e
        rcases y with y | y
        · exact R4.ne y
        · exact hqe y
      -- for section, count in enumerate(counts)
      refine ⟨_, rfl, D, _, rfl, SqL.of (s5 _ _ hD4), for_enum (K := K) (a := D) (xs := cntV m 4) (fun i σ H6 => ∃ (x : List Ma.E3 × Nat) (v6 v7 v8 : Option V), Ma.secs m i = some x ∧
        σ = [some (.ref ma), some (.ref q), some (.int ((Sp08.number (Ma.slice m 0 2) : Nat) : Int)), some (.int ((Sp08.number (Ma.slice m 2 2) : Nat) : Int)), some (.ref D), some (.ref ea), v6, v7, v8] ∧
        RdS K t H6 q x.2 m ∧ SameX q H4 H6 ∧ LB (EntH t) H4 ea H6 x.1 ∧ x.1.length ≤ x.2 ∧ x.2 ≤ m.length)
        ⟨([], 12), none, none, none, rfl, rfl, R4.same s5, SameX.of s5, LB.nil upd_same, by simp, h12⟩ (fun i σ H6 _ ⟨x, _, _, _, _, _, _, s6, _⟩ => SqL.of (s6 D _ hD4 (Ne.symm hqD))) ?_ ?_⟩
      · rintro i y σ H6 T0 hi ⟨x, v6, v7, v8, ex, rfl, R6, s6, B6, c6, l6⟩ hT0
        have hi4 : i < 4 := by have := (List.getElem?_eq_some_iff.mp hi).1; unfold cntV at this; rw [List.length_map, List.length_range] at this; exact this
        have ey := cntV_get hi
        subst ey
        have s7 : Same H6 (L2.upd H6 T0 (.tup [.int ((i : Nat) : Int), V.int ((Sp08.number (Ma.slice m (2 * (2 + i)) 2) : Nat) : Int)])) := Same.upd hT0
        have cl := Ma.slice_num2 (m := m) (p := 2 * (2 + i))
        refine ⟨T0, _, rfl, SqT.of upd_same, rfl, _, _, rfl, _, _, rfl, rfl, ?_⟩
        -- for turn in range(count)
        refine ⟨_, rfl, ((Sp08.number (Ma.slice m (2 * (2 + i)) 2) : Nat) : Int), rfl, by omega, by omega, for_range (n := Sp08.number (Ma.slice m (2 * (2 + i)) 2)) (fun j σ H8 => ∃ (y : List Ma.E3 × Nat) (v8 : Option V), Ma.entries3 m i j x.2 = some y ∧
          σ = [some (.ref ma), some (.ref q), some (.int ((Sp08.number (Ma.slice m 0 2) : Nat) : Int)), some (.int ((Sp08.number (Ma.slice m 2 2) : Nat) : Int)), some (.ref D), some (.ref ea), some (.int ((i : Nat) : Int)), some (V.int ((Sp08.number (Ma.slice m (2 * (2 + i)) 2) : Nat) : Int)), v8] ∧
          RdS K t H8 q y.2 m ∧ SameX q H4 H8 ∧ LB (EntH t) H4 ea H8 (x.1 ++ y.1) ∧ (x.1 ++ y.1).length ≤ y.2 ∧ y.2 ≤ m.length)
          ⟨([], x.2), v8, rfl, rfl, R6.same s7, s6.trans (SameX.of s7), by rw [List.append_nil]; exact B6.keep fun b o e _ => s7 b o e, by rw [List.append_nil]; exact c6, l6⟩ ?_ ?_⟩
        · rintro j σ H8 hj ⟨y, v8', ey, rfl, R8, s8, B8, c8, l8⟩
          obtain ⟨xs, hea8, hxs, _, as, exs⟩ := B8.at_
          refine ⟨_, rfl, .inl ⟨rfl, _, SqL.of hea8⟩, _, rfl, _, rfl, q, y.2, i, m, rfl, R8, by omega, fun hn H' => kE ?_ H', fun z hz H9 n R9 s9 g9 => ?_⟩
          · refine secs_bad (i := i + 1) ?_ (by omega)
            rw [Ma.secs, ex]
            simp only [Option.bind_some]
            rw [Ma.entries3_none (j := j + 1) (by rw [Ma.entries3, ey]; simp only [Option.bind_some, hn]; rfl) (by omega)]
            rfl
          · have hz2 := Ma.entry3_ok hlen (by omega) hz
            have hea9 := s9 ea _ hea8 (Ne.symm hqe)
            have B9 := B8.push EntH.mono (fun b o e z => s9 b o e (new z)) (s8.off R8.ne) (nw_nw H8 H9) g9 hea9
            refine ⟨ea, _, _, rfl, rfl, hea9, by have : (5000 : Nat) < sizeLine := by decide
                                                 omega, ?_⟩
            refine ⟨(y.1 ++ [z.1], z.2), _, by rw [Ma.entries3, ey]; simp only [Option.bind_some, hz]; rfl, rfl, R9.updL (fun z => by rw [z] at h12; simp at h12) (by rw [hea9, exs]), fun b o e y => ?_, by rw [← List.append_assoc]; exact B9, ?_, hz2.2.1⟩
            · rw [upd_ne (ne_of_none e hea)]
              exact (s8.trans s9) b o e y
            · simp only [List.length_append, List.length_cons, List.length_nil] at c8 ⊢
              omega
        · rintro σ H8 ⟨y, v8', ey, rfl, R8, s8, B8, c8, l8⟩
          exact ⟨(x.1 ++ y.1, y.2), _, _, _, by rw [Ma.secs, ex]; simp only [Option.bind_some, ey]; rfl, rfl, R8, s8, B8, c8, l8⟩
      · rintro σ H6 ⟨x, v6, v7, v8, ex, rfl, R6, s6, B6, c6, l6⟩
        have ex : Ma.secs m 4 = some x := by
          have e : (cntV m 4).length = 4 := by unfold cntV; rw [List.length_map, List.length_range]
          rw [e] at ex
          exact ex
        have er3 : Ma.read3 m = if x.2 = m.length then some ⟨Sp08.number (Ma.slice m 0 2), Sp08.number (Ma.slice m 2 2), x.1⟩ else none := by
          unfold Ma.read3
          rw [if_neg (by omega), ex]
          rfl
        obtain ⟨ma6, dx6, m6, hq6, _⟩ := id R6
        -- reader.check_done()
        refine ⟨_, rfl, q, dx6, _, rfl, hq6, no_Reader_check_done, q, x.2, m, rfl, R6, fun hne H' => kE (by rw [er3, if_neg hne]) H', fun e => ?_⟩
        -- return Message(number, flags, entries)
        refine ⟨_, rfl, _, rfl, _, rfl, ?_⟩
        intro q7 dq7 nq7 ndq7 neq7
        refine ⟨q7, dq7, _, _, _, rfl, upd_same, fun H7 h7 k7 => ⟨rfl, ?_⟩⟩
        have s7 : Same H6 H7 := Same.made nq7 ndq7 k7
        have off6 : ∀ b, H6 b = none → H b = none := fun b z => s1.free ((s14.trans s6).off R6.ne b z)
        have off4' : ∀ b, H4 b = none → H b = none := fun b z => s1.free (off4 b z)
        obtain ⟨G, g1, g2⟩ := B6.done EntH.mono hea
        refine kQ _ (by rw [er3, if_pos e]) H7 q7 (fun b o z => s7 b o ((s14.trans s6) b o (s1 b o z) (ne_of_none z nq))) ⟨dq7, ea, nw_at (off6 q7 nq7) h7, ?_⟩
        refine LL.mono EntH.mono _ _ _ _ (fun b o z => ?_) g2
        obtain ⟨z1, z2⟩ := g1 b o z
        exact nw_at (off4' b z1) (s7 b o z2)
end
end Pn
end
section
set_option linter.all false
set_option Elab.async false
set_option maxRecDepth 100000
namespace Pn
open PySem L2
open TL (tl numL)
/-- a new list of these bytes is handed back, all else is as it was -/
def TB (H : Hp) (Q : VK) (b : Sp08.Bytes) : Prop := ∀ H' l, Same H H' → H l = none → H' l = some (.lst (iv b)) → Q (.ref l) H'
/-- .. a new list of lists of bytes -/
def TLs (H : Hp) (Q : VK) (ls : List Sp08.Bytes) : Prop := ∀ H' l, Same H H' → LLH (nw H H') l ls → Q (.ref l) H'
theorem big : (4000000 : Nat) < sizeLine := by decide
theorem TB.nw {H H' : Hp} {l : Addr} {b : Sp08.Bytes} (n : H l = none) (h : H' l = some (.lst (iv b))) : Nw H H' (nw H H') ∧ BL (Pn.nw H H') l b := ⟨nw_nw H H', nw_at n h⟩
theorem Same.to {H H1 H2 : Hp} (e : Same H1 H2) : ∀ b o, H1 b = some o → H b = none → H2 b = some o := fun b o h _ => e b o h
theorem iv_snoc (b : Sp08.Bytes) (c : UInt8) : iv (b ++ [c]) = iv b ++ [bV c] := by simp
theorem take_snoc {b : Sp08.Bytes} {i : Nat} {c : UInt8} (h : b[i]? = some c) : b.take (i + 1) = b.take i ++ [c] := by
  obtain ⟨hl, e⟩ := List.getElem?_eq_some_iff.mp h
  rw [List.take_succ_eq_append_getElem hl, e]
section
variable {P : Program} {w : World} {K : PySem.W.Frag} {mg : Str → Option Value} {base : Heap} {t : Ad}
def sp_signs : Sp := fun vs H Q _ => ∃ (x : Str) (b : Sp08.Bytes), vs = [.str x] ∧ tl x = b.map UInt8.toNat ∧ b.length ≤ 4000000 ∧ TB H Q b
theorem ok_signs (T : Txt K mg t) : Ok P w K mg base CX0 1 t.f_signs ["words"] sp_signs := by
  obtain ⟨fd, F, bd⟩ := T.fn_signs
  refine ⟨fd, bd, F.kp, F.ok sc_signs (fun vs H Q E h => ?_) (fun cdv A outer s H vs Q E hr h => ?_)⟩
  · obtain ⟨x, b, rfl, _⟩ := h
    rfl
  · obtain ⟨x, b, rfl, hx, hb, k⟩ := h
    have hsz : x.cps.size = b.length := by have := congrArg List.length hx; simpa [tl] using this
    refine ⟨_, (pss_one (ps_ret (pe_lc (own := [("sign", 1)]) rfl sc_signs.nd (pi_str (pv 0)) (blkOk_by (by kernel_rfl)) (fun _ _ _ _ _ => (pg_name (i := 1) sc_signs.nd rfl (Or.inl rfl))) (fun _ _ _ _ _ => pts_nil) (fun _ _ _ _ _ => (pe_callB call_ord rfl T.nb_ord PyProof.Rows.boot_ord (pa_cons (pv 1) pa_nil)))))), ?_⟩
    refine ⟨_, rfl, x, rfl, fun D hD => lc_str (x := x) (fun i H2 => H2 D = some (.lst (iv (b.take i))) ∧ Same H H2) ⟨upd_same, Same.upd hD⟩ ?_ ?_⟩
    · rintro i c H2 hc ⟨h2, s2⟩
      have hbi : ∃ cb : UInt8, b[i]? = some cb ∧ cb.toNat = c := by
        have e : (tl x)[i]? = some c := by rw [← Array.getElem?_toList] at hc; exact hc
        rw [hx, List.getElem?_map] at e
        cases q : b[i]? with
        | none => rw [q] at e; cases e
        | some cb => rw [q] at e; exact ⟨cb, rfl, Option.some.inj e⟩
      obtain ⟨cb, hcb, ec⟩ := hbi
      refine ⟨rfl, yes_if ?_⟩
      refine ⟨_, rfl, ⟨#[c]⟩, rfl, rfl, ?_⟩
      have hl := (List.getElem?_eq_some_iff.mp hcb).1
      refine ⟨_, h2, ?_, ?_, fun b' o e => ?_⟩
      · rw [List.length_map, List.length_take]
        have := big
        omega
      · rw [upd_same, take_snoc hcb, iv_snoc]
        show some (HO.lst (iv (b.take i) ++ [V.int ((c : Nat) : Int)])) = _
        rw [← ec]
      · rw [upd_ne (ne_of_none e hD)]
        exact s2 b' o e
    · rintro H2 ⟨h2, s2⟩
      rw [hsz, List.take_length] at h2
      exact k H2 D s2 hD h2
def sp_joined : Sp := fun vs H Q _ => ∃ (a : Addr) (c : UInt8) (ls : List Sp08.Bytes), vs = [.ref a, bV c] ∧ LLH H a ls ∧ (Ma.jn c ls).length ≤ 4000000 ∧ TB H Q (Ma.jn c ls)
theorem ok_joined (T : Txt K mg t) : Ok P w K mg base CX0 1 t.f_joined ["pieces", "between"] sp_joined := by
  obtain ⟨fd, F, bd⟩ := T.fn_joined
  refine ⟨fd, bd, F.kp, F.ok sc_joined (fun vs H Q E h => ?_) (fun cdv A outer s H vs Q E hr h => ?_)⟩
  · obtain ⟨a, c, ls, rfl, _⟩ := h
    rfl
  · obtain ⟨a, c, ls, rfl, ⟨as, ha, hp⟩, hlen, k⟩ := h
    refine ⟨_, (pss_cons (ps_set (i := 2) sc_joined.nd rfl (Or.inl rfl) (pe_lst pa_nil)) (pss_cons (ps_for PassesOwn.never rfl (pi_enum rfl T.nb_enumerate (pa_cons (pv 0) pa_nil)) (pg_tup rfl (pgs_cons (pg_name (i := 3) sc_joined.nd rfl (Or.inl rfl)) (pgs_cons (pg_name (i := 4) sc_joined.nd rfl (Or.inl rfl)) pgs_nil))) (pss_cons (ps_if (pt_cmpR op_gt (pv 3) pe_int (nomark _)) (pss_one (ps_expr (pe_bm PySem.F.plainAttrs_list PySem.F.slot_list_append PySem.F.type_list_append mt_append (pv 2) (pa_cons (pv 1) pa_nil)))) pss_nil) (pss_one (ps_expr (pe_bm PySem.F.plainAttrs_list PySem.F.slot_list_extend PySem.F.type_list_extend mt_extend (pv 2) (pa_cons (pv 4) pa_nil)))))) (pss_one (ps_ret (pv 2))))), ?_⟩
    refine ⟨Nat.zero_le _, fun l hl => ?_⟩
    have s1 : Same H (L2.upd H l (.lst [])) := Same.upd hl
    refine ⟨_, rfl, a, _, rfl, SqL.of (s1 _ _ ha), for_enum (K := K) (a := a) (xs := as.map V.ref) (fun i σ H2 => ∃ v3 v4 : Option V, σ = [some (.ref a), some (bV c), some (.ref l), v3, v4] ∧ Same H H2 ∧ H2 l = some (.lst (iv (Ma.jn c (ls.take i)))))
      ⟨none, none, rfl, s1, upd_same⟩ (fun i σ H2 _ ⟨_, _, _, s2, _⟩ => SqL.of (s2 _ _ ha)) ?_ ?_⟩
    · rintro i y σ H2 T0 hi ⟨v3, v4, rfl, s2, h2⟩ hT0
      obtain ⟨n, hn, rfl⟩ : ∃ n, as[i]? = some n ∧ y = V.ref n := by
        rw [List.getElem?_map] at hi
        cases e : as[i]? with
        | none => rw [e] at hi; cases hi
        | some n => rw [e] at hi; exact ⟨n, rfl, (Option.some.inj hi).symm⟩
      obtain ⟨x, hx, hb⟩ := paired_get hp hn
      have s3 : Same H2 (L2.upd H2 T0 (.tup [.int ((i : Nat) : Int), V.ref n])) := Same.upd hT0
      have nl : n ≠ l := ne_of_none hb hl
      have ej := Ma.jn_take_succ c ls i x hx
      have bnd := Ma.jn_take_le c ls (i + 1)
      have bnd0 := Ma.jn_take_le c ls i
      have bg := big
      have hn3 := s3 _ _ (s2 _ _ hb)
      have h3 := s3 _ _ h2
      refine ⟨T0, _, rfl, SqT.of upd_same, rfl, _, _, rfl, _, _, rfl, rfl, ?_⟩
      refine ⟨_, rfl, _, _, rfl, rfl, _, rfl, ?_⟩
      refine ite2 (fun h0 => ?_) (fun h0 => ?_)
      · have h0 : i ≠ 0 := by have := of_decide_eq_true h0; omega
        rw [if_neg h0] at ej
        have e1 : (Ma.jn c (ls.take (i + 1))).length = (Ma.jn c (ls.take i)).length + (x.length + 1) := by rw [ej]; simp
        refine ⟨_, rfl, .inl ⟨rfl, _, SqL.of h3⟩, _, rfl, l, _, _, rfl, rfl, h3, by rw [List.length_map]; omega, ?_⟩
        refine ⟨_, rfl, .inl ⟨rfl, _, SqL.of upd_same⟩, _, rfl, l, n, _, _, rfl, rfl, upd_same, by rw [upd_ne nl]; exact hn3, by simp only [List.length_append, List.length_map, List.length_cons, List.length_nil]; omega, ?_⟩
        refine ⟨_, _, rfl, fun b o e => ?_, ?_⟩
        · rw [upd_ne (ne_of_none e hl), upd_ne (ne_of_none e hl)]
          exact s3 _ _ (s2 _ _ e)
        · rw [upd_same, ej]
          simp
      · have h0 : i = 0 := by
          by_cases z : i = 0
          · exact z
          · exact absurd (decide_eq_true (by omega)) h0
        rw [if_pos h0] at ej
        have e0 : Ma.jn c (ls.take i) = [] := by rw [h0]; rfl
        rw [e0] at h3
        refine ⟨_, rfl, .inl ⟨rfl, _, SqL.of h3⟩, _, rfl, l, n, _, _, rfl, rfl, h3, hn3, by simp only [List.length_map, List.length_nil]; rw [← ej]; omega, ?_⟩
        refine ⟨_, _, rfl, fun b o e => ?_, ?_⟩
        · rw [upd_ne (ne_of_none e hl)]
          exact s3 _ _ (s2 _ _ e)
        · rw [upd_same, ej]
          simp
    · rintro σ H2 ⟨v3, v4, rfl, s2, h2⟩
      rw [List.length_map, Paired.length hp, List.take_length] at h2
      exact ⟨_, rfl, k H2 l s2 hl h2⟩
theorem cut_chunk {b : Sp08.Bytes} {a k : Nat} : cutV (iv b) (some (a : Int)) (some ((a + k : Nat) : Int)) = iv ((b.drop a).take k) := by
  unfold cutV
  rw [HT.sIx_nat, HT.sIx_nat, List.length_map, ← List.map_drop, ← List.map_take]
  congr 1
  by_cases h : a ≤ b.length
  · have e : min a b.length = a := by omega
    rw [e]
    by_cases h2 : a + k ≤ b.length
    · rw [show min (a + k) b.length - a = k by omega]
    · rw [List.take_of_length_le (by rw [List.length_drop]; omega), List.take_of_length_le (by rw [List.length_drop]; omega)]
  · rw [List.drop_eq_nil_of_le (by omega), List.drop_eq_nil_of_le (by omega)]
    simp
theorem rg_cut {n k : Nat} (hk : 0 < k) (hk2 : k ≤ 16) (hn : n ≤ 10000) : RgC 0 (n : Int) (k : Int) ((n + k - 1) / k) := by
  have sz : Builtin.Range.rangeSize 0 (n : Int) (k : Int) = (((n + k - 1) / k : Nat) : Int) := by
    unfold Builtin.Range.rangeSize
    rw [if_pos (by omega)]
    by_cases h : n = 0
    · rw [if_neg (by omega), h, Nat.zero_add, Nat.div_eq_of_lt (by omega)]
      rfl
    · rw [if_pos (by omega)]
      have e : ((n : Int) - 0 - 1) = ((n - 1 : Nat) : Int) := by omega
      rw [e]
      have e2 : (n + k - 1) / k = (n - 1) / k + 1 := by
        rw [show n + k - 1 = (n - 1) + k by omega, Nat.add_div_right _ hk]
      rw [e2]
      rfl
  have le : (n + k - 1) / k ≤ n + k := Nat.le_trans (Nat.div_le_self _ _) (by omega)
  refine ⟨by omega, by omega, ?_, sz⟩
  unfold Builtin.Range.small
  rw [sz, if_pos (by omega)]
  clear sz
  generalize (n + k - 1) / k = z at le ⊢
  unfold Builtin.Range.rangeFitsLong
  simp only [Bool.and_eq_true, Bool.or_eq_true, decide_eq_true_eq, beq_iff_eq]
  refine ⟨⟨⟨⟨⟨by decide, by decide⟩, ⟨by omega, by omega⟩⟩, ⟨by omega, by omega⟩⟩, ⟨by omega, by omega⟩⟩, .inr ⟨by omega, by omega⟩⟩
def sp_cut (K : PySem.W.Frag) : Sp := fun vs H Q _ => ∃ (d : Addr) (k : Nat) (b : Sp08.Bytes), vs = [.ref d, .int (k : Int)] ∧ SqL K H d (iv b) ∧ 0 < k ∧ k ≤ 16 ∧ b.length ≤ 10000 ∧ TLs H Q (Ma.chunks k b)
theorem ok_cut (T : Txt K mg t) : Ok P w K mg base CX0 1 t.f_cut ["data", "size"] (sp_cut K) := by
  obtain ⟨fd, F, bd⟩ := T.fn_cut
  refine ⟨fd, bd, F.kp, F.ok sc_cut (fun vs H Q E h => ?_) (fun cdv A outer s H vs Q E hr h => ?_)⟩
  · obtain ⟨d, k, b, rfl, _⟩ := h
    rfl
  · obtain ⟨d, k, b, rfl, hS, hk, hk2, hb, kQ⟩ := h
    refine ⟨_, (pss_one (ps_ret (pe_lc (own := [("at", 2)]) rfl sc_cut.nd (pi_range3 rfl T.nb_range (pa_cons pe_int (pa_cons (pe_callB call_len_seq rfl T.nb_len PySem.boot_len (pa_cons (pv 0) pa_nil)) (pa_cons (pv 1) pa_nil)))) (blkOk_by (by kernel_rfl)) (fun _ _ _ _ _ => (pg_name (i := 2) sc_cut.nd rfl (Or.inl rfl))) (fun _ _ _ _ _ => pts_nil) (fun _ _ _ _ _ => (pe_slice (r := rSlL K) sl_list (pv 0) (po_some (pv 2)) (po_some (pe_op op_add (pv 2) (pv 1)))))))), ?_⟩
    have rg : RgC 0 (((iv b).length : Nat) : Int) (k : Int) ((b.length + k - 1) / k) := by rw [List.length_map]; exact rg_cut hk hk2 hb
    refine ⟨_, rfl, d, _, rfl, .inl hS, _, rfl, 0, _, _, (b.length + k - 1) / k, rfl, rg, fun D hD => lc_rangeC (lo := 0) (c := (k : Int)) (n := (b.length + k - 1) / k) (fun i H2 => LB BL H D H2 ((List.range i).map fun j => (b.drop (k * j)).take k) ∧ Same H H2) ⟨LB.nil upd_same, Same.upd hD⟩ ?_ ?_⟩
    · rintro i H2 hi ⟨B2, s2⟩
      obtain ⟨xs, hD2, hxs, _, as, exs⟩ := B2.at_
      rw [List.length_map, List.length_range] at hxs
      have cnt := Ma.chunks_count (b := b) hk
      unfold Ma.chunks at cnt
      rw [List.length_map, List.length_range] at cnt
      have bg := big
      refine ⟨rfl, yes_if ?_⟩
      refine ⟨_, rfl, _, rfl, _, rfl, _, rfl, _, rfl, _, _, rfl, rfl, _, rfl, d, _, rfl, s2.seq hS, fun l hl => ?_⟩
      have e1 : (0 : Int) + ((i : Nat) : Int) * (k : Int) = ((k * i : Nat) : Int) := by rw [Int.zero_add, Int.mul_comm]; exact (Int.natCast_mul k i).symm
      have s3 : Same H2 (L2.upd H2 l (.lst (cutV (iv b) (some (0 + ((i : Nat) : Int) * (k : Int))) (some (0 + ((i : Nat) : Int) * (k : Int) + (k : Int)))))) := Same.upd hl
      have hD3 := s3 _ _ hD2
      refine ⟨xs, hD3, by omega, ?_, fun b' o e => ?_⟩
      · rw [List.range_succ, List.map_append]
        refine B2.push BL.mono (fun b' o e _ => s3 b' o e) (fun b' e => s2.free e) (Nw.one (o := .lst (iv ((b.drop (k * i)).take k))) hl ?_) BL.one hD3
        have e2 : (0 : Int) + ((i : Nat) : Int) * (k : Int) + (k : Int) = ((k * i + k : Nat) : Int) := by rw [e1]; exact (Int.natCast_add _ _).symm
        rw [upd_same, e2, e1, cut_chunk]
      · rw [upd_ne (ne_of_none e hD)]
        exact s3 _ _ (s2 _ _ e)
    · rintro H2 ⟨B2, s2⟩
      obtain ⟨G, g1, g2⟩ := B2.done BL.mono hD
      exact kQ H2 D s2 (LLH.lift g1 g2)
end
end Pn
end
section
set_option linter.all false
set_option Elab.async false
set_option maxRecDepth 100000
namespace Pn
open PySem L2
open TL (tl numL)
theorem small_log {n : Nat} (h : n < 2 ^ 64) : ((n : Int)).natAbs.log2 < 1920 := by
  rw [Int.natAbs_natCast]
  by_cases e : n = 0
  · subst e; decide
  · have := (Nat.log2_lt e).mpr h
    omega
theorem dec_tl (n : Nat) : tl (Str.ofString (toString ((n : Nat) : Int))) = (Sp08.dec n).map UInt8.toNat := by
  rw [TL.tl_num, Ma.dec_codes]
  rfl
theorem dec_small {n : Nat} (h : n < 2 ^ 64) : (Sp08.dec n).length ≤ 20 := Ma.dec_len (by decide) (Nat.lt_trans h (by decide))
theorem zfill_all : ∀ n : Fin 256, tl (Txt.zfill (Str.ofString (toString ((n.val : Nat) : Int))) 3) = (Sp08.three n.val).map UInt8.toNat := by decide +kernel
theorem zfill_byte (c : UInt8) : tl (Txt.zfill (Str.ofString (toString ((c.toNat : Nat) : Int))) 3) = (Sp08.three c.toNat).map UInt8.toNat := zfill_all ⟨c.toNat, UInt8.toNat_lt c⟩
theorem hex_all : ∀ n : Fin 16, atI (Str.ofString "0123456789abcdef").cps.toList ((n.val : Nat) : Int) = some (Sp08.hexDigit n.val).toNat := by decide +kernel
theorem hex_hi (c : UInt8) : atI (Str.ofString "0123456789abcdef").cps.toList (((c.toNat : Nat) : Int) / 16) = some (Sp08.hexDigit (c.toNat / 16 % 16)).toNat := by
  have hc := UInt8.toNat_lt c
  have := hex_all ⟨c.toNat / 16, by omega⟩
  have e : ((c.toNat : Nat) : Int) / 16 = ((c.toNat / 16 : Nat) : Int) := by omega
  rw [e, this, Nat.mod_eq_of_lt (by omega)]
theorem hex_lo (c : UInt8) : atI (Str.ofString "0123456789abcdef").cps.toList (((c.toNat : Nat) : Int) % 16) = some (Sp08.hexDigit (c.toNat % 16)).toNat := by
  have := hex_all ⟨c.toNat % 16, by omega⟩
  have e : ((c.toNat : Nat) : Int) % 16 = ((c.toNat % 16 : Nat) : Int) := by omega
  rw [e, this]
section
variable {P : Program} {w : World} {K : PySem.W.Frag} {mg : Str → Option Value} {base : Heap} {t : Ad}
def sp_decimal : Sp := fun vs H Q _ => ∃ n : Nat, vs = [.int (n : Int)] ∧ n < 2 ^ 64 ∧ TB H Q (Sp08.dec n)
theorem ok_decimal (T : Txt K mg t) : Ok P w K mg base CX0 2 t.f_decimal ["number"] sp_decimal := by
  obtain ⟨fd, F, bd⟩ := T.fn_decimal
  obtain ⟨fd_signs, b_signs, k_signs, G_signs⟩ := ok_signs (P := P) (w := w) (base := base) T
  refine ⟨fd, bd, F.kp, F.ok sc_decimal (fun vs H Q E h => ?_) (fun cdv A outer s H vs Q E hr h => ?_)⟩
  · obtain ⟨n, rfl, _⟩ := h
    rfl
  · obtain ⟨n, rfl, hn, k⟩ := h
    refine ⟨_, (pss_one (ps_ret (pe_call G_signs (hr.mono (by decide)) rfl T.mg_signs k_signs b_signs .nil pass0 (pa_cons (pe_callTy call_str_int rfl T.nb_str PyProof.Rows.boot_str (pa_cons (pv 0) pa_nil)) pa_nil)))), ?_⟩
    exact ⟨_, rfl, _, rfl, small_log hn, _, _, rfl, dec_tl n, by have := dec_small hn; omega, k⟩
def sp_decimals (K : PySem.W.Frag) : Sp := fun vs H Q _ => ∃ (d : Addr) (k : Nat) (b : Sp08.Bytes), vs = [.ref d, .int (k : Int)] ∧ SqL K H d (iv b) ∧ 0 < k ∧ k ≤ 4 ∧ b.length ≤ 10000 ∧ TLs H Q (Ma.decs k b)
theorem ok_decimals (T : Txt K mg t) : Ok P w K mg base CX0 3 t.f_decimals ["data", "size"] (sp_decimals K) := by
  obtain ⟨fd, F, bd⟩ := T.fn_decimals
  obtain ⟨fd_cut, b_cut, k_cut, G_cut⟩ := ok_cut (P := P) (w := w) (base := base) T
  obtain ⟨fd_decimal, b_decimal, k_decimal, G_decimal⟩ := ok_decimal (P := P) (w := w) (base := base) T
  obtain ⟨fd_number_of, b_number_of, k_number_of, G_number_of⟩ := ok_number_of (P := P) (w := w) (base := base) T
  refine ⟨fd, bd, F.kp, F.ok sc_decimals (fun vs H Q E h => ?_) (fun cdv A outer s H vs Q E hr h => ?_)⟩
  · obtain ⟨d, k, b, rfl, _⟩ := h
    rfl
  · obtain ⟨d, k, b, rfl, hS, hk, hk2, hb, kQ⟩ := h
    refine ⟨_, (pss_one (ps_ret (pe_lc (own := [("piece", 2)]) rfl sc_decimals.nd (pi_list (pe_call G_cut (hr.mono (by decide)) rfl T.mg_cut k_cut b_cut .nil pass0 (pa_cons (pv 0) (pa_cons (pv 1) pa_nil)))) (blkOk_by (by kernel_rfl)) (fun _ _ _ _ _ => (pg_name (i := 2) sc_decimals.nd rfl (Or.inl rfl))) (fun _ _ _ _ _ => pts_nil) (fun _ _ _ _ _ => (pe_call G_decimal (hr.mono (by decide)) rfl T.mg_decimal k_decimal b_decimal .nil pass0 (pa_cons (pe_call G_number_of (hr.mono (by decide)) rfl T.mg_number_of k_number_of b_number_of .nil pass0 (pa_cons (pv 2) pa_nil)) pa_nil)))))), ?_⟩
    refine ⟨_, rfl, _, rfl, d, k, b, rfl, hS, hk, by omega, hb, fun H1 c s1 g1 => ?_⟩
    obtain ⟨as, ha, hp⟩ := LLH.mono _ _ _ _ (nw_in H H1) g1
    refine ⟨c, rfl, ⟨_, SqL.of ha⟩, fun D hD => lc_list (K := K) (a := c) (xs := as.map V.ref) (fun i H2 => LB BL H1 D H2 ((Ma.decs k b).take i) ∧ Same H1 H2) ⟨LB.nil upd_same, Same.upd hD⟩ (fun i H2 _ ⟨_, s2⟩ => SqL.of (s2 _ _ ha)) ?_ ?_⟩
    · rintro i x H2 hi ⟨B2, s2⟩
      obtain ⟨n, hn, rfl⟩ : ∃ n, as[i]? = some n ∧ x = V.ref n := by
        rw [List.getElem?_map] at hi
        cases e : as[i]? with
        | none => rw [e] at hi; cases hi
        | some n => rw [e] at hi; exact ⟨n, rfl, (Option.some.inj hi).symm⟩
      obtain ⟨ch, hch, hbl⟩ := paired_get hp hn
      have hl4 := Ma.chunks_mem (List.mem_of_getElem? hch)
      have hnum := Ma.number_lt ch
      have hn64 : Sp08.number ch < 2 ^ 64 := Nat.lt_of_lt_of_le hnum (Nat.le_trans (Nat.pow_le_pow_right (by decide) (Nat.le_trans hl4 hk2)) (by decide))
      obtain ⟨xs, hD2, hxs, _, as2, exs⟩ := B2.at_
      have cnt := Ma.chunks_count (b := b) hk
      have hi2 := (List.getElem?_eq_some_iff.mp hch).1
      have bg := big
      refine ⟨rfl, yes_if ?_⟩
      refine ⟨_, rfl, n, ch, rfl, SqL.of (s2 _ _ hbl), _, rfl, hn64, fun H3 l s3 nn h3 => ?_⟩
      have hD3 := s3 _ _ hD2
      have hxl : xs.length ≤ i := by rw [hxs, List.length_take]; omega
      refine ⟨xs, hD3, by omega, ?_, fun b' o e => ?_⟩
      · have e : (Ma.decs k b).take (i + 1) = (Ma.decs k b).take i ++ [Sp08.dec (Sp08.number ch)] := by
          unfold Ma.decs
          have hm : ((Ma.chunks k b).map fun x => Sp08.dec (Sp08.number x))[i]? = some (Sp08.dec (Sp08.number ch)) := by rw [List.getElem?_map, hch]; rfl
          obtain ⟨q1, q2⟩ := List.getElem?_eq_some_iff.mp hm
          rw [List.take_succ_eq_append_getElem q1, q2]
        rw [e]
        exact B2.push BL.mono (fun b' o e _ => s3 b' o e) (fun b' e => s2.free e) (Nw.one nn h3) BL.one hD3
      · rw [upd_ne (ne_of_none e hD)]
        exact s3 _ _ (s2 _ _ e)
    · rintro H2 ⟨B2, s2⟩
      have e : (Ma.decs k b).take (as.map V.ref).length = Ma.decs k b := by
        rw [List.length_map, Paired.length hp]
        refine List.take_of_length_le ?_
        unfold Ma.decs
        rw [List.length_map]
        exact Nat.le_refl _
      rw [e] at B2
      obtain ⟨G, q1, q2⟩ := B2.done BL.mono hD
      exact kQ H2 D (s1.trans s2) (LLH.mono _ _ _ _ (fun b' o z => nw_pre (fun b z => s1.free z) b' o (q1.sub b' o z)) q2)
def sp_hexadecimal (K : PySem.W.Frag) : Sp := fun vs H Q _ => ∃ (d : Addr) (b : Sp08.Bytes), vs = [.ref d] ∧ SqL K H d (iv b) ∧ b.length ≤ 10000 ∧ TB H Q (Ma.hexB b)
theorem hexB_snoc (b : Sp08.Bytes) (c : UInt8) : Ma.hexB (b ++ [c]) = Ma.hexB b ++ Sp08.hex2 c.toNat := by simp [Ma.hexB]
theorem ok_hexadecimal (T : Txt K mg t) : Ok P w K mg base CX0 1 t.f_hexadecimal ["data"] (sp_hexadecimal K) := by
  obtain ⟨fd, F, bd⟩ := T.fn_hexadecimal
  refine ⟨fd, bd, F.kp, F.ok sc_hexadecimal (fun vs H Q E h => ?_) (fun cdv A outer s H vs Q E hr h => ?_)⟩
  · obtain ⟨d, b, rfl, _⟩ := h
    rfl
  · obtain ⟨d, b, rfl, hS, hb, k⟩ := h
    refine ⟨_, (pss_cons (ps_set (i := 1) sc_hexadecimal.nd rfl (Or.inl rfl) (pe_lst pa_nil)) (pss_cons (ps_for PassesOwn.never rfl (pi_list (pv 0)) (pg_name (i := 2) sc_hexadecimal.nd rfl (Or.inl rfl)) (pss_cons (ps_expr (pe_bm PySem.F.plainAttrs_list PySem.F.slot_list_append PySem.F.type_list_append mt_append (pv 1) (pa_cons (pe_callB call_ord rfl T.nb_ord PyProof.Rows.boot_ord (pa_cons (pe_ix ix_str (pe_gv rfl T.gv_HEX_DIGITS) (pe_op op_fdiv (pv 2) pe_int) (fun _ _ => rfl)) pa_nil)) pa_nil))) (pss_one (ps_expr (pe_bm PySem.F.plainAttrs_list PySem.F.slot_list_append PySem.F.type_list_append mt_append (pv 1) (pa_cons (pe_callB call_ord rfl T.nb_ord PyProof.Rows.boot_ord (pa_cons (pe_ix ix_str (pe_gv rfl T.gv_HEX_DIGITS) (pe_op op_mod (pv 2) pe_int) (fun _ _ => rfl)) pa_nil)) pa_nil)))))) (pss_one (ps_ret (pv 1))))), ?_⟩
    refine ⟨Nat.zero_le _, fun l hl => ?_⟩
    have s1 : Same H (L2.upd H l (.lst [])) := Same.upd hl
    refine ⟨_, rfl, d, rfl, ⟨_, s1.seq hS⟩, for_list (K := K) (a := d) (xs := iv b) (fun i σ H2 => ∃ v : Option V, σ = [some (.ref d), some (.ref l), v] ∧ Same H H2 ∧ H2 l = some (.lst (iv (Ma.hexB (b.take i)))))
      ⟨none, rfl, s1, upd_same⟩ (fun i σ H2 _ ⟨_, _, s2, _⟩ => s2.seq hS) ?_ ?_⟩
    · rintro i y σ H2 hi ⟨v, rfl, s2, h2⟩
      obtain ⟨c, hc, rfl⟩ := iv_get hi
      have hil := (List.getElem?_eq_some_iff.mp hc).1
      have bg := big
      have ln := Ma.hexB_len (b.take i)
      have lt := List.length_take (i := i) (l := b)
      refine ⟨_, rfl, .inl ⟨rfl, _, SqL.of h2⟩, _, rfl, _, _, rfl, rfl, ⟨by decide, by decide⟩, _, _, _, rfl, rfl, by decide +kernel, hex_hi c, _, rfl, rfl, l, _, _, rfl, rfl, h2, by rw [List.length_map]; omega, ?_⟩
      refine ⟨_, rfl, .inl ⟨rfl, _, SqL.of upd_same⟩, _, rfl, _, _, rfl, rfl, (by show (0 : Int) < 16; decide), _, _, _, rfl, rfl, by decide +kernel, hex_lo c, _, rfl, rfl, l, _, _, rfl, rfl, upd_same, by rw [List.length_append, List.length_map]; simp only [List.length_cons, List.length_nil]; omega, ?_⟩
      refine ⟨_, rfl, fun b' o e => ?_, ?_⟩
      · rw [upd_ne (ne_of_none e hl), upd_ne (ne_of_none e hl)]
        exact s2 _ _ e
      · rw [upd_same, take_snoc hc, hexB_snoc]
        simp [Sp08.hex2]
    · rintro σ H2 ⟨v, rfl, s2, h2⟩
      rw [List.length_map, List.take_length] at h2
      exact ⟨_, rfl, k H2 l s2 hl h2⟩
def sp_escaped : Sp := fun vs H Q _ => ∃ c : UInt8, vs = [bV c] ∧ TB H Q (92 :: Sp08.three c.toNat)
theorem ok_escaped (T : Txt K mg t) : Ok P w K mg base CX0 2 t.f_escaped ["byte"] sp_escaped := by
  obtain ⟨fd, F, bd⟩ := T.fn_escaped
  obtain ⟨fd_signs, b_signs, k_signs, G_signs⟩ := ok_signs (P := P) (w := w) (base := base) T
  refine ⟨fd, bd, F.kp, F.ok sc_escaped (fun vs H Q E h => ?_) (fun cdv A outer s H vs Q E hr h => ?_)⟩
  · obtain ⟨c, rfl, _⟩ := h
    rfl
  · obtain ⟨c, rfl, k⟩ := h
    refine ⟨_, (pss_one (ps_ret (pe_op op_cat (pe_lst (pa_cons (pe_gv rfl T.gv_BACKSLASH) pa_nil)) (pe_call G_signs (hr.mono (by decide)) rfl T.mg_signs k_signs b_signs .nil pass0 (pa_cons (pe_m1 PySem.F.slot_str_zfill PySem.F.type_str_zfill mt_zfill (pe_callTy call_str_int rfl T.nb_str PyProof.Rows.boot_str (pa_cons (pv 0) pa_nil)) pe_int) pa_nil))))), ?_⟩
    refine ⟨by show 1 ≤ sizeLine; decide, fun l hl => ?_⟩
    have hc : c.toNat < 2 ^ 64 := Nat.lt_trans (UInt8.toNat_lt c) (by decide)
    refine ⟨_, rfl, _, rfl, small_log hc, ⟨_, rfl⟩, _, _, rfl, rfl, by decide, _, _, rfl, zfill_byte c, by simp [Sp08.three], fun H1 n s1 nn h1 => ?_⟩
    refine ⟨l, n, _, _, rfl, rfl, s1 _ _ upd_same, h1, by simp [Sp08.three]; decide, fun p hp => ?_⟩
    have s2 : Same H H1 := (Same.upd hl).trans s1
    refine k _ p (s2.trans (Same.upd hp)) (s2.free hp) ?_
    rw [upd_same]
    simp
end
end Pn
end
section
set_option linter.all false
set_option Elab.async false
set_option maxRecDepth 100000
namespace Pn
open PySem L2
open TL (tl numL)
theorem plain_iff (c : UInt8) : Sp08.plain c = true ↔ (48 ≤ c.toNat ∧ c.toNat ≤ 57) ∨ (65 ≤ c.toNat ∧ c.toNat ≤ 90) ∨ (97 ≤ c.toNat ∧ c.toNat ≤ 122) ∨ c.toNat = 45 ∨ c.toNat = 95 := by
  have e45 : c = 45 ↔ c.toNat = 45 := ⟨fun h => by rw [h]; rfl, fun h => UInt8.toNat_inj.mp h⟩
  have e95 : c = 95 ↔ c.toNat = 95 := ⟨fun h => by rw [h]; rfl, fun h => UInt8.toNat_inj.mp h⟩
  simp only [Sp08.plain, Bool.or_eq_true, Bool.and_eq_true, decide_eq_true_eq, beq_iff_eq, UInt8.le_iff_toNat_le, e45, e95, or_assoc]
  rfl
theorem chain_ok {i : Nat} {lo hi x : Int} {σ : St} {H : Hp} {Q : Bool → Hp → Prop} (e : σ[i]? = some (some (.int x))) (h : Q (decide (lo ≤ x) && decide (x ≤ hi)) H) :
    tTest (tChain (rI0 fun i j => .bl (decide (i ≤ j))) (rI0 fun i j => .bl (decide (i ≤ j))) (tC (.int lo)) (tVar i) (tC (.int hi))) σ H Q := by
  refine ⟨_, e, _, _, rfl, rfl, _, rfl, ?_⟩
  by_cases h1 : lo ≤ x
  · rw [decide_eq_true h1, Bool.true_and] at h
    rw [if_pos (decide_eq_true h1)]
    exact ⟨_, _, rfl, rfl, _, rfl, h⟩
  · rw [decide_eq_false h1, Bool.false_and] at h
    rw [if_neg (by rw [decide_eq_false h1]; simp)]
    exact ⟨_, rfl, h⟩
theorem LB.of {α : Type} {R : Hp → Addr → α → Prop} {H H2 : Hp} {w : Addr} {as : List Addr} {ls : List α} (hp : Paired (R (nw H H2)) as ls) (hw : H2 w = none) : LB R H w (L2.upd H2 w (.lst (as.map V.ref))) ls :=
  ⟨as, nw H H2, upd_same, fun b o e => ⟨ne_of_none (nw_of e).2 hw, (nw_of e).1, (upd_ne (ne_of_none (nw_of e).2 hw)).trans (nw_of e).2⟩, hp⟩
theorem LB.ll {α : Type} {R : Hp → Addr → α → Prop} {H H2 : Hp} {D : Addr} {ls : List α} (m : Mono R) (h : LB R H D H2 ls) : LL R H2 D ls := by
  obtain ⟨as, G, h1, h2, h3⟩ := h
  exact ⟨as, h1, Paired.mapP h3 fun _ _ q => m _ _ _ _ (fun b o e => (h2 b o e).2.2) q⟩
theorem esc_snoc (b : Sp08.Bytes) (c : UInt8) : Ma.esc (b ++ [c]) = Ma.esc b ++ (if Sp08.plain c = true then [c] else 92 :: Sp08.three c.toNat) := by simp [Ma.esc]
section
variable {P : Program} {w : World} {K : PySem.W.Frag} {mg : Str → Option Value} {base : Heap} {t : Ad}
def sp_plain_name : Sp := fun vs H Q _ => ∃ c : UInt8, vs = [bV c] ∧ Q (.bl (Sp08.plain c)) H
theorem ok_is_plain_in_name (T : Txt K mg t) : Ok P w K mg base CX0 1 t.f_is_plain_in_name ["byte"] sp_plain_name := by
  obtain ⟨fd, F, bd⟩ := T.fn_is_plain_in_name
  refine ⟨fd, bd, F.kp, F.ok sc_is_plain_in_name (fun vs H Q E h => ?_) (fun cdv A outer s H vs Q E hr h => ?_)⟩
  · obtain ⟨c, rfl, _⟩ := h
    rfl
  · obtain ⟨c, rfl, k⟩ := h
    refine ⟨_, (pss_cons (ps_if (PW.pt (pw_or (pt_chain op_le op_le pe_int (pv 0) pe_int) (pw_or (pt_chain op_le op_le pe_int (pv 0) pe_int) (pw_or1 (pt_chain op_le op_le pe_int (pv 0) pe_int))))) (pss_one (ps_ret pe_bl)) pss_nil) (pss_one (ps_ret (pe_or (pe_cmpR op_eq (pv 0) (pe_gv rfl T.gv_HYPHEN) (nomark _)) (pe_one (pe_cmpR op_eq (pv 0) (pe_gv rfl T.gv_UNDERSCORE) (nomark _))))))), ?_⟩
    have yes : Sp08.plain c = true → Q (.bl true) H := fun e => by rw [e] at k; exact k
    refine chain_ok rfl (ite2 (fun h1 => ?_) (fun h1 => ?_))
    · simp only [Bool.and_eq_true, decide_eq_true_eq] at h1
      exact iteT (yes ((plain_iff c).mpr (.inl (by omega))))
    refine chain_ok rfl (ite2 (fun h2 => ?_) (fun h2 => ?_))
    · simp only [Bool.and_eq_true, decide_eq_true_eq] at h2
      exact iteT (yes ((plain_iff c).mpr (.inr (.inl (by omega)))))
    refine chain_ok rfl (ite2 (fun h3 => ?_) (fun h3 => ?_))
    · simp only [Bool.and_eq_true, decide_eq_true_eq] at h3
      exact yes ((plain_iff c).mpr (.inr (.inr (.inl (by omega)))))
    simp only [Bool.and_eq_true, decide_eq_true_eq] at h1 h2 h3
    refine ⟨_, rfl, rfl, _, rfl, ite2 (fun h4 => ?_) (fun h4 => ?_)⟩
    · have h4 := V.int.inj (of_decide_eq_true h4)
      exact yes ((plain_iff c).mpr (.inr (.inr (.inr (.inl (by omega))))))
    · refine ⟨_, rfl, rfl, ?_⟩
      have n4 : ¬ c.toNat = 45 := fun z => h4 (decide_eq_true (by rw [bV, z]; rfl))
      have e : decide (bV c = V.int 95) = Sp08.plain c := by
        by_cases z : c.toNat = 95
        · rw [decide_eq_true (by rw [bV, z]; rfl), (plain_iff c).mpr (.inr (.inr (.inr (.inr z))))]
        · rw [decide_eq_false (fun q => z (by have := V.int.inj q; omega))]
          cases q : Sp08.plain c with
          | false => rfl
          | true =>
            have := (plain_iff c).mp q
            omega
      show Q (.bl (decide (bV c = V.int 95))) H
      rw [e]
      exact k
def sp_plain_string : Sp := fun vs H Q _ => ∃ c : UInt8, vs = [bV c] ∧ Q (.bl (decide (32 ≤ c ∧ c ≤ 126 ∧ c ≠ 34 ∧ c ≠ 92))) H
theorem pst_iff (c : UInt8) : (32 ≤ c ∧ c ≤ 126 ∧ c ≠ 34 ∧ c ≠ 92) ↔ (32 ≤ c.toNat ∧ c.toNat ≤ 126 ∧ c.toNat ≠ 34 ∧ c.toNat ≠ 92) := by
  have e34 : c = 34 ↔ c.toNat = 34 := ⟨fun h => by rw [h]; rfl, fun h => UInt8.toNat_inj.mp h⟩
  have e92 : c = 92 ↔ c.toNat = 92 := ⟨fun h => by rw [h]; rfl, fun h => UInt8.toNat_inj.mp h⟩
  simp only [UInt8.le_iff_toNat_le, ne_eq, e34, e92]
  rfl
theorem ok_is_plain_in_string (T : Txt K mg t) : Ok P w K mg base CX0 1 t.f_is_plain_in_string ["byte"] sp_plain_string := by
  obtain ⟨fd, F, bd⟩ := T.fn_is_plain_in_string
  refine ⟨fd, bd, F.kp, F.ok sc_is_plain_in_string (fun vs H Q E h => ?_) (fun cdv A outer s H vs Q E hr h => ?_)⟩
  · obtain ⟨c, rfl, _⟩ := h
    rfl
  · obtain ⟨c, rfl, k⟩ := h
    refine ⟨_, (pss_one (ps_ret (pe_and (pe_chain op_le op_le (pe_gv rfl T.gv_SPACE) (pv 0) (pe_gv rfl T.gv_LAST_PRINTED)) (pe_and (pe_cmpR op_ne (pv 0) (pe_gv rfl T.gv_QUOTE) (nomark _)) (pe_one (pe_cmpR op_ne (pv 0) (pe_gv rfl T.gv_BACKSLASH) (nomark _))))))), ?_⟩
    have no : ¬ (32 ≤ c.toNat ∧ c.toNat ≤ 126 ∧ c.toNat ≠ 34 ∧ c.toNat ≠ 92) → Q (.bl false) H := fun e => by
      rw [decide_eq_false (fun z => e ((pst_iff c).mp z))] at k
      exact k
    refine ⟨_, rfl, _, _, rfl, rfl, _, rfl, ite2 (fun h1 => ?_) (fun h1 => ?_)⟩
    · have h1 : (32 : Int) ≤ ((c.toNat : Nat) : Int) := of_decide_eq_true h1
      refine ⟨_, _, rfl, rfl, _, rfl, ite2 (fun h2 => ?_) (fun h2 => ?_)⟩
      · have h2 : ((c.toNat : Nat) : Int) ≤ 126 := of_decide_eq_true h2
        refine ⟨_, rfl, rfl, _, rfl, ite2 (fun h3 => ?_) (fun h3 => ?_)⟩
        · have h3 : ¬ c.toNat = 34 := fun z => by
            have h3 : (!decide (V.int ((c.toNat : Nat) : Int) = V.int 34)) = true := h3
            rw [z] at h3
            simp at h3
          refine ⟨_, rfl, rfl, ?_⟩
          have e : (!decide (bV c = V.int 92)) = decide (32 ≤ c ∧ c ≤ 126 ∧ c ≠ 34 ∧ c ≠ 92) := by
            by_cases z : c.toNat = 92
            · rw [decide_eq_true (show bV c = V.int 92 by rw [bV, z]; rfl), decide_eq_false (fun q => ((pst_iff c).mp q).2.2.2 z)]
              rfl
            · rw [decide_eq_false (fun q => z (by have := V.int.inj q; omega)), decide_eq_true ((pst_iff c).mpr ⟨by omega, by omega, h3, z⟩)]
              rfl
          show Q (.bl (!decide (bV c = V.int 92))) H
          rw [e]
          exact k
        · refine no fun z => h3 ?_
          show (!decide (V.int ((c.toNat : Nat) : Int) = V.int 34)) = true
          rw [decide_eq_false (fun q => z.2.2.1 (by have := V.int.inj q; omega))]
          rfl
      · exact no fun z => h2 (decide_eq_true (by show ((c.toNat : Nat) : Int) ≤ 126; omega))
    · refine ⟨_, rfl, iteF ?_⟩
      exact no fun z => h1 (decide_eq_true (by show (32 : Int) ≤ ((c.toNat : Nat) : Int); omega))
def sp_tell_label (K : PySem.W.Frag) : Sp := fun vs H Q _ => ∃ (d : Addr) (b : Sp08.Bytes), vs = [.ref d] ∧ SqL K H d (iv b) ∧ b.length ≤ 10000 ∧ TB H Q (Ma.esc b)
theorem ok_tell_label (T : Txt K mg t) : Ok P w K mg base CX0 3 t.f_tell_label ["label"] (sp_tell_label K) := by
  obtain ⟨fd, F, bd⟩ := T.fn_tell_label
  obtain ⟨fd_is_plain_in_name, b_is_plain_in_name, k_is_plain_in_name, G_is_plain_in_name⟩ := ok_is_plain_in_name (P := P) (w := w) (base := base) T
  obtain ⟨fd_escaped, b_escaped, k_escaped, G_escaped⟩ := ok_escaped (P := P) (w := w) (base := base) T
  refine ⟨fd, bd, F.kp, F.ok sc_tell_label (fun vs H Q E h => ?_) (fun cdv A outer s H vs Q E hr h => ?_)⟩
  · obtain ⟨d, b, rfl, _⟩ := h
    rfl
  · obtain ⟨d, b, rfl, hS, hb, k⟩ := h
    refine ⟨_, (pss_cons (ps_set (i := 1) sc_tell_label.nd rfl (Or.inl rfl) (pe_lst pa_nil)) (pss_cons (ps_for PassesOwn.never rfl (pi_list (pv 0)) (pg_name (i := 2) sc_tell_label.nd rfl (Or.inl rfl)) (pss_one (ps_expr (pe_bm PySem.F.plainAttrs_list PySem.F.slot_list_extend PySem.F.type_list_extend mt_extend (pv 1) (pa_cons (pe_ifExp (pt_val (pe_call G_is_plain_in_name (hr.mono (by decide)) rfl T.mg_is_plain_in_name k_is_plain_in_name b_is_plain_in_name .nil pass0 (pa_cons (pv 2) pa_nil))) (pe_lst (pa_cons (pv 2) pa_nil)) (pe_call G_escaped (hr.mono (by decide)) rfl T.mg_escaped k_escaped b_escaped .nil pass0 (pa_cons (pv 2) pa_nil))) pa_nil))))) (pss_one (ps_ret (pv 1))))), ?_⟩
    refine ⟨Nat.zero_le _, fun l hl => ?_⟩
    have s1 : Same H (L2.upd H l (.lst [])) := Same.upd hl
    refine ⟨_, rfl, d, rfl, ⟨_, s1.seq hS⟩, for_list (K := K) (a := d) (xs := iv b) (fun i σ H2 => ∃ v : Option V, σ = [some (.ref d), some (.ref l), v] ∧ Same H H2 ∧ H2 l = some (.lst (iv (Ma.esc (b.take i)))))
      ⟨none, rfl, s1, upd_same⟩ (fun i σ H2 _ ⟨_, _, s2, _⟩ => s2.seq hS) ?_ ?_⟩
    · rintro i y σ H2 hi ⟨v, rfl, s2, h2⟩
      obtain ⟨c, hc, rfl⟩ := iv_get hi
      have hil := (List.getElem?_eq_some_iff.mp hc).1
      have bg := big
      have ln := Ma.esc_len (b.take i)
      have lt := List.length_take (i := i) (l := b)
      refine ⟨_, rfl, .inl ⟨rfl, _, SqL.of h2⟩, _, rfl, c, rfl, _, rfl, ite2 (fun hp => ?_) (fun hp => ?_)⟩
      · refine ⟨_, rfl, by show 1 ≤ sizeLine; decide, fun n hn => ?_⟩
        have nl : n ≠ l := Ne.symm (ne_of_none h2 hn)
        refine ⟨l, n, _, _, rfl, rfl, (Same.upd hn) _ _ h2, upd_same, by rw [List.length_map]; simp only [List.length_cons, List.length_nil]; omega, ?_⟩
        refine ⟨_, rfl, fun b' o e => ?_, ?_⟩
        · rw [upd_ne (ne_of_none e hl)]
          exact (Same.upd hn) _ _ (s2 _ _ e)
        · rw [upd_same, take_snoc hc, esc_snoc, if_pos hp]
          simp
      · refine ⟨_, rfl, c, rfl, fun H3 n s3 nn h3 => ?_⟩
        refine ⟨l, n, _, _, rfl, rfl, s3 _ _ h2, h3, by rw [List.length_map, List.length_map]; simp only [List.length_cons, Sp08.three, List.length_nil]; omega, ?_⟩
        refine ⟨_, rfl, fun b' o e => ?_, ?_⟩
        · rw [upd_ne (ne_of_none e hl)]
          exact s3 _ _ (s2 _ _ e)
        · rw [upd_same, take_snoc hc, esc_snoc, if_neg hp]
          simp
    · rintro σ H2 ⟨v, rfl, s2, h2⟩
      rw [List.length_map, List.take_length] at h2
      exact ⟨_, rfl, k H2 l s2 hl h2⟩
end
end Pn
end
section
set_option linter.all false
set_option Elab.async false
set_option maxRecDepth 100000
namespace Pn
open PySem L2
open TL (tl numL)
def qs (b : Sp08.Bytes) : Sp08.Bytes := b.flatMap fun c => if 32 ≤ c ∧ c ≤ 126 ∧ c ≠ 34 ∧ c ≠ 92 then [c] else 92 :: Sp08.three c.toNat
theorem quoted_qs (b : Sp08.Bytes) : Sp08.quoted b = [34] ++ qs b ++ [34] := rfl
theorem qs_snoc (b : Sp08.Bytes) (c : UInt8) : qs (b ++ [c]) = qs b ++ (if 32 ≤ c ∧ c ≤ 126 ∧ c ≠ 34 ∧ c ≠ 92 then [c] else 92 :: Sp08.three c.toNat) := by simp [qs]
theorem qs_len (b : Sp08.Bytes) : (qs b).length ≤ 4 * b.length := Ma.flat_len (fun c => by
  by_cases h : 32 ≤ c ∧ c ≤ 126 ∧ c ≠ 34 ∧ c ≠ 92
  · simp only [if_pos h]; simp
  · simp only [if_neg h]; simp [Sp08.three]) b
theorem map_take_snoc {α β : Type} {f : α → β} {xs : List α} {i : Nat} {x : α} (h : xs[i]? = some x) : (xs.map f).take (i + 1) = (xs.map f).take i ++ [f x] := by
  have hm : (xs.map f)[i]? = some (f x) := by rw [List.getElem?_map, h]; rfl
  obtain ⟨q1, q2⟩ := List.getElem?_eq_some_iff.mp hm
  rw [List.take_succ_eq_append_getElem q1, q2]
theorem ref_get {as : List Addr} {i : Nat} {y : V} (h : (as.map V.ref)[i]? = some y) : ∃ n, as[i]? = some n ∧ y = V.ref n := by
  rw [List.getElem?_map] at h
  cases e : as[i]? with
  | none => rw [e] at h; cases h
  | some n => rw [e] at h; exact ⟨n, rfl, (Option.some.inj h).symm⟩
section
variable {P : Program} {w : World} {K : PySem.W.Frag} {mg : Str → Option Value} {base : Heap} {t : Ad}
def sp_tell_name : Sp := fun vs H Q _ => ∃ (a : Addr) (n : Sp08.Name), vs = [.ref a] ∧ LLH H a n ∧ Sp08.Name.ok n = true ∧ TB H Q (Sp08.Name.say n)
theorem ok_tell_name (T : Txt K mg t) : Ok P w K mg base CX0 4 t.f_tell_name ["labels"] sp_tell_name := by
  obtain ⟨fd, F, bd⟩ := T.fn_tell_name
  obtain ⟨fd_joined, b_joined, k_joined, G_joined⟩ := ok_joined (P := P) (w := w) (base := base) T
  obtain ⟨fd_tell_label, b_tell_label, k_tell_label, G_tell_label⟩ := ok_tell_label (P := P) (w := w) (base := base) T
  refine ⟨fd, bd, F.kp, F.ok sc_tell_name (fun vs H Q E h => ?_) (fun cdv A outer s H vs Q E hr h => ?_)⟩
  · obtain ⟨a, n, rfl, _⟩ := h
    rfl
  · obtain ⟨a, n, rfl, ⟨as, ha, hp⟩, ok, k⟩ := h
    have okn := (Ma.ok_iff n).mp ok
    have sl := Ma.say_len ok
    have nsz := len_size n
    have bg := big
    refine ⟨_, (pss_cons (ps_if (pt_cmpR op_eq (pe_callB call_len_seq rfl T.nb_len PySem.boot_len (pa_cons (pv 0) pa_nil)) pe_int (nomark _)) (pss_one (ps_ret (pe_lst (pa_cons (pe_gv rfl T.gv_DOT) pa_nil)))) pss_nil) (pss_one (ps_ret (pe_call G_joined (hr.mono (by decide)) rfl T.mg_joined k_joined b_joined .nil pass0 (pa_cons (pe_lc (own := [("label", 1)]) rfl sc_tell_name.nd (pi_list (pv 0)) (blkOk_by (by kernel_rfl)) (fun _ _ _ _ _ => (pg_name (i := 1) sc_tell_name.nd rfl (Or.inl rfl))) (fun _ _ _ _ _ => pts_nil) (fun _ _ _ _ _ => (pe_call G_tell_label (hr.mono (by decide)) rfl T.mg_tell_label k_tell_label b_tell_label .nil pass0 (pa_cons (pv 1) pa_nil)))) (pa_cons (pe_gv rfl T.gv_DOT) pa_nil)))))), ?_⟩
    refine ⟨_, rfl, a, _, rfl, .inl (SqL.of ha), rfl, _, rfl, ite2 (fun h0 => ?_) (fun h0 => ?_)⟩
    · have h0 : n = [] := by
        have := V.int.inj (of_decide_eq_true h0)
        rw [List.length_map, Paired.length hp] at this
        exact List.length_eq_zero_iff.mp (by omega)
      refine ⟨by show 1 ≤ sizeLine; decide, fun l hl => ?_⟩
      refine k _ l (Same.upd hl) hl ?_
      rw [upd_same, h0]
      rfl
    · have h0 : n ≠ [] := fun z => h0 (by rw [z] at hp; cases hp; rfl)
      have es : Sp08.Name.say n = Ma.jn 46 (n.map Ma.esc) := by rw [Ma.say_eq, if_neg h0]
      refine ⟨_, rfl, a, rfl, ⟨_, SqL.of ha⟩, fun D hD => lc_list (K := K) (a := a) (xs := as.map V.ref) (fun i H2 => LB BL H D H2 ((n.map Ma.esc).take i) ∧ Same H H2) ⟨LB.nil upd_same, Same.upd hD⟩ (fun i H2 _ ⟨_, s2⟩ => SqL.of (s2 _ _ ha)) ?_ ?_⟩
      · rintro i x H2 hi ⟨B2, s2⟩
        obtain ⟨nd, hnd, rfl⟩ := ref_get hi
        obtain ⟨lb, hlb, hbl⟩ := paired_get hp hnd
        have l63 := okn.1 lb (List.mem_of_getElem? hlb)
        have hil := (List.getElem?_eq_some_iff.mp hlb).1
        obtain ⟨xs, hD2, hxs, _, as2, exs⟩ := B2.at_
        have hxl : xs.length ≤ i := by rw [hxs, List.length_take]; omega
        refine ⟨rfl, yes_if ?_⟩
        refine ⟨_, rfl, nd, lb, rfl, SqL.of (s2 _ _ hbl), by omega, fun H3 l s3 nn h3 => ?_⟩
        have hD3 := s3 _ _ hD2
        refine ⟨xs, hD3, by omega, ?_, fun b' o e => ?_⟩
        · rw [map_take_snoc hlb]
          exact B2.push BL.mono (fun b' o e _ => s3 b' o e) (fun b' e => s2.free e) (Nw.one nn h3) BL.one hD3
        · rw [upd_ne (ne_of_none e hD)]
          exact s3 _ _ (s2 _ _ e)
      · rintro H2 ⟨B2, s2⟩
        have e : (n.map Ma.esc).take (as.map V.ref).length = n.map Ma.esc := by
          rw [List.length_map, Paired.length hp]
          exact List.take_of_length_le (by rw [List.length_map]; exact Nat.le_refl _)
        rw [e] at B2
        refine ⟨D, 46, n.map Ma.esc, rfl, B2.ll BL.mono, by rw [← es]; omega, fun H3 l s3 nn h3 => ?_⟩
        rw [← es] at h3
        exact k H3 l (s2.trans s3) (s2.free nn) h3
def sp_tell_string (K : PySem.W.Frag) : Sp := fun vs H Q _ => ∃ (d : Addr) (b : Sp08.Bytes), vs = [.ref d] ∧ SqL K H d (iv b) ∧ b.length ≤ 10000 ∧ TB H Q (Sp08.quoted b)
theorem ok_tell_string (T : Txt K mg t) : Ok P w K mg base CX0 3 t.f_tell_string ["string"] (sp_tell_string K) := by
  obtain ⟨fd, F, bd⟩ := T.fn_tell_string
  obtain ⟨fd_is_plain_in_string, b_is_plain_in_string, k_is_plain_in_string, G_is_plain_in_string⟩ := ok_is_plain_in_string (P := P) (w := w) (base := base) T
  obtain ⟨fd_escaped, b_escaped, k_escaped, G_escaped⟩ := ok_escaped (P := P) (w := w) (base := base) T
  refine ⟨fd, bd, F.kp, F.ok sc_tell_string (fun vs H Q E h => ?_) (fun cdv A outer s H vs Q E hr h => ?_)⟩
  · obtain ⟨d, b, rfl, _⟩ := h
    rfl
  · obtain ⟨d, b, rfl, hS, hb, k⟩ := h
    refine ⟨_, (pss_cons (ps_set (i := 1) sc_tell_string.nd rfl (Or.inl rfl) (pe_lst (pa_cons (pe_gv rfl T.gv_QUOTE) pa_nil))) (pss_cons (ps_for PassesOwn.never rfl (pi_list (pv 0)) (pg_name (i := 2) sc_tell_string.nd rfl (Or.inl rfl)) (pss_one (ps_expr (pe_bm PySem.F.plainAttrs_list PySem.F.slot_list_extend PySem.F.type_list_extend mt_extend (pv 1) (pa_cons (pe_ifExp (pt_val (pe_call G_is_plain_in_string (hr.mono (by decide)) rfl T.mg_is_plain_in_string k_is_plain_in_string b_is_plain_in_string .nil pass0 (pa_cons (pv 2) pa_nil))) (pe_lst (pa_cons (pv 2) pa_nil)) (pe_call G_escaped (hr.mono (by decide)) rfl T.mg_escaped k_escaped b_escaped .nil pass0 (pa_cons (pv 2) pa_nil))) pa_nil))))) (pss_cons (ps_expr (pe_bm PySem.F.plainAttrs_list PySem.F.slot_list_append PySem.F.type_list_append mt_append (pv 1) (pa_cons (pe_gv rfl T.gv_QUOTE) pa_nil))) (pss_one (ps_ret (pv 1)))))), ?_⟩
    refine ⟨by show 1 ≤ sizeLine; decide, fun l hl => ?_⟩
    have s1 : Same H (L2.upd H l (.lst [V.int 34])) := Same.upd hl
    refine ⟨_, rfl, d, rfl, ⟨_, s1.seq hS⟩, for_list (K := K) (a := d) (xs := iv b) (fun i σ H2 => ∃ v : Option V, σ = [some (.ref d), some (.ref l), v] ∧ Same H H2 ∧ H2 l = some (.lst (iv ([34] ++ qs (b.take i)))))
      ⟨none, rfl, s1, upd_same⟩ (fun i σ H2 _ ⟨_, _, s2, _⟩ => s2.seq hS) ?_ ?_⟩
    · rintro i y σ H2 hi ⟨v, rfl, s2, h2⟩
      obtain ⟨c, hc, rfl⟩ := iv_get hi
      have hil := (List.getElem?_eq_some_iff.mp hc).1
      have bg := big
      have ln := qs_len (b.take i)
      have lt := List.length_take (i := i) (l := b)
      have ll : (iv ([34] ++ qs (b.take i))).length = 1 + (qs (b.take i)).length := by rw [List.length_map, List.length_append]; rfl
      refine ⟨_, rfl, .inl ⟨rfl, _, SqL.of h2⟩, _, rfl, c, rfl, _, rfl, ite2 (fun hp => ?_) (fun hp => ?_)⟩
      · have hp := of_decide_eq_true hp
        refine ⟨_, rfl, by show 1 ≤ sizeLine; decide, fun n hn => ?_⟩
        have nl : n ≠ l := Ne.symm (ne_of_none h2 hn)
        refine ⟨l, n, _, _, rfl, rfl, (Same.upd hn) _ _ h2, upd_same, by rw [ll]; simp only [List.length_cons, List.length_nil]; omega, ?_⟩
        refine ⟨_, rfl, fun b' o e => ?_, ?_⟩
        · rw [upd_ne (ne_of_none e hl)]
          exact (Same.upd hn) _ _ (s2 _ _ e)
        · rw [upd_same, take_snoc hc, qs_snoc, if_pos hp]
          simp
      · have hp : ¬ (32 ≤ c ∧ c ≤ 126 ∧ c ≠ 34 ∧ c ≠ 92) := fun z => hp (decide_eq_true z)
        refine ⟨_, rfl, c, rfl, fun H3 n s3 nn h3 => ?_⟩
        refine ⟨l, n, _, _, rfl, rfl, s3 _ _ h2, h3, by rw [ll, List.length_map]; simp only [List.length_cons, Sp08.three, List.length_nil]; omega, ?_⟩
        refine ⟨_, rfl, fun b' o e => ?_, ?_⟩
        · rw [upd_ne (ne_of_none e hl)]
          exact s3 _ _ (s2 _ _ e)
        · rw [upd_same, take_snoc hc, qs_snoc, if_neg hp]
          simp
    · rintro σ H2 ⟨v, rfl, s2, h2⟩
      rw [List.length_map, List.take_length] at h2
      have ln := qs_len b
      have bg := big
      refine ⟨_, rfl, .inl ⟨rfl, _, SqL.of h2⟩, l, _, _, rfl, rfl, h2, by rw [List.length_map, List.length_append]; simp only [List.length_cons, List.length_nil]; omega, ?_⟩
      refine ⟨_, rfl, k _ l (fun b' o e => by rw [upd_ne (ne_of_none e hl)]; exact s2 _ _ e) hl ?_⟩
      rw [upd_same, quoted_qs]
      simp
def sp_tell_strings (K : PySem.W.Frag) : Sp := fun vs H Q _ => ∃ (d : Addr) (b : Sp08.Bytes) (ls : List Sp08.Bytes), vs = [.ref d] ∧ SqL K H d (iv b) ∧ b.length ≤ 10000 ∧ Ma.S b = some ls ∧ b ≠ [] ∧ TB H Q (Ma.jn 32 (ls.map Sp08.quoted))
theorem ok_tell_strings (T : Txt K mg t) : Ok P w K mg base CX0 5 t.f_tell_strings ["data"] (sp_tell_strings K) := by
  obtain ⟨fd, F, bd⟩ := T.fn_tell_strings
  obtain ⟨fd_joined, b_joined, k_joined, G_joined⟩ := ok_joined (P := P) (w := w) (base := base) T
  obtain ⟨fd_read_strings, b_read_strings, k_read_strings, G_read_strings⟩ := ok_read_strings (P := P) (w := w) (base := base) T
  obtain ⟨fd_tell_string, b_tell_string, k_tell_string, G_tell_string⟩ := ok_tell_string (P := P) (w := w) (base := base) T
  refine ⟨fd, bd, F.kp, F.ok sc_tell_strings (fun vs H Q E h => ?_) (fun cdv A outer s H vs Q E hr h => ?_)⟩
  · obtain ⟨d, b, ls, rfl, _⟩ := h
    rfl
  · obtain ⟨d, b, ls, rfl, hS, hb, eS, hne, k⟩ := h
    have st := Ma.strings_total (show Sp08.strings (b.length + 1) b = some ls from eS)
    have jl := Ma.jn_len 32 (ls.map Sp08.quoted)
    have bg := big
    refine ⟨_, (pss_one (ps_ret (pe_call G_joined (hr.mono (by decide)) rfl T.mg_joined k_joined b_joined .nil pass0 (pa_cons (pe_lc (own := [("string", 1)]) rfl sc_tell_strings.nd (pi_list (pe_call G_read_strings (hr.mono (by decide)) rfl T.mg_read_strings k_read_strings b_read_strings .nil passN (pa_cons (pv 0) pa_nil))) (blkOk_by (by kernel_rfl)) (fun _ _ _ _ _ => (pg_name (i := 1) sc_tell_strings.nd rfl (Or.inl rfl))) (fun _ _ _ _ _ => pts_nil) (fun _ _ _ _ _ => (pe_call G_tell_string (hr.mono (by decide)) rfl T.mg_tell_string k_tell_string b_tell_string .nil pass0 (pa_cons (pv 1) pa_nil)))) (pa_cons (pe_gv rfl T.gv_SPACE) pa_nil))))), ?_⟩
    refine ⟨_, rfl, d, b, rfl, hS, hb, fun hbad H' => ?_, fun l' el _ H1 c s1 g1 => ?_⟩
    · rcases hbad with z | z
      · rw [eS] at z; cases z
      · exact absurd z hne
    rw [eS] at el
    cases el
    obtain ⟨as, ha, hp⟩ := LLH.mono _ _ _ _ (nw_in H H1) g1
    refine ⟨c, rfl, ⟨_, SqL.of ha⟩, fun D hD => lc_list (K := K) (a := c) (xs := as.map V.ref) (fun i H2 => LB BL H1 D H2 ((ls.map Sp08.quoted).take i) ∧ Same H1 H2) ⟨LB.nil upd_same, Same.upd hD⟩ (fun i H2 _ ⟨_, s2⟩ => SqL.of (s2 _ _ ha)) ?_ ?_⟩
    · rintro i x H2 hi ⟨B2, s2⟩
      obtain ⟨nd, hnd, rfl⟩ := ref_get hi
      obtain ⟨lb, hlb, hbl⟩ := paired_get hp hnd
      have hil := (List.getElem?_eq_some_iff.mp hlb).1
      have hlm : lb.length ≤ b.length := by
        have := st.2.2
        have hm := List.mem_of_getElem? hlb
        have : lb.length ≤ (ls.flatMap id).length := by
          obtain ⟨pre, post, e⟩ := List.append_of_mem hm
          rw [e]
          simp
          omega
        omega
      obtain ⟨xs, hD2, hxs, _, as2, exs⟩ := B2.at_
      have hxl : xs.length ≤ i := by rw [hxs, List.length_take]; omega
      refine ⟨rfl, yes_if ?_⟩
      refine ⟨_, rfl, nd, lb, rfl, SqL.of (s2 _ _ hbl), by omega, fun H3 l s3 nn h3 => ?_⟩
      have hD3 := s3 _ _ hD2
      refine ⟨xs, hD3, by omega, ?_, fun b' o e => ?_⟩
      · rw [map_take_snoc hlb]
        exact B2.push BL.mono (fun b' o e _ => s3 b' o e) (fun b' e => s2.free e) (Nw.one nn h3) BL.one hD3
      · rw [upd_ne (ne_of_none e hD)]
        exact s3 _ _ (s2 _ _ e)
    · rintro H2 ⟨B2, s2⟩
      have e : (ls.map Sp08.quoted).take (as.map V.ref).length = ls.map Sp08.quoted := by
        rw [List.length_map, Paired.length hp]
        exact List.take_of_length_le (by rw [List.length_map]; exact Nat.le_refl _)
      rw [e] at B2
      refine ⟨D, 32, ls.map Sp08.quoted, rfl, B2.ll BL.mono, by omega, fun H3 l s3 nn h3 => ?_⟩
      exact k H3 l ((s1.trans s2).trans s3) ((s1.trans s2).free nn) h3
def sp_tell_any_bytes (K : PySem.W.Frag) : Sp := fun vs H Q _ => ∃ (d : Addr) (b : Sp08.Bytes), vs = [.ref d] ∧ SqL K H d (iv b) ∧ b.length ≤ 10000 ∧ TB H Q (Ma.anyText b)
theorem ok_tell_any_bytes (T : Txt K mg t) : Ok P w K mg base CX0 3 t.f_tell_any_bytes ["data"] (sp_tell_any_bytes K) := by
  obtain ⟨fd, F, bd⟩ := T.fn_tell_any_bytes
  obtain ⟨fd_joined, b_joined, k_joined, G_joined⟩ := ok_joined (P := P) (w := w) (base := base) T
  obtain ⟨fd_hexadecimal, b_hexadecimal, k_hexadecimal, G_hexadecimal⟩ := ok_hexadecimal (P := P) (w := w) (base := base) T
  obtain ⟨fd_decimal, b_decimal, k_decimal, G_decimal⟩ := ok_decimal (P := P) (w := w) (base := base) T
  obtain ⟨fd_signs, b_signs, k_signs, G_signs⟩ := ok_signs (P := P) (w := w) (base := base) T
  refine ⟨fd, bd, F.kp, F.ok sc_tell_any_bytes (fun vs H Q E h => ?_) (fun cdv A outer s H vs Q E hr h => ?_)⟩
  · obtain ⟨d, b, rfl, _⟩ := h
    rfl
  · obtain ⟨d, b, rfl, hS, hb, k⟩ := h
    have hb64 : b.length < 2 ^ 64 := Nat.lt_of_le_of_lt hb (by decide)
    have dl := dec_small hb64
    have hx := Ma.hexB_len b
    have bg := big
    refine ⟨_, (pss_cons (ps_set (i := 1) sc_tell_any_bytes.nd rfl (Or.inl rfl) (pe_lst (pa_cons (pe_call G_signs (hr.mono (by decide)) rfl T.mg_signs k_signs b_signs .nil pass0 (pa_cons pe_str pa_nil)) (pa_cons (pe_call G_decimal (hr.mono (by decide)) rfl T.mg_decimal k_decimal b_decimal .nil pass0 (pa_cons (pe_callB call_len_seq rfl T.nb_len PySem.boot_len (pa_cons (pv 0) pa_nil)) pa_nil)) pa_nil)))) (pss_cons (ps_if (pt_cmpR op_gt (pe_callB call_len_seq rfl T.nb_len PySem.boot_len (pa_cons (pv 0) pa_nil)) pe_int (nomark _)) (pss_one (ps_expr (pe_bm PySem.F.plainAttrs_list PySem.F.slot_list_append PySem.F.type_list_append mt_append (pv 1) (pa_cons (pe_call G_hexadecimal (hr.mono (by decide)) rfl T.mg_hexadecimal k_hexadecimal b_hexadecimal .nil pass0 (pa_cons (pv 0) pa_nil)) pa_nil)))) pss_nil) (pss_one (ps_ret (pe_call G_joined (hr.mono (by decide)) rfl T.mg_joined k_joined b_joined .nil pass0 (pa_cons (pv 1) (pa_cons (pe_gv rfl T.gv_SPACE) pa_nil))))))), ?_⟩
    -- words = [signs("\\#"), decimal(len(data))]
    refine ⟨"\\#", [92, 35], rfl, by decide +kernel, by decide, fun H1 l1 s1 n1 h1 => ?_⟩
    refine ⟨_, rfl, d, _, rfl, .inl (s1.seq hS), b.length, by rw [List.length_map]; rfl, hb64, fun H2 l2 s2 n2 h2 => ?_⟩
    refine ⟨by show 2 ≤ sizeLine; decide, fun wd hwd => ?_⟩
    have s02 : Same H H2 := s1.trans s2
    have B3 : LB BL H wd (L2.upd H2 wd (.lst [V.ref l1, V.ref l2])) [[92, 35], Sp08.dec b.length] := LB.of (as := [l1, l2]) (.cons (nw_at n1 (s2 _ _ h1)) (.cons (nw_at (s1.free n2) h2) .nil)) hwd
    have s3 : Same H (L2.upd H2 wd (.lst [V.ref l1, V.ref l2])) := s02.trans (Same.upd hwd)
    have hw0 : H wd = none := s02.free hwd
    -- if len(data) > 0
    refine ⟨_, rfl, d, _, rfl, .inl (s3.seq hS), _, _, rfl, rfl, _, rfl, ite2 (fun h0 => ?_) (fun h0 => ?_)⟩
    · have h0 : 0 < b.length := by have := of_decide_eq_true h0; rw [List.length_map] at this; omega
      refine ⟨_, rfl, .inl ⟨rfl, _, SqL.of upd_same⟩, _, rfl, d, b, rfl, s3.seq hS, hb, fun H4 l4 s4 n4 h4 => ?_⟩
      have hw4 := s4 _ _ (upd_same (H := H2) (a := wd) (o := .lst [V.ref l1, V.ref l2]))
      refine ⟨wd, _, _, rfl, rfl, hw4, by show 2 < sizeLine; decide, ?_⟩
      have B4 := B3.push BL.mono (fun b' o e _ => s4 b' o e) (fun b' e => s3.free e) (Nw.one n4 h4) BL.one hw4
      have s5 : Same H (L2.upd H4 wd (.lst ([V.ref l1, V.ref l2] ++ [V.ref l4]))) := fun b' o e => by
        rw [upd_ne (ne_of_none e hw0)]
        exact s4 _ _ (s3 _ _ e)
      have ea : Ma.anyText b = Ma.jn 32 ([[92, 35], Sp08.dec b.length] ++ [Ma.hexB b]) := by unfold Ma.anyText; rw [if_pos h0]
      have jl := Ma.jn_len 32 ([[92, 35], Sp08.dec b.length] ++ [Ma.hexB b])
      have tl' : Ma.total ([[92, 35], Sp08.dec b.length] ++ [Ma.hexB b]) ≤ 4000000 := by
        simp only [Ma.total, List.map_append, List.map_cons, List.map_nil, List.sum_append, List.sum_cons, List.sum_nil, List.length_cons, List.length_nil, hx]
        omega
      refine ⟨_, rfl, wd, 32, _, rfl, B4.ll BL.mono, by omega, fun H6 l6 s6 n6 h6 => ?_⟩
      rw [← ea] at h6
      exact k H6 l6 (s5.trans s6) (s5.free n6) h6
    · have h0 : ¬ 0 < b.length := fun z => h0 (decide_eq_true (by rw [List.length_map]; omega))
      have ea : Ma.anyText b = Ma.jn 32 [[92, 35], Sp08.dec b.length] := by unfold Ma.anyText; rw [if_neg h0, List.append_nil]
      have jl := Ma.jn_len 32 [[92, 35], Sp08.dec b.length]
      have tl' : Ma.total [[92, 35], Sp08.dec b.length] ≤ 4000000 := by
        simp only [Ma.total, List.map_cons, List.map_nil, List.sum_cons, List.sum_nil, List.length_cons, List.length_nil]
        omega
      refine ⟨_, rfl, wd, 32, _, rfl, B3.ll BL.mono, by omega, fun H6 l6 s6 n6 h6 => ?_⟩
      rw [← ea] at h6
      exact k H6 l6 (s3.trans s6) (s3.free n6) h6
end
end Pn
end
section
set_option linter.all false
set_option Elab.async false
set_option maxRecDepth 100000
namespace Pn
open PySem L2
open TL (tl numL)
theorem valI_str (L : List (Nat × String)) (c : Nat) : valI (L.map fun x => ((x.1 : Int), V.str (Str.ofString x.2))) (c : Int) = (L.find? fun x => x.1 == c).map fun x => V.str (Str.ofString x.2) := by
  induction L with
  | nil => rfl
  | cons y r ih =>
    rw [List.map_cons, valI_cons, List.find?_cons, ih]
    by_cases e : y.1 = c
    · rw [if_pos (by rw [e]), beq_iff_eq.mpr e]
      rfl
    · rw [if_neg (by omega), beq_eq_false_iff_ne.mpr e]
theorem named {L : List (Nat × String)} (hL : ∀ y ∈ L, tl (Str.ofString y.2) = (Sp08.text y.2).map UInt8.toNat) (c : Nat) (o : Sp08.Bytes) :
    (∃ x : Str, valI (L.map fun x => ((x.1 : Int), V.str (Str.ofString x.2))) (c : Int) = some (.str x) ∧ tl x = (((L.find? fun x => x.1 == c).map fun x => Sp08.text x.2).getD o).map UInt8.toNat) ∨
    (valI (L.map fun x => ((x.1 : Int), V.str (Str.ofString x.2))) (c : Int) = none ∧ ((L.find? fun x => x.1 == c).map fun x => Sp08.text x.2).getD o = o) := by
  rw [valI_str]
  cases e : L.find? fun x => x.1 == c with
  | some x => exact .inl ⟨_, rfl, hL x (List.mem_of_find?_eq_some e)⟩
  | none => exact .inr ⟨rfl, rfl⟩
abbrev clsV : List (Int × V) := [(1, .str "IN"), (3, .str "CH"), (4, .str "HS")]
theorem cls_val (c : Nat) : (∃ x : Str, valI clsV (c : Int) = some (.str x) ∧ tl x = (Sp08.classText c).map UInt8.toNat) ∨ (valI clsV (c : Int) = none ∧ Sp08.classText c = Sp08.text "CLASS" ++ Sp08.dec c) :=
  named (L := [(1, "IN"), (3, "CH"), (4, "HS")]) (by decide +kernel) c (Sp08.text "CLASS" ++ Sp08.dec c)
abbrev kndV : List (Int × V) := [(1, .str "A"), (2, .str "NS"), (5, .str "CNAME"), (6, .str "SOA"), (12, .str "PTR"), (15, .str "MX"), (16, .str "TXT"), (28, .str "AAAA"), (33, .str "SRV")]
theorem knd_val (c : Nat) : (∃ x : Str, valI kndV (c : Int) = some (.str x) ∧ tl x = (Sp08.typeText c).map UInt8.toNat) ∨ (valI kndV (c : Int) = none ∧ Sp08.typeText c = Sp08.text "TYPE" ++ Sp08.dec c) :=
  named (L := [(1, "A"), (2, "NS"), (5, "CNAME"), (6, "SOA"), (12, "PTR"), (15, "MX"), (16, "TXT"), (28, "AAAA"), (33, "SRV")]) (by decide +kernel) c (Sp08.text "TYPE" ++ Sp08.dec c)
theorem fs_len {s : Str} {n : Nat} (h : n < 2 ^ 64) (hs : s.length ≤ 100) : s.length + (Str.ofString (toString ((n : Nat) : Int))).length ≤ sizeLine := by
  have e := TL.len_tl (Str.ofString (toString ((n : Nat) : Int)))
  rw [dec_tl, List.length_map] at e
  have := dec_small h
  have := big
  omega
theorem fs_tl {s : Str} {b : Sp08.Bytes} (n : Nat) (hs : tl s = b.map UInt8.toNat) : tl (s ++ Str.ofString (toString ((n : Nat) : Int))) = (b ++ Sp08.dec n).map UInt8.toNat := by
  rw [TL.tl_append, dec_tl, hs, List.map_append]
section
variable {P : Program} {w : World} {K : PySem.W.Frag} {mg : Str → Option Value} {base : Heap} {t : Ad}
def sp_tell_class : Sp := fun vs H Q _ => ∃ c : Nat, vs = [.int (c : Int)] ∧ c < 65536 ∧ TB H Q (Sp08.classText c)
theorem ok_tell_class (T : Txt K mg t) : Ok P w K mg base CX0 2 t.f_tell_class ["cls"] sp_tell_class := by
  obtain ⟨fd, F, bd⟩ := T.fn_tell_class
  obtain ⟨fd_signs, b_signs, k_signs, G_signs⟩ := ok_signs (P := P) (w := w) (base := base) T
  refine ⟨fd, bd, F.kp, F.ok sc_tell_class (fun vs H Q E h => ?_) (fun cdv A outer s H vs Q E hr h => ?_)⟩
  · obtain ⟨c, rfl, _⟩ := h
    rfl
  · obtain ⟨c, rfl, hc, k⟩ := h
    have hl := Ma.classText_len hc
    have hc64 : c < 2 ^ 64 := Nat.lt_trans hc (by decide)
    refine ⟨_, (pss_cons (ps_if (pt_cmp (pc_kin (pv 0) (pe_gv rfl T.gv_CLASS_NAMES))) (pss_one (ps_ret (pe_call G_signs (hr.mono (by decide)) rfl T.mg_signs k_signs b_signs .nil pass0 (pa_cons (pe_kget (pe_gv rfl T.gv_CLASS_NAMES) (pv 0) (fun _ _ => rfl)) pa_nil)))) pss_nil) (pss_one (ps_ret (pe_call G_signs (hr.mono (by decide)) rfl T.mg_signs k_signs b_signs .nil pass0 (pa_cons (pe_fstr (pv 0)) pa_nil))))), ?_⟩
    refine ⟨_, rfl, t.d_CLASS_NAMES, _, _, rfl, T.kd_CLASS_NAMES, rfl, _, rfl, ?_⟩
    rcases cls_val c with ⟨x, ev, ex⟩ | ⟨ev, ex⟩
    · refine ite2 (fun _ => ?_) (fun hin => absurd (by rw [ev]; rfl) hin)
      exact ⟨_, rfl, t.d_CLASS_NAMES, _, _, _, rfl, T.kd_CLASS_NAMES, rfl, ev, x, _, rfl, ex, by omega, k⟩
    · refine ite2 (fun hin => absurd hin (by rw [ev]; simp)) (fun _ => ?_)
      refine ⟨_, rfl, _, rfl, small_log hc64, fs_len hc64 (by decide +kernel), _, _, rfl, ?_, by omega, k⟩
      rw [ex]
      exact fs_tl c (by decide +kernel)
def sp_tell_kind : Sp := fun vs H Q _ => ∃ c : Nat, vs = [.int (c : Int)] ∧ c < 65536 ∧ TB H Q (Sp08.typeText c)
theorem ok_tell_kind (T : Txt K mg t) : Ok P w K mg base CX0 2 t.f_tell_kind ["kind"] sp_tell_kind := by
  obtain ⟨fd, F, bd⟩ := T.fn_tell_kind
  obtain ⟨fd_signs, b_signs, k_signs, G_signs⟩ := ok_signs (P := P) (w := w) (base := base) T
  refine ⟨fd, bd, F.kp, F.ok sc_tell_kind (fun vs H Q E h => ?_) (fun cdv A outer s H vs Q E hr h => ?_)⟩
  · obtain ⟨c, rfl, _⟩ := h
    rfl
  · obtain ⟨c, rfl, hc, k⟩ := h
    have hl := Ma.typeText_len hc
    have hc64 : c < 2 ^ 64 := Nat.lt_trans hc (by decide)
    refine ⟨_, (pss_cons (ps_if (pt_cmp (pc_kin (pv 0) (pe_gv rfl T.gv_KIND_NAMES))) (pss_one (ps_ret (pe_call G_signs (hr.mono (by decide)) rfl T.mg_signs k_signs b_signs .nil pass0 (pa_cons (pe_kget (pe_gv rfl T.gv_KIND_NAMES) (pv 0) (fun _ _ => rfl)) pa_nil)))) pss_nil) (pss_one (ps_ret (pe_call G_signs (hr.mono (by decide)) rfl T.mg_signs k_signs b_signs .nil pass0 (pa_cons (pe_fstr (pv 0)) pa_nil))))), ?_⟩
    refine ⟨_, rfl, t.d_KIND_NAMES, _, _, rfl, T.kd_KIND_NAMES, rfl, _, rfl, ?_⟩
    rcases knd_val c with ⟨x, ev, ex⟩ | ⟨ev, ex⟩
    · refine ite2 (fun _ => ?_) (fun hin => absurd (by rw [ev]; rfl) hin)
      exact ⟨_, rfl, t.d_KIND_NAMES, _, _, _, rfl, T.kd_KIND_NAMES, rfl, ev, x, _, rfl, ex, by omega, k⟩
    · refine ite2 (fun hin => absurd hin (by rw [ev]; simp)) (fun _ => ?_)
      refine ⟨_, rfl, _, rfl, small_log hc64, fs_len hc64 (by decide +kernel), _, _, rfl, ?_, by omega, k⟩
      rw [ex]
      exact fs_tl c (by decide +kernel)
theorem iv_pair {f : Nat} (h : f < 65536) : ([V.int ((f : Int) / 256), V.int ((f : Int) % 256)] : List V) = iv [UInt8.ofNat (f / 256), UInt8.ofNat (f % 256)] := by
  have a : (UInt8.ofNat (f / 256)).toNat = f / 256 := by rw [UInt8.toNat_ofNat']; omega
  have b : (UInt8.ofNat (f % 256)).toNat = f % 256 := by rw [UInt8.toNat_ofNat']; omega
  show _ = [V.int (((UInt8.ofNat (f / 256)).toNat : Nat) : Int), V.int (((UInt8.ofNat (f % 256)).toNat : Nat) : Int)]
  rw [a, b]
  rfl
def sp_tell_head (t : Ad) : Sp := fun vs H Q _ => ∃ (q : Addr) (M : Ma.M3), vs = [.ref q] ∧ MesH t H q M ∧ M.id < 65536 ∧ M.flags < 65536 ∧ TB H Q (Ma.head M.id M.flags)
theorem ok_tell_head (T : Txt K mg t) : Ok P w K mg base CX0 3 t.f_tell_head ["message"] (sp_tell_head t) := by
  obtain ⟨fd, F, bd⟩ := T.fn_tell_head
  obtain ⟨fd_joined, b_joined, k_joined, G_joined⟩ := ok_joined (P := P) (w := w) (base := base) T
  obtain ⟨fd_signs, b_signs, k_signs, G_signs⟩ := ok_signs (P := P) (w := w) (base := base) T
  obtain ⟨fd_decimal, b_decimal, k_decimal, G_decimal⟩ := ok_decimal (P := P) (w := w) (base := base) T
  obtain ⟨fd_hexadecimal, b_hexadecimal, k_hexadecimal, G_hexadecimal⟩ := ok_hexadecimal (P := P) (w := w) (base := base) T
  refine ⟨fd, bd, F.kp, F.ok sc_tell_head (fun vs H Q E h => ?_) (fun cdv A outer s H vs Q E hr h => ?_)⟩
  · obtain ⟨q, M, rfl, _⟩ := h
    rfl
  · obtain ⟨q, M, rfl, ⟨dx, ea, hq, _⟩, hid, hfl, k⟩ := h
    have hl := Ma.head_len (flags := M.flags) hid
    have hid64 : M.id < 2 ^ 64 := Nat.lt_trans hid (by decide)
    have ep := iv_pair hfl
    refine ⟨_, (pss_cons (ps_set (i := 1) sc_tell_head.nd rfl (Or.inl rfl) (pe_call G_hexadecimal (hr.mono (by decide)) rfl T.mg_hexadecimal k_hexadecimal b_hexadecimal .nil pass0 (pa_cons (pe_lst (pa_cons (pe_op op_fdiv (pe_fld (pv 0) rfl) pe_int) (pa_cons (pe_op op_mod (pe_fld (pv 0) rfl) pe_int) pa_nil))) pa_nil))) (pss_one (ps_ret (pe_call G_joined (hr.mono (by decide)) rfl T.mg_joined k_joined b_joined .nil pass0 (pa_cons (pe_lst (pa_cons (pe_call G_signs (hr.mono (by decide)) rfl T.mg_signs k_signs b_signs .nil pass0 (pa_cons pe_str pa_nil)) (pa_cons (pe_call G_decimal (hr.mono (by decide)) rfl T.mg_decimal k_decimal b_decimal .nil pass0 (pa_cons (pe_fld (pv 0) rfl) pa_nil)) (pa_cons (pe_call G_signs (hr.mono (by decide)) rfl T.mg_signs k_signs b_signs .nil pass0 (pa_cons pe_str pa_nil)) (pa_cons (pv 1) pa_nil))))) (pa_cons (pe_gv rfl T.gv_SPACE) pa_nil)))))), ?_⟩
    refine ⟨_, rfl, q, _, dx, _, _, rfl, hq, T.cl_Message, T.na_Message_flags, lk_Message_flags, _, _, rfl, rfl, ⟨by decide, by decide⟩, _, rfl, q, _, dx, _, _, rfl, hq, T.cl_Message, T.na_Message_flags, lk_Message_flags, _, _, rfl, rfl, (by show (0 : Int) < 256; decide), by show 2 ≤ sizeLine; decide, fun l1 hl1 => ?_⟩
    have s1 : Same H (L2.upd H l1 (.lst [V.int ((M.flags : Int) / 256), V.int ((M.flags : Int) % 256)])) := Same.upd hl1
    refine ⟨l1, [UInt8.ofNat (M.flags / 256), UInt8.ofNat (M.flags % 256)], rfl, SqL.of (by rw [← ep]; exact upd_same), by show 2 ≤ 10000; decide, fun H2 l2 s2 n2 h2 => ?_⟩
    have s02 := s1.trans s2
    refine ⟨"ID", [73, 68], rfl, by decide +kernel, by decide, fun H3 l3 s3 n3 h3 => ?_⟩
    have s03 := s02.trans s3
    refine ⟨_, rfl, q, _, dx, _, _, rfl, s03 _ _ hq, T.cl_Message, T.na_Message_number, lk_Message_number, M.id, rfl, hid64, fun H4 l4 s4 n4 h4 => ?_⟩
    have s04 := s03.trans s4
    refine ⟨"FLAGS", [70, 76, 65, 71, 83], rfl, by decide +kernel, by decide, fun H5 l5 s5 n5 h5 => ?_⟩
    have s05 := s04.trans s5
    refine ⟨_, rfl, by show 4 ≤ sizeLine; decide, fun wd hwd => ?_⟩
    have B : LB BL H wd (L2.upd H5 wd (.lst [V.ref l3, V.ref l4, V.ref l5, V.ref l2])) [[73, 68], Sp08.dec M.id, [70, 76, 65, 71, 83], Ma.hexB [UInt8.ofNat (M.flags / 256), UInt8.ofNat (M.flags % 256)]] :=
      LB.of (as := [l3, l4, l5, l2]) (.cons (nw_at (s02.free n3) (s5 _ _ (s4 _ _ h3))) (.cons (nw_at (s03.free n4) (s5 _ _ h4)) (.cons (nw_at (s04.free n5) h5) (.cons (nw_at (s1.free n2) (s5 _ _ (s4 _ _ (s3 _ _ h2)))) .nil)))) hwd
    have s06 : Same H (L2.upd H5 wd (.lst [V.ref l3, V.ref l4, V.ref l5, V.ref l2])) := s05.trans (Same.upd hwd)
    refine ⟨wd, 32, _, rfl, B.ll BL.mono, by show (Ma.head M.id M.flags).length ≤ 4000000; omega, fun H6 l6 s6 n6 h6 => ?_⟩
    exact k H6 l6 (s06.trans s6) (s06.free n6) h6
end
end Pn
end
section
set_option linter.all false
set_option Elab.async false
set_option maxRecDepth 100000
namespace Pn
open PySem L2
open TL (tl numL)
theorem LLH.cat {H : Hp} {p : Addr} {as bs : List Addr} {xs ys : List Sp08.Bytes} (ha : Paired (BL H) as xs) (hb : Paired (BL H) bs ys) (hp : H p = none) :
    Paired (BL (L2.upd H p (.lst ((as ++ bs).map V.ref)))) (as ++ bs) (xs ++ ys) := by
  have up : Sub H (L2.upd H p (.lst ((as ++ bs).map V.ref))) := fun b o e => by rw [upd_ne (ne_of_none e hp)]; exact e
  have go : ∀ {as : List Addr} {xs : List Sp08.Bytes}, Paired (BL H) as xs → Paired (BL H) (as ++ bs) (xs ++ ys) := by
    intro as xs h
    induction h with
    | nil => exact hb
    | cons h _ ih => exact .cons h ih
  exact Paired.mapP (go ha) fun _ _ q => BL.mono _ _ _ _ up q
section
variable {P : Program} {w : World} {K : PySem.W.Frag} {mg : Str → Option Value} {base : Heap} {t : Ad}
def sp_tell_data (t : Ad) : Sp := fun vs H Q _ => ∃ (k : Nat) (q : Addr) (d : Ma.D3), vs = [.int (k : Int), .ref q] ∧ DatH t H q d ∧ Ma.DOk k d ∧ (Ma.tellData k d).length ≤ 4000000 ∧ TB H Q (Ma.tellData k d)
theorem ok_tell_data (T : Txt K mg t) : Ok P w K mg base CX0 6 t.f_tell_data ["kind", "data"] (sp_tell_data t) := by
  obtain ⟨fd, F, bd⟩ := T.fn_tell_data
  obtain ⟨fd_tell_any_bytes, b_tell_any_bytes, k_tell_any_bytes, G_tell_any_bytes⟩ := ok_tell_any_bytes (P := P) (w := w) (base := base) T
  obtain ⟨fd_joined, b_joined, k_joined, G_joined⟩ := ok_joined (P := P) (w := w) (base := base) T
  obtain ⟨fd_decimals, b_decimals, k_decimals, G_decimals⟩ := ok_decimals (P := P) (w := w) (base := base) T
  obtain ⟨fd_tell_name, b_tell_name, k_tell_name, G_tell_name⟩ := ok_tell_name (P := P) (w := w) (base := base) T
  obtain ⟨fd_tell_strings, b_tell_strings, k_tell_strings, G_tell_strings⟩ := ok_tell_strings (P := P) (w := w) (base := base) T
  obtain ⟨fd_cut, b_cut, k_cut, G_cut⟩ := ok_cut (P := P) (w := w) (base := base) T
  obtain ⟨fd_hexadecimal, b_hexadecimal, k_hexadecimal, G_hexadecimal⟩ := ok_hexadecimal (P := P) (w := w) (base := base) T
  refine ⟨fd, bd, F.kp, F.ok sc_tell_data (fun vs H Q E h => ?_) (fun cdv A outer s H vs Q E hr h => ?_)⟩
  · obtain ⟨k, q, d, rfl, _⟩ := h
    rfl
  · obtain ⟨k, q, d, rfl, ⟨dx, f, nm, bk, hq, hf, hn, hb⟩, ok, hlen, kQ⟩ := h
    have bg := big
    refine ⟨_, (pss_cons (ps_if (pt_cmpR op_eq (pv 0) (pe_gv rfl T.gv_KIND_A) (nomark _)) (pss_one (ps_ret (pe_call G_joined (hr.mono (by decide)) rfl T.mg_joined k_joined b_joined .nil pass0 (pa_cons (pe_call G_decimals (hr.mono (by decide)) rfl T.mg_decimals k_decimals b_decimals .nil pass0 (pa_cons (pe_fld (pv 1) rfl) (pa_cons pe_int pa_nil))) (pa_cons (pe_gv rfl T.gv_DOT) pa_nil))))) pss_nil) (pss_cons (ps_if (pt_cmpR op_eq (pv 0) (pe_gv rfl T.gv_KIND_AAAA) (nomark _)) (pss_one (ps_ret (pe_call G_joined (hr.mono (by decide)) rfl T.mg_joined k_joined b_joined .nil pass0 (pa_cons (pe_lc (own := [("piece", 3)]) rfl sc_tell_data.nd (pi_list (pe_call G_cut (hr.mono (by decide)) rfl T.mg_cut k_cut b_cut .nil pass0 (pa_cons (pe_fld (pv 1) rfl) (pa_cons pe_int pa_nil)))) (blkOk_by (by kernel_rfl)) (fun _ _ _ _ _ => (pg_name (i := 3) sc_tell_data.nd rfl (Or.inl rfl))) (fun _ _ _ _ _ => pts_nil) (fun _ _ _ _ _ => (pe_call G_hexadecimal (hr.mono (by decide)) rfl T.mg_hexadecimal k_hexadecimal b_hexadecimal .nil pass0 (pa_cons (pv 3) pa_nil)))) (pa_cons (pe_gv rfl T.gv_COLON) pa_nil))))) pss_nil) (pss_cons (ps_if (pt_cmpR op_eq (pv 0) (pe_gv rfl T.gv_KIND_TXT) (nomark _)) (pss_one (ps_ret (pe_call G_tell_strings (hr.mono (by decide)) rfl T.mg_tell_strings k_tell_strings b_tell_strings .nil pass0 (pa_cons (pe_fld (pv 1) rfl) pa_nil)))) pss_nil) (pss_cons (ps_if (pt_cmp (pc_kin (pv 0) (pe_gv rfl T.gv_LAYOUTS))) (pss_cons (ps_setLc (own := [("labels", 4)]) (i := 2) rfl sc_tell_data.nd rfl rfl (sw_true rfl rfl rfl rfl) (pi_list (pe_fld (pv 1) rfl)) (blkOk_by (by kernel_rfl)) (fun _ _ _ _ _ => (pg_name (i := 4) sc_tell_data.nd rfl (Or.inl rfl))) (fun _ _ _ _ _ => pts_nil) (fun _ _ _ _ _ => (pe_call G_tell_name (hr.mono (by decide)) rfl T.mg_tell_name k_tell_name b_tell_name .nil pass0 (pa_cons (pv 4) pa_nil)))) (pss_one (ps_ret (pe_call G_joined (hr.mono (by decide)) rfl T.mg_joined k_joined b_joined .nil pass0 (pa_cons (pe_op op_cat (pe_op op_cat (pe_call G_decimals (hr.mono (by decide)) rfl T.mg_decimals k_decimals b_decimals .nil pass0 (pa_cons (pe_fld (pv 1) rfl) (pa_cons pe_int pa_nil))) (pv 2)) (pe_call G_decimals (hr.mono (by decide)) rfl T.mg_decimals k_decimals b_decimals .nil pass0 (pa_cons (pe_fld (pv 1) rfl) (pa_cons pe_int pa_nil)))) (pa_cons (pe_gv rfl T.gv_SPACE) pa_nil)))))) pss_nil) (pss_one (ps_ret (pe_call G_tell_any_bytes (hr.mono (by decide)) rfl T.mg_tell_any_bytes k_tell_any_bytes b_tell_any_bytes .nil pass0 (pa_cons (pe_fld (pv 1) rfl) pa_nil)))))))), ?_⟩
    -- if kind == KIND_A
    refine ⟨_, rfl, rfl, _, rfl, ite2 (fun h1 => ?_) (fun h1 => ?_)⟩
    · have h1 : k = 1 := by have := V.int.inj (of_decide_eq_true h1); omega
      have et : Ma.tellData k d = Ma.jn 46 (Ma.decs 1 d.1) := by unfold Ma.tellData; rw [if_pos h1]
      refine ⟨_, rfl, q, _, dx, _, _, rfl, hq, T.cl_Data, T.na_Data_front, lk_Data_front, f, 1, d.1, rfl, SqL.of hf, by decide, by decide, ok.front, fun H1 c s1 g1 => ?_⟩
      refine ⟨c, 46, _, rfl, LLH.mono _ _ _ _ (nw_in H H1) g1, by rw [← et]; exact hlen, fun H2 l s2 n2 h2 => ?_⟩
      rw [← et] at h2
      exact kQ H2 l (s1.trans s2) (s1.free n2) h2
    have h1 : ¬ k = 1 := fun z => h1 (by rw [z]; rfl)
    -- if kind == KIND_AAAA
    refine ⟨_, rfl, rfl, _, rfl, ite2 (fun h2 => ?_) (fun h2 => ?_)⟩
    · have h2 : k = 28 := by have := V.int.inj (of_decide_eq_true h2); omega
      have et : Ma.tellData k d = Ma.jn 58 ((Ma.chunks 2 d.1).map Ma.hexB) := by unfold Ma.tellData; rw [if_neg h1, if_pos h2]
      rw [et] at hlen kQ
      have cnt := Ma.chunks_count (k := 2) (b := d.1) (by decide)
      have fr := ok.front
      refine ⟨_, rfl, q, _, dx, _, _, rfl, hq, T.cl_Data, T.na_Data_front, lk_Data_front, f, 2, d.1, rfl, SqL.of hf, by decide, by decide, ok.front, fun H1 c s1 g1 => ?_⟩
      obtain ⟨as, ha, hp⟩ := LLH.mono _ _ _ _ (nw_in H H1) g1
      refine ⟨c, rfl, ⟨_, SqL.of ha⟩, fun D hD => lc_list (K := K) (a := c) (xs := as.map V.ref) (fun i H2 => LB BL H1 D H2 (((Ma.chunks 2 d.1).map Ma.hexB).take i) ∧ Same H1 H2) ⟨LB.nil upd_same, Same.upd hD⟩ (fun i H2 _ ⟨_, s2⟩ => SqL.of (s2 _ _ ha)) ?_ ?_⟩
      · rintro i x H2 hi ⟨B2, s2⟩
        obtain ⟨nd, hnd, rfl⟩ := ref_get hi
        obtain ⟨lb, hlb, hbl⟩ := paired_get hp hnd
        have hil := (List.getElem?_eq_some_iff.mp hlb).1
        have hlm := Ma.chunks_mem (List.mem_of_getElem? hlb)
        obtain ⟨xs, hD2, hxs, _, as2, exs⟩ := B2.at_
        have hxl : xs.length ≤ i := by rw [hxs, List.length_take]; omega
        refine ⟨rfl, yes_if ?_⟩
        refine ⟨_, rfl, nd, lb, rfl, SqL.of (s2 _ _ hbl), by omega, fun H3 l s3 nn h3 => ?_⟩
        have hD3 := s3 _ _ hD2
        refine ⟨xs, hD3, by omega, ?_, fun b' o e => ?_⟩
        · rw [map_take_snoc hlb]
          exact B2.push BL.mono (fun b' o e _ => s3 b' o e) (fun b' e => s2.free e) (Nw.one nn h3) BL.one hD3
        · rw [upd_ne (ne_of_none e hD)]
          exact s3 _ _ (s2 _ _ e)
      · rintro H2 ⟨B2, s2⟩
        have e : ((Ma.chunks 2 d.1).map Ma.hexB).take (as.map V.ref).length = (Ma.chunks 2 d.1).map Ma.hexB := by
          rw [List.length_map, Paired.length hp]
          exact List.take_of_length_le (by rw [List.length_map]; exact Nat.le_refl _)
        rw [e] at B2
        refine ⟨D, 58, _, rfl, B2.ll BL.mono, hlen, fun H3 l s3 nn h3 => ?_⟩
        exact kQ H3 l ((s1.trans s2).trans s3) ((s1.trans s2).free nn) h3
    have h2 : ¬ k = 28 := fun z => h2 (by rw [z]; rfl)
    -- if kind == KIND_TXT
    refine ⟨_, rfl, rfl, _, rfl, ite2 (fun h3 => ?_) (fun h3 => ?_)⟩
    · have h3 : k = 16 := by have := V.int.inj (of_decide_eq_true h3); omega
      obtain ⟨ls, eS, hne⟩ := ok.txt h3
      have et : Ma.tellData k d = Ma.jn 32 (ls.map Sp08.quoted) := by unfold Ma.tellData; rw [if_neg h1, if_neg h2, if_pos h3, eS]; rfl
      rw [et] at kQ
      exact ⟨_, rfl, q, _, dx, _, _, rfl, hq, T.cl_Data, T.na_Data_front, lk_Data_front, f, d.1, ls, rfl, SqL.of hf, ok.front, eS, hne, kQ⟩
    have h3 : ¬ k = 16 := fun z => h3 (by rw [z]; rfl)
    -- if kind in LAYOUTS
    refine ⟨_, rfl, t.d_LAYOUTS, _, _, rfl, T.kd_LAYOUTS, rfl, _, rfl, ite2 (fun hin => ?_) (fun hin => ?_)⟩
    · obtain ⟨x, ex⟩ : ∃ x, Ma.layouts k = some x := by
        cases q : Ma.layouts k with
        | some x => exact ⟨x, rfl⟩
        | none => rw [lays_none (t := t) q] at hin; cases hin
      have et : Ma.tellData k d = Ma.jn 32 (Ma.decs 2 d.1 ++ d.2.1.map Sp08.Name.say ++ Ma.decs 4 d.2.2) := by unfold Ma.tellData; rw [if_neg h1, if_neg h2, if_neg h3, if_pos (by rw [ex]; rfl)]
      rw [et] at hlen kQ
      obtain ⟨ns, hns, hnp⟩ := hn
      have few := ok.few
      have c2 := Ma.chunks_count (k := 2) (b := d.1) (by decide)
      have c4 := Ma.chunks_count (k := 4) (b := d.2.2) (by decide)
      have fr := ok.front
      have bc := ok.back
      refine ⟨_, rfl, q, _, dx, _, _, rfl, hq, T.cl_Data, T.na_Data_names, lk_Data_names, nm, rfl, ⟨_, SqL.of hns⟩, fun D hD => lc_list (K := K) (a := nm) (xs := ns.map V.ref) (fun i H2 => LB BL H D H2 ((d.2.1.map Sp08.Name.say).take i) ∧ Same H H2) ⟨LB.nil upd_same, Same.upd hD⟩ (fun i H2 _ ⟨_, s2⟩ => SqL.of (s2 _ _ hns)) ?_ ?_⟩
      · rintro i x H2 hi ⟨B2, s2⟩
        obtain ⟨nd, hnd, rfl⟩ := ref_get hi
        obtain ⟨lb, hlb, hbl⟩ := paired_get hnp hnd
        have hil := (List.getElem?_eq_some_iff.mp hlb).1
        obtain ⟨xs, hD2, hxs, _, as2, exs⟩ := B2.at_
        have hxl : xs.length ≤ i := by rw [hxs, List.length_take]; omega
        refine ⟨rfl, yes_if ?_⟩
        refine ⟨_, rfl, nd, lb, rfl, LLH.mono _ _ _ _ (fun b o e => s2 b o e) hbl, ok.names lb (List.mem_of_getElem? hlb), fun H3 l s3 nn h3 => ?_⟩
        have hD3 := s3 _ _ hD2
        refine ⟨xs, hD3, by omega, ?_, fun b' o e => ?_⟩
        · rw [map_take_snoc hlb]
          exact B2.push BL.mono (fun b' o e _ => s3 b' o e) (fun b' e => s2.free e) (Nw.one nn h3) BL.one hD3
        · rw [upd_ne (ne_of_none e hD)]
          exact s3 _ _ (s2 _ _ e)
      · rintro H2 ⟨B2, s2⟩
        have e : (d.2.1.map Sp08.Name.say).take (ns.map V.ref).length = d.2.1.map Sp08.Name.say := by
          rw [List.length_map, Paired.length hnp]
          exact List.take_of_length_le (by rw [List.length_map]; exact Nat.le_refl _)
        rw [e] at B2
        obtain ⟨nas, hD2, hDp⟩ := B2.ll BL.mono
        refine ⟨_, rfl, q, _, dx, _, _, rfl, s2 _ _ hq, T.cl_Data, T.na_Data_front, lk_Data_front, f, 2, d.1, rfl, SqL.of (s2 _ _ hf), by decide, by decide, ok.front, fun H3 c3 s3 g3 => ?_⟩
        obtain ⟨as3, ha3, hp3⟩ := LLH.mono _ _ _ _ (nw_in H2 H3) g3
        have l3 : as3.length ≤ 10000 := by rw [Paired.length hp3]; unfold Ma.decs; rw [List.length_map]; omega
        have ln : nas.length ≤ 100 := by rw [Paired.length hDp, List.length_map]; omega
        refine ⟨_, rfl, c3, D, _, _, rfl, rfl, ha3, s3 _ _ hD2, by rw [List.length_map, List.length_map]; omega, fun p4 hp4 => ?_⟩
        rw [← List.map_append]
        have P4 := LLH.cat hp3 (Paired.mapP hDp fun _ _ z => BL.mono _ _ _ _ (fun b o e => s3 b o e) z) hp4
        have s4 : Same H3 (L2.upd H3 p4 (.lst ((as3 ++ nas).map V.ref))) := Same.upd hp4
        have s24 := (s2.trans s3).trans s4
        refine ⟨_, rfl, q, _, dx, _, _, rfl, s24 _ _ hq, T.cl_Data, T.na_Data_back, lk_Data_back, bk, 4, d.2.2, rfl, SqL.of (s24 _ _ hb), by decide, by decide, ok.back, fun H5 c5 s5 g5 => ?_⟩
        obtain ⟨as5, ha5, hp5⟩ := LLH.mono _ _ _ _ (nw_in _ H5) g5
        have l5 : as5.length ≤ 10000 := by rw [Paired.length hp5]; unfold Ma.decs; rw [List.length_map]; omega
        refine ⟨p4, c5, _, _, rfl, rfl, s5 _ _ upd_same, ha5, by rw [List.length_map, List.length_map, List.length_append]; omega, fun p6 hp6 => ?_⟩
        rw [← List.map_append]
        have P6 := LLH.cat (Paired.mapP P4 fun _ _ z => BL.mono _ _ _ _ (fun b o e => s5 b o e) z) hp5 hp6
        have s6 : Same H5 (L2.upd H5 p6 (.lst ((as3 ++ nas ++ as5).map V.ref))) := Same.upd hp6
        have s06 := (s24.trans s5).trans s6
        refine ⟨p6, 32, _, rfl, ⟨_, upd_same, P6⟩, hlen, fun H7 l s7 n7 h7 => ?_⟩
        exact kQ H7 l (s06.trans s7) (s06.free n7) h7
    · have ex : Ma.layouts k = none := by
        cases q : Ma.layouts k with
        | none => rfl
        | some x =>
          obtain ⟨_, u, ev, _⟩ := lays_some T q
          exact absurd (by rw [ev]; rfl) hin
      have et : Ma.tellData k d = Ma.anyText d.1 := by unfold Ma.tellData; rw [if_neg h1, if_neg h2, if_neg h3, if_neg (by rw [ex]; simp)]
      rw [et] at kQ
      exact ⟨_, rfl, q, _, dx, _, _, rfl, hq, T.cl_Data, T.na_Data_front, lk_Data_front, f, d.1, rfl, SqL.of hf, ok.front, kQ⟩
end
end Pn
end
section
set_option linter.all false
set_option Elab.async false
set_option maxRecDepth 100000
namespace Pn
open PySem L2
open TL (tl numL)
theorem sec_get {s : Nat} (h : s ≤ 3) : ∃ x : Str, ([V.str "Q", V.str "AN", V.str "NS", V.str "AR"] : List V)[s]? = some (.str x) ∧ tl x = (Sp08.sections.getD s []).map UInt8.toNat ∧ (Sp08.sections.getD s []).length ≤ 2 := by
  match s, h with
  | 0, _ => exact ⟨"Q", rfl, by decide +kernel, by decide⟩
  | 1, _ => exact ⟨"AN", rfl, by decide +kernel, by decide⟩
  | 2, _ => exact ⟨"NS", rfl, by decide +kernel, by decide⟩
  | 3, _ => exact ⟨"AR", rfl, by decide +kernel, by decide⟩
section
variable {P : Program} {w : World} {K : PySem.W.Frag} {mg : Str → Option Value} {base : Heap} {t : Ad}
def sp_tell_entry (t : Ad) : Sp := fun vs H Q _ => ∃ (q : Addr) (e : Ma.E3) (n : Nat), vs = [.ref q] ∧ EntH t H q e ∧ Ma.EOk e n ∧ (e.s ≠ 0 → Ma.DOk e.kind e.data) ∧ (e.s ≠ 0 → (Ma.tellData e.kind e.data).length ≤ 4000000) ∧ (Ma.line e).length ≤ 4000000 ∧ TB H Q (Ma.line e)
theorem ok_tell_entry (T : Txt K mg t) : Ok P w K mg base CX0 7 t.f_tell_entry ["entry"] (sp_tell_entry t) := by
  obtain ⟨fd, F, bd⟩ := T.fn_tell_entry
  obtain ⟨fd_joined, b_joined, k_joined, G_joined⟩ := ok_joined (P := P) (w := w) (base := base) T
  obtain ⟨fd_tell_data, b_tell_data, k_tell_data, G_tell_data⟩ := ok_tell_data (P := P) (w := w) (base := base) T
  obtain ⟨fd_tell_kind, b_tell_kind, k_tell_kind, G_tell_kind⟩ := ok_tell_kind (P := P) (w := w) (base := base) T
  obtain ⟨fd_tell_class, b_tell_class, k_tell_class, G_tell_class⟩ := ok_tell_class (P := P) (w := w) (base := base) T
  obtain ⟨fd_decimal, b_decimal, k_decimal, G_decimal⟩ := ok_decimal (P := P) (w := w) (base := base) T
  obtain ⟨fd_tell_name, b_tell_name, k_tell_name, G_tell_name⟩ := ok_tell_name (P := P) (w := w) (base := base) T
  obtain ⟨fd_signs, b_signs, k_signs, G_signs⟩ := ok_signs (P := P) (w := w) (base := base) T
  refine ⟨fd, bd, F.kp, F.ok sc_tell_entry (fun vs H Q E h => ?_) (fun cdv A outer s H vs Q E hr h => ?_)⟩
  · obtain ⟨q, e, n, rfl, _⟩ := h
    rfl
  · obtain ⟨q, e, n, rfl, ⟨dx, nm, hnm, hE⟩, ok, dok, dlen, hlen, kQ⟩ := h
    have bg := big
    obtain ⟨sx, hsx, etl, sle⟩ := sec_get ok.sec
    have httl : e.ttl < 2 ^ 64 := Nat.lt_trans ok.ttl (by decide)
    refine ⟨_, (pss_cons (ps_set (i := 1) sc_tell_entry.nd rfl (Or.inl rfl) (pe_lst (pa_cons (pe_call G_signs (hr.mono (by decide)) rfl T.mg_signs k_signs b_signs .nil pass0 (pa_cons (pe_ix ix_tup (pe_gv rfl T.gv_SECTION_NAMES) (pe_fld (pv 0) rfl) (fun _ _ => rfl)) pa_nil)) (pa_cons (pe_call G_tell_name (hr.mono (by decide)) rfl T.mg_tell_name k_tell_name b_tell_name .nil pass0 (pa_cons (pe_fld (pv 0) rfl) pa_nil)) pa_nil)))) (pss_cons (ps_if (pt_cmpR op_notN (pe_fld (pv 0) rfl) pe_non (nomark _)) (pss_one (ps_expr (pe_bm PySem.F.plainAttrs_list PySem.F.slot_list_append PySem.F.type_list_append mt_append (pv 1) (pa_cons (pe_call G_decimal (hr.mono (by decide)) rfl T.mg_decimal k_decimal b_decimal .nil pass0 (pa_cons (pe_fld (pv 0) rfl) pa_nil)) pa_nil)))) pss_nil) (pss_cons (ps_expr (pe_bm PySem.F.plainAttrs_list PySem.F.slot_list_append PySem.F.type_list_append mt_append (pv 1) (pa_cons (pe_call G_tell_class (hr.mono (by decide)) rfl T.mg_tell_class k_tell_class b_tell_class .nil pass0 (pa_cons (pe_fld (pv 0) rfl) pa_nil)) pa_nil))) (pss_cons (ps_expr (pe_bm PySem.F.plainAttrs_list PySem.F.slot_list_append PySem.F.type_list_append mt_append (pv 1) (pa_cons (pe_call G_tell_kind (hr.mono (by decide)) rfl T.mg_tell_kind k_tell_kind b_tell_kind .nil pass0 (pa_cons (pe_fld (pv 0) rfl) pa_nil)) pa_nil))) (pss_cons (ps_if (pt_cmpR op_notN (pe_fld (pv 0) rfl) pe_non (nomark _)) (pss_one (ps_expr (pe_bm PySem.F.plainAttrs_list PySem.F.slot_list_append PySem.F.type_list_append mt_append (pv 1) (pa_cons (pe_call G_tell_data (hr.mono (by decide)) rfl T.mg_tell_data k_tell_data b_tell_data .nil pass0 (pa_cons (pe_fld (pv 0) rfl) (pa_cons (pe_fld (pv 0) rfl) pa_nil))) pa_nil)))) pss_nil) (pss_one (ps_ret (pe_call G_joined (hr.mono (by decide)) rfl T.mg_joined k_joined b_joined .nil pass0 (pa_cons (pv 1) (pa_cons (pe_gv rfl T.gv_SPACE) pa_nil)))))))))), ?_⟩
    rcases hE with ⟨h0, hq⟩ | ⟨h0, da, hda, hq⟩
    · have hsx0 : ([V.str "Q", V.str "AN", V.str "NS", V.str "AR"] : List V)[0]? = some (.str sx) := by rw [h0] at hsx; exact hsx
      have el : Ma.line e = Ma.jn 32 ([Sp08.sections.getD e.s [], e.name.say] ++ [Sp08.classText e.cls] ++ [Sp08.typeText e.kind]) := by unfold Ma.line; rw [if_pos h0, if_pos h0]; rfl
      rw [el] at hlen kQ
      -- words = [signs(..), tell_name(..)]
      refine ⟨_, rfl, q, _, dx, _, _, rfl, hq, T.cl_Entry, T.na_Entry_section, lk_Entry_section, _, _, _, _, rfl, rfl, T.kt_SECTION_NAMES.sq, atI_nat (j := 0) hsx0, sx, _, rfl, etl, by omega, fun H1 l1 s1 n1 h1 => ?_⟩
      refine ⟨_, rfl, q, _, dx, _, _, rfl, s1 _ _ hq, T.cl_Entry, T.na_Entry_name, lk_Entry_name, nm, e.name, rfl, LLH.mono _ _ _ _ (fun b o z => s1 b o z) hnm, ok.name, fun H2 l2 s2 n2 h2 => ?_⟩
      have s02 := s1.trans s2
      refine ⟨by show 2 ≤ sizeLine; decide, fun wd hwd => ?_⟩
      have hw0 : H wd = none := s02.free hwd
      have B3 : LB BL H wd (L2.upd H2 wd (.lst [V.ref l1, V.ref l2])) [Sp08.sections.getD e.s [], e.name.say] := LB.of (as := [l1, l2]) (.cons (nw_at n1 (s2 _ _ h1)) (.cons (nw_at (s1.free n2) h2) .nil)) hwd
      have s3 : Same H (L2.upd H2 wd (.lst [V.ref l1, V.ref l2])) := s02.trans (Same.upd hwd)
      -- if entry.ttl is not None
      refine ⟨_, rfl, q, _, dx, _, _, rfl, s3 _ _ hq, T.cl_Entry, T.na_Entry_ttl, lk_Entry_ttl, rfl, _, rfl, iteF ?_⟩
      -- words.append(tell_class(entry.cls))
      refine ⟨_, rfl, .inl ⟨rfl, _, SqL.of upd_same⟩, _, rfl, q, _, dx, _, _, rfl, s3 _ _ hq, T.cl_Entry, T.na_Entry_cls, lk_Entry_cls, e.cls, rfl, ok.cls, fun H4 l4 s4 n4 h4 => ?_⟩
      have hw4 := s4 _ _ (upd_same (H := H2) (a := wd) (o := .lst [V.ref l1, V.ref l2]))
      refine ⟨wd, _, _, rfl, rfl, hw4, by show 2 < sizeLine; decide, ?_⟩
      have B4 := B3.push BL.mono (fun b' o e _ => s4 b' o e) (fun b' e => s3.free e) (Nw.one n4 h4) BL.one hw4
      have s5 : Same H (L2.upd H4 wd (.lst ([V.ref l1, V.ref l2] ++ [V.ref l4]))) := fun b' o e => by
        rw [upd_ne (ne_of_none e hw0)]
        exact s4 _ _ (s3 _ _ e)
      -- words.append(tell_kind(entry.kind))
      refine ⟨_, rfl, .inl ⟨rfl, _, SqL.of upd_same⟩, _, rfl, q, _, dx, _, _, rfl, s5 _ _ hq, T.cl_Entry, T.na_Entry_kind, lk_Entry_kind, e.kind, rfl, ok.kind, fun H6 l6 s6 n6 h6 => ?_⟩
      have hw6 := s6 _ _ (upd_same (H := H4) (a := wd) (o := .lst ([V.ref l1, V.ref l2] ++ [V.ref l4])))
      refine ⟨wd, _, _, rfl, rfl, hw6, by show 3 < sizeLine; decide, ?_⟩
      have B6 := B4.push BL.mono (fun b' o e _ => s6 b' o e) (fun b' e => s5.free e) (Nw.one n6 h6) BL.one hw6
      have s7 : Same H (L2.upd H6 wd (.lst ([V.ref l1, V.ref l2] ++ [V.ref l4] ++ [V.ref l6]))) := fun b' o e => by
        rw [upd_ne (ne_of_none e hw0)]
        exact s6 _ _ (s5 _ _ e)
      -- if entry.data is not None
      refine ⟨_, rfl, q, _, dx, _, _, rfl, s7 _ _ hq, T.cl_Entry, T.na_Entry_data, lk_Entry_data, rfl, _, rfl, iteF ?_⟩
      refine ⟨_, rfl, wd, 32, _, rfl, B6.ll BL.mono, hlen, fun H8 l8 s8 n8 h8 => ?_⟩
      exact kQ H8 l8 (s7.trans s8) (s7.free n8) h8
    · have el : Ma.line e = Ma.jn 32 ([Sp08.sections.getD e.s [], e.name.say] ++ [Sp08.dec e.ttl] ++ [Sp08.classText e.cls] ++ [Sp08.typeText e.kind] ++ [Ma.tellData e.kind e.data]) := by unfold Ma.line; rw [if_neg h0, if_neg h0]; rfl
      rw [el] at hlen kQ
      -- words = [signs(..), tell_name(..)]
      refine ⟨_, rfl, q, _, dx, _, _, rfl, hq, T.cl_Entry, T.na_Entry_section, lk_Entry_section, _, _, _, _, rfl, rfl, T.kt_SECTION_NAMES.sq, atI_nat (j := e.s) hsx, sx, _, rfl, etl, by omega, fun H1 l1 s1 n1 h1 => ?_⟩
      refine ⟨_, rfl, q, _, dx, _, _, rfl, s1 _ _ hq, T.cl_Entry, T.na_Entry_name, lk_Entry_name, nm, e.name, rfl, LLH.mono _ _ _ _ (fun b o z => s1 b o z) hnm, ok.name, fun H2 l2 s2 n2 h2 => ?_⟩
      have s02 := s1.trans s2
      refine ⟨by show 2 ≤ sizeLine; decide, fun wd hwd => ?_⟩
      have hw0 : H wd = none := s02.free hwd
      have B3 : LB BL H wd (L2.upd H2 wd (.lst [V.ref l1, V.ref l2])) [Sp08.sections.getD e.s [], e.name.say] := LB.of (as := [l1, l2]) (.cons (nw_at n1 (s2 _ _ h1)) (.cons (nw_at (s1.free n2) h2) .nil)) hwd
      have s3 : Same H (L2.upd H2 wd (.lst [V.ref l1, V.ref l2])) := s02.trans (Same.upd hwd)
      -- if entry.ttl is not None
      refine ⟨_, rfl, q, _, dx, _, _, rfl, s3 _ _ hq, T.cl_Entry, T.na_Entry_ttl, lk_Entry_ttl, rfl, _, rfl, iteT ?_⟩
      refine ⟨_, rfl, .inl ⟨rfl, _, SqL.of upd_same⟩, _, rfl, q, _, dx, _, _, rfl, s3 _ _ hq, T.cl_Entry, T.na_Entry_ttl, lk_Entry_ttl, e.ttl, rfl, httl, fun Ht lt st nt ht => ?_⟩
      have hwt := st _ _ (upd_same (H := H2) (a := wd) (o := .lst [V.ref l1, V.ref l2]))
      refine ⟨wd, _, _, rfl, rfl, hwt, by show 2 < sizeLine; decide, ?_⟩
      have Bt := B3.push BL.mono (fun b' o e _ => st b' o e) (fun b' e => s3.free e) (Nw.one nt ht) BL.one hwt
      have s3t : Same H (L2.upd Ht wd (.lst ([V.ref l1, V.ref l2] ++ [V.ref lt]))) := fun b' o e => by
        rw [upd_ne (ne_of_none e hw0)]
        exact st _ _ (s3 _ _ e)
      -- words.append(tell_class(entry.cls))
      refine ⟨_, rfl, .inl ⟨rfl, _, SqL.of upd_same⟩, _, rfl, q, _, dx, _, _, rfl, s3t _ _ hq, T.cl_Entry, T.na_Entry_cls, lk_Entry_cls, e.cls, rfl, ok.cls, fun H4 l4 s4 n4 h4 => ?_⟩
      have hw4 := s4 _ _ (upd_same (H := Ht) (a := wd) (o := .lst ([V.ref l1, V.ref l2] ++ [V.ref lt])))
      refine ⟨wd, _, _, rfl, rfl, hw4, by show 3 < sizeLine; decide, ?_⟩
      have B4 := Bt.push BL.mono (fun b' o e _ => s4 b' o e) (fun b' e => s3t.free e) (Nw.one n4 h4) BL.one hw4
      have s5 : Same H (L2.upd H4 wd (.lst ([V.ref l1, V.ref l2] ++ [V.ref lt] ++ [V.ref l4]))) := fun b' o e => by
        rw [upd_ne (ne_of_none e hw0)]
        exact s4 _ _ (s3t _ _ e)
      -- words.append(tell_kind(entry.kind))
      refine ⟨_, rfl, .inl ⟨rfl, _, SqL.of upd_same⟩, _, rfl, q, _, dx, _, _, rfl, s5 _ _ hq, T.cl_Entry, T.na_Entry_kind, lk_Entry_kind, e.kind, rfl, ok.kind, fun H6 l6 s6 n6 h6 => ?_⟩
      have hw6 := s6 _ _ (upd_same (H := H4) (a := wd) (o := .lst ([V.ref l1, V.ref l2] ++ [V.ref lt] ++ [V.ref l4])))
      refine ⟨wd, _, _, rfl, rfl, hw6, by show 4 < sizeLine; decide, ?_⟩
      have B6 := B4.push BL.mono (fun b' o e _ => s6 b' o e) (fun b' e => s5.free e) (Nw.one n6 h6) BL.one hw6
      have s7 : Same H (L2.upd H6 wd (.lst ([V.ref l1, V.ref l2] ++ [V.ref lt] ++ [V.ref l4] ++ [V.ref l6]))) := fun b' o e => by
        rw [upd_ne (ne_of_none e hw0)]
        exact s6 _ _ (s5 _ _ e)
      -- if entry.data is not None
      refine ⟨_, rfl, q, _, dx, _, _, rfl, s7 _ _ hq, T.cl_Entry, T.na_Entry_data, lk_Entry_data, rfl, _, rfl, iteT ?_⟩
      refine ⟨_, rfl, .inl ⟨rfl, _, SqL.of upd_same⟩, _, rfl, q, _, dx, _, _, rfl, s7 _ _ hq, T.cl_Entry, T.na_Entry_kind, lk_Entry_kind, _, rfl, q, _, dx, _, _, rfl, s7 _ _ hq, T.cl_Entry, T.na_Entry_data, lk_Entry_data, e.kind, da, e.data, rfl, DatH.mono _ _ _ _ (fun b o z => s7 b o z) hda, dok h0, dlen h0, fun H8 l8 s8 n8 h8 => ?_⟩
      have hw8 := s8 _ _ (upd_same (H := H6) (a := wd) (o := .lst ([V.ref l1, V.ref l2] ++ [V.ref lt] ++ [V.ref l4] ++ [V.ref l6])))
      refine ⟨wd, _, _, rfl, rfl, hw8, by show 5 < sizeLine; decide, ?_⟩
      have B8 := B6.push BL.mono (fun b' o e _ => s8 b' o e) (fun b' e => s7.free e) (Nw.one n8 h8) BL.one hw8
      have s9 : Same H (L2.upd H8 wd (.lst ([V.ref l1, V.ref l2] ++ [V.ref lt] ++ [V.ref l4] ++ [V.ref l6] ++ [V.ref l8]))) := fun b' o e => by
        rw [upd_ne (ne_of_none e hw0)]
        exact s8 _ _ (s7 _ _ e)
      refine ⟨_, rfl, wd, 32, _, rfl, B8.ll BL.mono, hlen, fun Hz lz sz nz hz => ?_⟩
      exact kQ Hz lz (s9.trans sz) (s9.free nz) hz
theorem jn_last_len (s : UInt8) (xs : List Sp08.Bytes) (x : Sp08.Bytes) : x.length ≤ (Ma.jn s (xs ++ [x])).length := by
  rw [Ma.jn_snoc]
  split
  · exact Nat.le_refl _
  · rw [List.length_append, List.length_cons]
    omega
theorem lines_take {es : List Ma.E3} {i : Nat} {e : Ma.E3} (h : es[i]? = some e) : Ma.lines (es.take (i + 1)) = Ma.lines (es.take i) ++ (Ma.line e ++ [10]) := by
  obtain ⟨hl, he⟩ := List.getElem?_eq_some_iff.mp h
  rw [List.take_succ_eq_append_getElem hl, he]
  unfold Ma.lines
  rw [List.flatMap_append]
  simp
theorem lines_le (es : List Ma.E3) (i : Nat) : (Ma.lines (es.take i)).length ≤ (Ma.lines es).length := by
  conv => rhs; rw [← List.take_append_drop i es]
  unfold Ma.lines
  rw [List.flatMap_append, List.length_append]
  omega
def sp_tell_message (t : Ad) : Sp := fun vs H Q _ => ∃ (q : Addr) (M : Ma.M3), vs = [.ref q] ∧ MesH t H q M ∧ Ma.MOk M ∧ Ma.AllD M.es ∧ TB H Q (Ma.told M)
theorem ok_tell_message (T : Txt K mg t) : Ok P w K mg base CX0 8 t.f_tell_message ["message"] (sp_tell_message t) := by
  obtain ⟨fd, F, bd⟩ := T.fn_tell_message
  obtain ⟨fd_tell_entry, b_tell_entry, k_tell_entry, G_tell_entry⟩ := ok_tell_entry (P := P) (w := w) (base := base) T
  obtain ⟨fd_tell_head, b_tell_head, k_tell_head, G_tell_head⟩ := ok_tell_head (P := P) (w := w) (base := base) T
  refine ⟨fd, bd, F.kp, F.ok sc_tell_message (fun vs H Q E h => ?_) (fun cdv A outer s H vs Q E hr h => ?_)⟩
  · obtain ⟨q, M, rfl, _⟩ := h
    rfl
  · obtain ⟨q, M, rfl, hM, mok, mall, kQ⟩ := h
    have bg := big
    obtain ⟨dx, ea, hq, as, hea, hp⟩ := id hM
    have hl := Ma.head_len (flags := M.flags) mok.id
    have tl' := mok.all.sum
    refine ⟨_, (pss_cons (ps_set (i := 1) sc_tell_message.nd rfl (Or.inl rfl) (pe_call G_tell_head (hr.mono (by decide)) rfl T.mg_tell_head k_tell_head b_tell_head .nil pass0 (pa_cons (pv 0) pa_nil))) (pss_cons (ps_expr (pe_bm PySem.F.plainAttrs_list PySem.F.slot_list_append PySem.F.type_list_append mt_append (pv 1) (pa_cons (pe_gv rfl T.gv_LINE_FEED) pa_nil))) (pss_cons (ps_for PassesOwn.never rfl (pi_list (pe_fld (pv 0) rfl)) (pg_name (i := 2) sc_tell_message.nd rfl (Or.inl rfl)) (pss_cons (ps_expr (pe_bm PySem.F.plainAttrs_list PySem.F.slot_list_extend PySem.F.type_list_extend mt_extend (pv 1) (pa_cons (pe_call G_tell_entry (hr.mono (by decide)) rfl T.mg_tell_entry k_tell_entry b_tell_entry .nil pass0 (pa_cons (pv 2) pa_nil)) pa_nil))) (pss_one (ps_expr (pe_bm PySem.F.plainAttrs_list PySem.F.slot_list_append PySem.F.type_list_append mt_append (pv 1) (pa_cons (pe_gv rfl T.gv_LINE_FEED) pa_nil)))))) (pss_one (ps_ret (pv 1)))))), ?_⟩
    -- told = tell_head(message); told.append(LINE_FEED)
    refine ⟨_, rfl, q, M, rfl, hM, mok.id, mok.flags, fun H1 l s1 n1 h1 => ?_⟩
    refine ⟨_, rfl, .inl ⟨rfl, _, SqL.of h1⟩, l, _, _, rfl, rfl, h1, by rw [List.length_map]; omega, ?_⟩
    have s2 : Same H (L2.upd H1 l (.lst (iv (Ma.head M.id M.flags) ++ [V.int 10]))) := fun b' o e => by
      rw [upd_ne (ne_of_none e n1)]
      exact s1 _ _ e
    -- for entry in message.entries
    refine ⟨_, rfl, q, _, dx, _, _, rfl, s2 _ _ hq, T.cl_Message, T.na_Message_entries, lk_Message_entries, ea, rfl, ⟨_, SqL.of (s2 _ _ hea)⟩, for_list (K := K) (a := ea) (xs := as.map V.ref)
      (fun i σ H2 => ∃ v : Option V, σ = [some (.ref q), some (.ref l), v] ∧ Same H H2 ∧ H2 l = some (.lst (iv (Ma.head M.id M.flags ++ [10] ++ Ma.lines (M.es.take i)))))
      ⟨none, rfl, s2, ?_⟩ (fun i σ H2 _ ⟨_, _, s, _⟩ => SqL.of (s _ _ hea)) ?_ ?_⟩
    · rw [upd_same]
      simp [Ma.lines]
    · rintro i y σ H2 hi ⟨v, rfl, s3, h3⟩
      obtain ⟨nd, hnd, rfl⟩ := ref_get hi
      obtain ⟨e, he, hen⟩ := paired_get hp hnd
      obtain ⟨n, eok, eln⟩ := mok.all.each e (List.mem_of_getElem? he)
      have lt := lines_take he
      have le := lines_le M.es (i + 1)
      have ll := congrArg List.length lt
      rw [List.length_append, List.length_append, List.length_cons, List.length_nil] at ll
      have lln : (Ma.line e).length ≤ 4000000 := by omega
      have dln : e.s ≠ 0 → (Ma.tellData e.kind e.data).length ≤ 4000000 := fun h0 => by
        have jn := jn_last_len 32 ([Sp08.sections.getD e.s [], e.name.say] ++ (if e.s = 0 then [] else [Sp08.dec e.ttl]) ++ [Sp08.classText e.cls, Sp08.typeText e.kind]) (Ma.tellData e.kind e.data)
        have el : Ma.line e = Ma.jn 32 ([Sp08.sections.getD e.s [], e.name.say] ++ (if e.s = 0 then [] else [Sp08.dec e.ttl]) ++ [Sp08.classText e.cls, Sp08.typeText e.kind] ++ [Ma.tellData e.kind e.data]) := by
          unfold Ma.line
          rw [if_neg (c := e.s = 0) (t := []) (e := [Ma.tellData e.kind e.data]) h0]
        rw [← el] at jn
        exact Nat.le_trans jn lln
      refine ⟨_, rfl, .inl ⟨rfl, _, SqL.of h3⟩, _, rfl, nd, e, n, rfl, EntH.mono _ _ _ _ (fun b o z => s3 b o z) hen, eok, mall e (List.mem_of_getElem? he), dln, lln, fun H4 l4 s4 n4 h4 => ?_⟩
      have nl : l4 ≠ l := Ne.symm (ne_of_none h3 n4)
      have len3 : (iv (Ma.head M.id M.flags ++ [10] ++ Ma.lines (M.es.take i))).length = (Ma.head M.id M.flags).length + 1 + (Ma.lines (M.es.take i)).length := by
        rw [List.length_map, List.length_append, List.length_append, List.length_cons, List.length_nil]
      refine ⟨l, l4, _, _, rfl, rfl, s4 _ _ h3, h4, by rw [len3, List.length_map]; omega, ?_⟩
      refine ⟨_, rfl, .inl ⟨rfl, _, SqL.of upd_same⟩, l, _, _, rfl, rfl, upd_same, by rw [List.length_append, len3, List.length_map]; omega, ?_⟩
      refine ⟨_, rfl, fun b' o z => ?_, ?_⟩
      · rw [upd_ne (ne_of_none z n1), upd_ne (ne_of_none z n1)]
        exact s4 _ _ (s3 _ _ z)
      · rw [upd_same, lt]
        simp
    · rintro σ H2 ⟨v, rfl, s3, h3⟩
      rw [List.length_map, Paired.length hp, List.take_length] at h3
      exact ⟨_, rfl, kQ H2 l s3 n1 h3⟩
end
end Pn
end
section
set_option linter.all false
set_option Elab.async false
set_option maxRecDepth 100000
namespace Pn
open PySem L2
section
variable {P : Program} {w : World} {K : PySem.W.Frag} {mg : Str → Option Value} {base : Heap} {t : Ad}
theorem bi_iv (b : Sp08.Bytes) : (Ma.bi b).map V.int = iv b := by
  unfold Ma.bi
  rw [List.map_map]
  rfl
def sp_text (K : PySem.W.Frag) : Sp := fun vs H Q _ => ∃ (most : Int) (ma : Addr) (m : Sp08.Bytes), vs = [.int most, .ref ma] ∧ SqL K H ma (iv m) ∧ (∀ H' l, H' l = some (.lst ((Ma.due most m).map V.int)) → Q (.ref l) H')
theorem run_text (T : Txt K mg t) {fd : FuncData} (F : Fun K "text" "text" s_text t.f_text fd) : FnOk P w K mg base CX0 9 t.f_text fd ["most", "message"] (sp_text K) := by
  obtain ⟨fd_tell_message, b_tell_message, k_tell_message, G_tell_message⟩ := ok_tell_message (P := P) (w := w) (base := base) T
  obtain ⟨fd_read_message, b_read_message, k_read_message, G_read_message⟩ := ok_read_message (P := P) (w := w) (base := base) T
  refine F.ok sc_text (fun vs H Q E h => ?_) (fun cdv A outer s H vs Q E hr h => ?_)
  · obtain ⟨most, ma, m, rfl, _⟩ := h
    rfl
  · obtain ⟨most, ma, m, rfl, hS, kQ⟩ := h
    have bg := big
    let Ex : XK := fun _ _ _ => Ma.read3 m = none
    refine ⟨_, (pss_cons (ps_if (pt_cmpR op_gt (pe_callB call_len_seq rfl T.nb_len PySem.boot_len (pa_cons (pv 1) pa_nil)) (pe_gv rfl T.gv_MOST_BYTES) (nomark _)) (pss_one (ps_ret (pe_lst (pa_cons (pe_gv rfl T.gv_WRONG) pa_nil)))) pss_nil) (pss_cons (ps_try (Ex := Ex) ⟨rfl, rfl, rfl⟩ (fun _ => PassesOwnAt.never) T.ex_NotMessage rfl (fun _ _ hP => (pss_one (ps_set (i := 2) sc_text.nd rfl (Or.inl rfl) (pe_call G_tell_message (hr.mono (by decide)) rfl T.mg_tell_message k_tell_message b_tell_message .nil pass0 (pa_cons (pe_call G_read_message (hr.mono (by decide)) rfl T.mg_read_message k_read_message b_read_message .nil hP (pa_cons (pv 1) pa_nil)) pa_nil))))) (fun _ => (pss_one (ps_ret (pe_lst (pa_cons (pe_gv rfl T.gv_WRONG) pa_nil)))))) (pss_cons (ps_if (pt_cmpR op_gt (pe_callB call_len_seq rfl T.nb_len PySem.boot_len (pa_cons (pv 2) pa_nil)) (pv 0) (nomark _)) (pss_one (ps_ret (pe_lst (pa_cons (pe_gv rfl T.gv_TOO_MUCH) pa_nil)))) pss_nil) (pss_one (ps_ret (pe_op op_cat (pe_lst (pa_cons (pe_callB call_len_seq rfl T.nb_len PySem.boot_len (pa_cons (pv 2) pa_nil)) pa_nil)) (pv 2))))))), ?_⟩
    refine ⟨_, rfl, ma, _, rfl, .inl hS, _, _, rfl, rfl, _, rfl, ite2 (fun h1 => ?_) (fun h1 => ?_)⟩
    · have h1 : 4096 < m.length := by
        have := of_decide_eq_true h1
        rw [List.length_map] at this
        omega
      refine ⟨by show 1 ≤ sizeLine; decide, fun l hl => kQ _ l ?_⟩
      rw [upd_same]
      unfold Ma.due
      rw [if_pos h1]
      rfl
    have h1 : ¬ 4096 < m.length := fun z => h1 (decide_eq_true (by rw [List.length_map]; omega))
    refine ⟨?_, fun σ' H' _ hx => ?_⟩
    · refine ⟨_, rfl, ma, m, rfl, hS, by omega, fun hn _ => hn, fun M hM H1 q s1 g1 => ?_⟩
      have mok := Ma.read3_ok (by omega) hM
      have tl := Ma.told_len mok
      refine ⟨q, M, rfl, MesH.mono _ _ _ _ (nw_in H H1) g1, mok, Ma.read3_dok (by omega) hM, fun H2 l2 s2 n2 h2 => ?_⟩
      have ed : Ma.due most m = if most < ((Ma.told M).length : Int) then [-2] else ((Ma.told M).length : Int) :: Ma.bi (Ma.told M) := by
        unfold Ma.due
        rw [if_neg h1, hM]
      refine ⟨_, rfl, l2, _, rfl, .inl (SqL.of h2), _, rfl, _, _, rfl, rfl, _, rfl, ite2 (fun h3 => ?_) (fun h3 => ?_)⟩
      · have h3 : most < ((Ma.told M).length : Int) := by
          have := of_decide_eq_true h3
          rw [List.length_map] at this
          omega
        refine ⟨by show 1 ≤ sizeLine; decide, fun l hl => kQ _ l ?_⟩
        rw [upd_same, ed, if_pos h3]
        rfl
      · have h3 : ¬ most < ((Ma.told M).length : Int) := fun z => h3 (decide_eq_true (by rw [List.length_map]; omega))
        refine ⟨_, rfl, l2, _, rfl, .inl (SqL.of h2), by show 1 ≤ sizeLine; decide, fun l hl => ?_⟩
        refine ⟨_, rfl, l, l2, _, _, rfl, rfl, upd_same, by rw [upd_ne (ne_of_none h2 hl)]; exact h2, by simp only [List.length_cons, List.length_nil, List.length_map]; omega, fun p hp => kQ _ p ?_⟩
        rw [upd_same, ed, if_neg h3, List.map_cons, bi_iv, List.length_map]
        rfl
    · refine ⟨by show 1 ≤ sizeLine; decide, fun l hl => kQ _ l ?_⟩
      have hx : Ma.read3 m = none := hx
      rw [upd_same]
      unfold Ma.due
      rw [if_neg h1, hx]
      rfl
end
end Pn
end
section
set_option linter.all false
set_option Elab.async false
set_option maxRecDepth 100000
namespace L2
open PySem PySem.Spec PyProof.Rows
theorem ints_vals : ∀ {rs : List Int} {us : List Value}, Vals (rs.map V.int) us → IntsAre us rs
  | [], _, .nil => .nil
  | _ :: _, _, .cons h t => by
    obtain ⟨k, rfl⟩ := h
    exact .cons _ _ (ints_vals t)
/-- what the call of a def with an int and a list of ints tells: a list of ints -/
def Told (s₁ : Shared) (rs : List Int) (r : Result) (s' : Shared) : Prop :=
  (∃ (l : Addr) (us : List Value) (n : Nat), r = .ok (.ret (.ref l)) ∧ s'.heap.get? l = some { cls := .type "list", data := .seq us.toArray n } ∧ IntsAre us rs) ∧ OldK s₁.heap s'.heap ∧ s'.os = s₁.os ∧ AllBare s'.gens
section
variable {P : Program} {w : World} {K : PySem.W.Frag} {mg mb : Str → Option Value} {k : Nat} {fa a : Addr} {fd : FuncData} {x y : Str} {sp : Sp} {s₁ : Shared} {vs : List Value} {ns rs : List Int} {i : Int} {tk : Tok}
/-- from an abstract heap that holds at most the list, frozen -/
theorem two_core (KX : K.In s₁.heap) (hns : s₁.heap.Ns mainGlobals mg) (hb : s₁.heap.Ns builtinsNs mb) (hbb : ∀ x : Str, x ≠ "__name__" → mb x = bootBuiltins x) (hlim : s₁.heap.NoLimit) (hg : s₁.gens = #[])
    (ha : s₁.heap.get? a = some { cls := .type "list", data := .seq vs.toArray }) (hr : Room k callerA)
    (F : ∀ base : Heap, FnOk P w K mg base CX0 k fa fd [x, y] sp) (hbind : ∀ u v : Value, BindsTo s₁ fd ⟨[u, v], []⟩ [(x, u), (y, v)])
    (H : Hp) (hO : Only H) (hsp : sp [.int i, .ref a] H (fun v H' => ∃ l, v = .ref l ∧ H' l = some (.lst (rs.map V.int))) fun _ _ _ => False) (hok : HOk P w H s₁.heap) (hA : ∀ b, H b ≠ none → b = a) (hK : H a ≠ none → K.lookup a = none) :
    codeAny (model P w) callerA (.call (.ref fa) ⟨[.int i tk, .ref a], []⟩) (Told s₁ rs) s₁ := by
  have free : ∀ {b : Addr}, b ≠ a → H b = none := fun {b} nb => by
    cases q : H b with
    | none => rfl
    | some u => exact absurd (hA b (by rw [q]; simp)) nb
  have nsK : ∀ {b : Addr} {m : Str → Option Value}, s₁.heap.Ns b m → (hidT s₁.heap H).Ns b m := fun {b m} ⟨o, es, ep, e, d, r⟩ => ⟨o, es, ep, hidT_get e (free fun z => by
    subst z
    rw [ha] at e
    cases e
    have d' : Data.seq vs.toArray _ = Data.dict es ep := d
    cases d'), d, r⟩
  have hKb : K.In (hidT s₁.heap H) := fun b o e => hidT_get (KX b o e) (by
    cases q : H b with
    | none => rfl
    | some u =>
      have e' : b = a := hA b (by rw [q]; simp)
      subst e'
      rw [hK (by rw [q]; simp)] at e
      cases e)
  have hM : Mod K mg (hidT s₁.heap H) := ⟨hKb, nsK hns, ⟨mb, nsK hb, hbb⟩, let ⟨mc, h1, h2⟩ := hlim; ⟨mc, nsK h1, h2⟩⟩
  have e0 : Env0 P w K mg (hidT s₁.heap H) callerA [] s₁ H := ⟨rfl, hM, fun b o e => of_hidT e, Nat.le_of_eq (hidT_size _ _), trivial, fun b hb => absurd (show b ∈ ([] : List Addr) from hb) (by simp), hok, .of_eq hg⟩
  refine codeAny_mono ((F _).run callerA [] s₁ H ⟨[.int i tk, .ref a], []⟩ [.int i tk, .ref a] [.int i, .ref a] _ _ hr e0 (hbind _ _) (.cons ⟨tk, rfl⟩ (.cons rfl .nil)) hsp) fun r s' h => ?_
  cases r with
  | error e => exact False.elim h
  | ok fl =>
    cases fl with
    | next => exact False.elim h
    | brk => exact False.elim h
    | cont => exact False.elim h
    | ret u =>
      obtain ⟨v, H', os, bare, un, hok', r', l, ev, hl⟩ := h
      subst ev
      obtain rfl : u = Value.ref l := r'
      obtain ⟨_, us, n, rv, e⟩ := hok' l _ hl
      refine ⟨⟨l, us, n, rfl, e, ints_vals rv⟩, OldK.of_keep fun b o e => ?_, os, bare⟩
      cases q : H b with
      | none => exact un.keep b o e q (by intro z; exact absurd (show b ∈ ([] : List Addr) from z) (by simp)) (by simp)
      | some u =>
        rcases hO b with z | ⟨ob, xs, z⟩
        · rw [q] at z
          cases z
        · obtain ⟨e1, _⟩ := hok b _ z
          obtain ⟨e2, _⟩ := hok' b _ (un.frzs b ob _ z)
          rw [e] at e1
          cases e1
          exact e2
theorem two_call (KX : K.In s₁.heap) (hns : s₁.heap.Ns mainGlobals mg) (hb : s₁.heap.Ns builtinsNs mb) (hbb : ∀ x : Str, x ≠ "__name__" → mb x = bootBuiltins x) (hlim : s₁.heap.NoLimit) (hg : s₁.gens = #[])
    (ha : s₁.heap.get? a = some { cls := .type "list", data := .seq vs.toArray }) (hi : IntsAre vs ns) (hl : ns.length ≤ sizeLine) (hr : Room k callerA)
    (F : ∀ base : Heap, FnOk P w K mg base CX0 k fa fd [x, y] sp) (hbind : ∀ u v : Value, BindsTo s₁ fd ⟨[u, v], []⟩ [(x, u), (y, v)])
    (hsp : ∀ H : Hp, SqL K H a (ns.map V.int) → sp [.int i, .ref a] H (fun v H' => ∃ l, v = .ref l ∧ H' l = some (.lst (rs.map V.int))) fun _ _ _ => False) :
    codeAny (model P w) callerA (.call (.ref fa) ⟨[.int i tk, .ref a], []⟩) (Told s₁ rs) s₁ := by
  have rv := vals_ints hi
  have lenV := hi.length
  cases hk : K.lookup a with
  | some o =>
    have e := KX a o hk
    rw [ha] at e
    cases e
    exact two_core KX hns hb hbb hlim hg ha hr F hbind (fun _ => none) (fun _ => .inl rfl) (hsp _ (.inr ⟨_, vs.toArray, _, hk, rfl, rfl, rfl, by rw [List.size_toArray, lenV]; exact hl, by simpa using rv⟩)) (fun b u z => nomatch z) (fun b z => absurd rfl z) fun z => absurd rfl z
  | none =>
    refine two_core KX hns hb hbb hlim hg ha hr F hbind (fun b => if b = a then some (.frz { cls := .type "list", data := .seq vs.toArray } (.lst (ns.map V.int))) else none) (fun b => ?_) (hsp _ (.inl (.inr ⟨{ cls := .type "list", data := .seq vs.toArray }, if_pos rfl⟩))) (fun b u z => ?_) (fun b z => ?_) fun _ => hk
    · by_cases q : b = a
      · exact .inr ⟨_, _, if_pos q⟩
      · exact .inl (if_neg q)
    · by_cases q : b = a
      · have z' := (if_pos q).symm.trans z
        cases z'
        subst q
        exact ⟨ha, by rw [List.length_map]; exact hl, vs, _, rv, ha⟩
      · have z' := (if_neg q).symm.trans z
        cases z'
    · by_cases q : b = a
      · exact q
      · exact absurd (if_neg q) z
end
end L2
namespace Os
open PySem PySem.W
/-- an int and a list of ints, between bounds: what the codecs make of them -/
theorem dec2 {lo hi lo2 hi2 k : Int} {least most : Nat} {ns : List Int} (h : (Codec.decAll [.int lo hi, .list least most (.int lo2 hi2)] [WData.int k, WData.list (ns.map WData.int)]).isSome = true) :
    Codec.decAll [.int lo hi, .list least most (.int lo2 hi2)] [WData.int k, WData.list (ns.map WData.int)] = some (k, ns, ()) ∧ ns.length ≤ most ∧ ∀ z ∈ ns, lo2 ≤ z ∧ z ≤ hi2 := by
  have e : Codec.decAll [.int lo hi, .list least most (.int lo2 hi2)] [WData.int k, WData.list (ns.map WData.int)] =
      Codec.both Prod.mk (if Codec.inInt lo hi k = true then some k else none) (Codec.decAll [.list least most (.int lo2 hi2)] [WData.list (ns.map WData.int)]) := rfl
  have ep : WData.list (ns.map WData.int) = ofPy (PyData.list (ns.map PyData.int)) := by
    show _ = WData.list (ofPys (ns.map PyData.int))
    rw [ofPys_ints]
  rw [e] at h ⊢
  cases h1 : Codec.inInt lo hi k with
  | false =>
    rw [h1] at h
    cases h
  | true =>
    have h2 : (Codec.decAll [.list least most (.int lo2 hi2)] [WData.list (ns.map WData.int)]).isSome = true := by
      cases q : Codec.decAll [.list least most (.int lo2 hi2)] [WData.list (ns.map WData.int)] with
      | some z => rfl
      | none =>
        rw [h1, q] at h
        cases h
    rw [ep] at h2 ⊢
    obtain ⟨e2, _, most, items⟩ := os_dec_ints h2
    rw [e2]
    exact ⟨rfl, most, items⟩
end Os
end
section
set_option linter.all false
set_option Elab.async false
set_option maxRecDepth 100000
set_option genInjectivity false
set_option genSizeOf false
set_option genSizeOfSpec false
namespace Pn
open PySem L2
/-- every parameter of the def is given -/
def BindsAll (x qual : Str) (st : Stmt) (ps : List Str) : Prop := ∀ (kV doc pm : Value) (an : Option Addr) (cdv ct : Value) (us : List Value), us.length = ps.length →
  bindArgs (PySem.W.fnOf x qual (defArgs st) (defBody st) (defScope st) .none kV doc pm an cdv ct) ⟨us, []⟩ = pure (ps.zip us)
theorem bi1 {x qual : Str} {st : Stmt} {p0 : Str} (h : ∀ (kV doc pm : Value) (an : Option Addr) (cdv ct : Value) (u0 : Value), bindArgs (PySem.W.fnOf x qual (defArgs st) (defBody st) (defScope st) .none kV doc pm an cdv ct) ⟨[u0], []⟩ = pure ([p0].zip [u0])) : BindsAll x qual st [p0] :=
  fun kV doc pm an cdv ct us hl => match us, hl with | [u0], _ => h kV doc pm an cdv ct u0
theorem bi2 {x qual : Str} {st : Stmt} {p0 p1 : Str} (h : ∀ (kV doc pm : Value) (an : Option Addr) (cdv ct : Value) (u0 u1 : Value), bindArgs (PySem.W.fnOf x qual (defArgs st) (defBody st) (defScope st) .none kV doc pm an cdv ct) ⟨[u0, u1], []⟩ = pure ([p0, p1].zip [u0, u1])) : BindsAll x qual st [p0, p1] :=
  fun kV doc pm an cdv ct us hl => match us, hl with | [u0, u1], _ => h kV doc pm an cdv ct u0 u1
theorem bi4 {x qual : Str} {st : Stmt} {p0 p1 p2 p3 : Str} (h : ∀ (kV doc pm : Value) (an : Option Addr) (cdv ct : Value) (u0 u1 u2 u3 : Value), bindArgs (PySem.W.fnOf x qual (defArgs st) (defBody st) (defScope st) .none kV doc pm an cdv ct) ⟨[u0, u1, u2, u3], []⟩ = pure ([p0, p1, p2, p3].zip [u0, u1, u2, u3])) : BindsAll x qual st [p0, p1, p2, p3] :=
  fun kV doc pm an cdv ct us hl => match us, hl with | [u0, u1, u2, u3], _ => h kV doc pm an cdv ct u0 u1 u2 u3
theorem bi7 {x qual : Str} {st : Stmt} {p0 p1 p2 p3 p4 p5 p6 : Str} (h : ∀ (kV doc pm : Value) (an : Option Addr) (cdv ct : Value) (u0 u1 u2 u3 u4 u5 u6 : Value), bindArgs (PySem.W.fnOf x qual (defArgs st) (defBody st) (defScope st) .none kV doc pm an cdv ct) ⟨[u0, u1, u2, u3, u4, u5, u6], []⟩ = pure ([p0, p1, p2, p3, p4, p5, p6].zip [u0, u1, u2, u3, u4, u5, u6])) : BindsAll x qual st [p0, p1, p2, p3, p4, p5, p6] :=
  fun kV doc pm an cdv ct us hl => match us, hl with | [u0, u1, u2, u3, u4, u5, u6], _ => h kV doc pm an cdv ct u0 u1 u2 u3 u4 u5 u6
theorem def_mk {K : PySem.W.Frag} {x qual : Str} {st : Stmt} {f : Addr} {ps : List Str} (hb : BindsAll x qual st ps) {oc : Value} {od an : Option Addr} {osl : Array (Option Value)} {kV doc pm cdv ct : Value}
    (l : K.lookup f = some ⟨oc, od, .func (PySem.W.fnOf x qual (defArgs st) (defBody st) (defScope st) .none kV doc pm an cdv ct), osl⟩) (c : PySem.W.codeIn K cdv qual = true) (k : PySem.W.keepIn K (.ref f) = true) : Def K x qual st f ps :=
  ⟨_, fun_mk (st := st) l c k, (fun_mk (st := st) l c k).binds hb⟩
theorem na_mk {K : PySem.W.Frag} {C : Addr} {f : Str} (e : PySem.W.findIn K (.ref C) f = some none) : NoAttr K C f := e
theorem gv_int {K : PySem.W.Frag} {h : Heap} {mg : Str → Option Value} {x : Str} {i : Int} {t : Tok} (X : K.In h) (G : h.Ns mainGlobals mg) (a : PySem.W.nsIn K mainGlobals x = some (some (.int i t))) : GV mg x (.int i) := ⟨_, PySem.W.mg_of X G a, ⟨_, rfl⟩⟩
theorem gv_str {K : PySem.W.Frag} {h : Heap} {mg : Str → Option Value} {x y : Str} {t : Tok} (X : K.In h) (G : h.Ns mainGlobals mg) (a : PySem.W.nsIn K mainGlobals x = some (some (.str y t))) : GV mg x (.str y) := ⟨_, PySem.W.mg_of X G a, ⟨_, rfl⟩⟩
abbrev KDp (es : Array DictEntry) (kvs : List (Int × V)) : Prop := Paired (fun (e : DictEntry) (kv : Int × V) => (∃ t, e.key = .int kv.1 t) ∧ e.hash = hashInt kv.1 ∧ RelV kv.2 e.val) es.toList kvs
theorem kd_mk {K : PySem.W.Frag} {d : Addr} {es : Array DictEntry} {ep : Nat} {kvs : List (Int × V)} (l : K.lookup d = some ⟨.type "dict", none, .dict es ep, #[]⟩) (s : (d == sysModules) = false) (n : (kvs.map (·.1)).Nodup) (p : KDp es kvs) : KD K d kvs := ⟨es, ep, l, s, n, p⟩
theorem kt_mk {K : PySem.W.Frag} {a : Addr} {oc : Value} {od : Option Addr} {its : Array Value} {n : Nat} {sl : Array (Option Value)} {xs : List V} (l : K.lookup a = some ⟨oc, od, .seq its n, sl⟩) (c : oc = .type "tuple") (z : its.size ≤ sizeLine) (w : Vals xs its.toList) : KT0 K a xs := ⟨_, its, n, l, c, rfl, z, w⟩
theorem bi_Message_init : BindsAll "__init__" "Message.__init__" s_Message_init ["self", "number", "flags", "entries"] := bi4 fun _ _ _ _ _ _ _ _ _ _ => rfl
theorem bi_Entry_init : BindsAll "__init__" "Entry.__init__" s_Entry_init ["self", "section", "name", "kind", "cls", "ttl", "data"] := bi7 fun _ _ _ _ _ _ _ _ _ _ _ _ _ => rfl
theorem bi_Data_init : BindsAll "__init__" "Data.__init__" s_Data_init ["self", "front", "names", "back"] := bi4 fun _ _ _ _ _ _ _ _ _ _ => rfl
theorem bi_Reader_init : BindsAll "__init__" "Reader.__init__" s_Reader_init ["self", "message", "at", "end"] := bi4 fun _ _ _ _ _ _ _ _ _ _ => rfl
theorem bi_Reader_pass_over : BindsAll "pass_over" "Reader.pass_over" s_Reader_pass_over ["self", "size"] := bi2 fun _ _ _ _ _ _ _ _ => rfl
theorem bi_Reader_take_byte : BindsAll "take_byte" "Reader.take_byte" s_Reader_take_byte ["self"] := bi1 fun _ _ _ _ _ _ _ => rfl
theorem bi_Reader_take_bytes : BindsAll "take_bytes" "Reader.take_bytes" s_Reader_take_bytes ["self", "size"] := bi2 fun _ _ _ _ _ _ _ _ => rfl
theorem bi_Reader_take_number : BindsAll "take_number" "Reader.take_number" s_Reader_take_number ["self", "size"] := bi2 fun _ _ _ _ _ _ _ _ => rfl
theorem bi_Reader_take_part : BindsAll "take_part" "Reader.take_part" s_Reader_take_part ["self", "size"] := bi2 fun _ _ _ _ _ _ _ _ => rfl
theorem bi_Reader_take_name : BindsAll "take_name" "Reader.take_name" s_Reader_take_name ["self"] := bi1 fun _ _ _ _ _ _ _ => rfl
theorem bi_Reader_take_label : BindsAll "take_label" "Reader.take_label" s_Reader_take_label ["self", "size"] := bi2 fun _ _ _ _ _ _ _ _ => rfl
theorem bi_Reader_take_string : BindsAll "take_string" "Reader.take_string" s_Reader_take_string ["self"] := bi1 fun _ _ _ _ _ _ _ => rfl
theorem bi_Reader_take_rest : BindsAll "take_rest" "Reader.take_rest" s_Reader_take_rest ["self"] := bi1 fun _ _ _ _ _ _ _ => rfl
theorem bi_Reader_check_done : BindsAll "check_done" "Reader.check_done" s_Reader_check_done ["self"] := bi1 fun _ _ _ _ _ _ _ => rfl
theorem bi_number_of : BindsAll "number_of" "number_of" s_number_of ["digits"] := bi1 fun _ _ _ _ _ _ _ => rfl
theorem bi_read_message : BindsAll "read_message" "read_message" s_read_message ["message"] := bi1 fun _ _ _ _ _ _ _ => rfl
theorem bi_read_entry : BindsAll "read_entry" "read_entry" s_read_entry ["reader", "section"] := bi2 fun _ _ _ _ _ _ _ _ => rfl
theorem bi_read_data : BindsAll "read_data" "read_data" s_read_data ["part", "kind"] := bi2 fun _ _ _ _ _ _ _ _ => rfl
theorem bi_read_layout : BindsAll "read_layout" "read_layout" s_read_layout ["part", "layout"] := bi2 fun _ _ _ _ _ _ _ _ => rfl
theorem bi_read_strings : BindsAll "read_strings" "read_strings" s_read_strings ["data"] := bi1 fun _ _ _ _ _ _ _ => rfl
theorem bi_signs : BindsAll "signs" "signs" s_signs ["words"] := bi1 fun _ _ _ _ _ _ _ => rfl
theorem bi_joined : BindsAll "joined" "joined" s_joined ["pieces", "between"] := bi2 fun _ _ _ _ _ _ _ _ => rfl
theorem bi_cut : BindsAll "cut" "cut" s_cut ["data", "size"] := bi2 fun _ _ _ _ _ _ _ _ => rfl
theorem bi_decimal : BindsAll "decimal" "decimal" s_decimal ["number"] := bi1 fun _ _ _ _ _ _ _ => rfl
theorem bi_decimals : BindsAll "decimals" "decimals" s_decimals ["data", "size"] := bi2 fun _ _ _ _ _ _ _ _ => rfl
theorem bi_hexadecimal : BindsAll "hexadecimal" "hexadecimal" s_hexadecimal ["data"] := bi1 fun _ _ _ _ _ _ _ => rfl
theorem bi_escaped : BindsAll "escaped" "escaped" s_escaped ["byte"] := bi1 fun _ _ _ _ _ _ _ => rfl
theorem bi_is_plain_in_name : BindsAll "is_plain_in_name" "is_plain_in_name" s_is_plain_in_name ["byte"] := bi1 fun _ _ _ _ _ _ _ => rfl
theorem bi_is_plain_in_string : BindsAll "is_plain_in_string" "is_plain_in_string" s_is_plain_in_string ["byte"] := bi1 fun _ _ _ _ _ _ _ => rfl
theorem bi_tell_label : BindsAll "tell_label" "tell_label" s_tell_label ["label"] := bi1 fun _ _ _ _ _ _ _ => rfl
theorem bi_tell_name : BindsAll "tell_name" "tell_name" s_tell_name ["labels"] := bi1 fun _ _ _ _ _ _ _ => rfl
theorem bi_tell_string : BindsAll "tell_string" "tell_string" s_tell_string ["string"] := bi1 fun _ _ _ _ _ _ _ => rfl
theorem bi_tell_strings : BindsAll "tell_strings" "tell_strings" s_tell_strings ["data"] := bi1 fun _ _ _ _ _ _ _ => rfl
theorem bi_tell_any_bytes : BindsAll "tell_any_bytes" "tell_any_bytes" s_tell_any_bytes ["data"] := bi1 fun _ _ _ _ _ _ _ => rfl
theorem bi_tell_data : BindsAll "tell_data" "tell_data" s_tell_data ["kind", "data"] := bi2 fun _ _ _ _ _ _ _ _ => rfl
theorem bi_tell_class : BindsAll "tell_class" "tell_class" s_tell_class ["cls"] := bi1 fun _ _ _ _ _ _ _ => rfl
theorem bi_tell_kind : BindsAll "tell_kind" "tell_kind" s_tell_kind ["kind"] := bi1 fun _ _ _ _ _ _ _ => rfl
theorem bi_tell_entry : BindsAll "tell_entry" "tell_entry" s_tell_entry ["entry"] := bi1 fun _ _ _ _ _ _ _ => rfl
theorem bi_tell_head : BindsAll "tell_head" "tell_head" s_tell_head ["message"] := bi1 fun _ _ _ _ _ _ _ => rfl
theorem bi_tell_message : BindsAll "tell_message" "tell_message" s_tell_message ["message"] := bi1 fun _ _ _ _ _ _ _ => rfl
theorem bi_text : BindsAll "text" "text" s_text ["most", "message"] := bi2 fun _ _ _ _ _ _ _ _ => rfl
structure Cl_Message (K : PySem.W.Frag) (C : Addr) (f_Message_init : Addr) : Prop where
  a : PySem.W.nsIn K mainGlobals "Message" = some (some (.ref C))
  cl : Cls K C
  mkr : Mk K C f_Message_init
  fn_Message_init : Def K "__init__" "Message.__init__" s_Message_init f_Message_init ["self", "number", "flags", "entries"]
  na_number : NoAttr K C "number"
  na_flags : NoAttr K C "flags"
  na_entries : NoAttr K C "entries"
structure Cl_Entry (K : PySem.W.Frag) (C : Addr) (f_Entry_init : Addr) : Prop where
  a : PySem.W.nsIn K mainGlobals "Entry" = some (some (.ref C))
  cl : Cls K C
  mkr : Mk K C f_Entry_init
  fn_Entry_init : Def K "__init__" "Entry.__init__" s_Entry_init f_Entry_init ["self", "section", "name", "kind", "cls", "ttl", "data"]
  na_section : NoAttr K C "section"
  na_name : NoAttr K C "name"
  na_kind : NoAttr K C "kind"
  na_cls : NoAttr K C "cls"
  na_ttl : NoAttr K C "ttl"
  na_data : NoAttr K C "data"
structure Cl_Data (K : PySem.W.Frag) (C : Addr) (f_Data_init : Addr) : Prop where
  a : PySem.W.nsIn K mainGlobals "Data" = some (some (.ref C))
  cl : Cls K C
  mkr : Mk K C f_Data_init
  fn_Data_init : Def K "__init__" "Data.__init__" s_Data_init f_Data_init ["self", "front", "names", "back"]
  na_front : NoAttr K C "front"
  na_names : NoAttr K C "names"
  na_back : NoAttr K C "back"
structure Cl_Reader (K : PySem.W.Frag) (C : Addr) (f_Reader_init f_Reader_pass_over f_Reader_take_byte f_Reader_take_bytes f_Reader_take_number f_Reader_take_part f_Reader_take_name f_Reader_take_label f_Reader_take_string f_Reader_take_rest f_Reader_check_done : Addr) : Prop where
  a : PySem.W.nsIn K mainGlobals "Reader" = some (some (.ref C))
  cl : Cls K C
  mkr : Mk K C f_Reader_init
  fn_Reader_init : Def K "__init__" "Reader.__init__" s_Reader_init f_Reader_init ["self", "message", "at", "end"]
  me_Reader_pass_over : Meth K C "pass_over" f_Reader_pass_over
  fn_Reader_pass_over : Def K "pass_over" "Reader.pass_over" s_Reader_pass_over f_Reader_pass_over ["self", "size"]
  me_Reader_take_byte : Meth K C "take_byte" f_Reader_take_byte
  fn_Reader_take_byte : Def K "take_byte" "Reader.take_byte" s_Reader_take_byte f_Reader_take_byte ["self"]
  me_Reader_take_bytes : Meth K C "take_bytes" f_Reader_take_bytes
  fn_Reader_take_bytes : Def K "take_bytes" "Reader.take_bytes" s_Reader_take_bytes f_Reader_take_bytes ["self", "size"]
  me_Reader_take_number : Meth K C "take_number" f_Reader_take_number
  fn_Reader_take_number : Def K "take_number" "Reader.take_number" s_Reader_take_number f_Reader_take_number ["self", "size"]
  me_Reader_take_part : Meth K C "take_part" f_Reader_take_part
  fn_Reader_take_part : Def K "take_part" "Reader.take_part" s_Reader_take_part f_Reader_take_part ["self", "size"]
  me_Reader_take_name : Meth K C "take_name" f_Reader_take_name
  fn_Reader_take_name : Def K "take_name" "Reader.take_name" s_Reader_take_name f_Reader_take_name ["self"]
  me_Reader_take_label : Meth K C "take_label" f_Reader_take_label
  fn_Reader_take_label : Def K "take_label" "Reader.take_label" s_Reader_take_label f_Reader_take_label ["self", "size"]
  me_Reader_take_string : Meth K C "take_string" f_Reader_take_string
  fn_Reader_take_string : Def K "take_string" "Reader.take_string" s_Reader_take_string f_Reader_take_string ["self"]
  me_Reader_take_rest : Meth K C "take_rest" f_Reader_take_rest
  fn_Reader_take_rest : Def K "take_rest" "Reader.take_rest" s_Reader_take_rest f_Reader_take_rest ["self"]
  me_Reader_check_done : Meth K C "check_done" f_Reader_check_done
  fn_Reader_check_done : Def K "check_done" "Reader.check_done" s_Reader_check_done f_Reader_check_done ["self"]
  na_message : NoAttr K C "message"
  na_at : NoAttr K C "at"
  na_end : NoAttr K C "end"
open PySem.W PySem.Calls PyProof.Rows in
/-- the row's walk, from the promise of text -/
theorem walk {q : Program} {loose : List Str} {XP : (Str → Option Value) → Heap → Prop} {YP : World → Heap → Prop} {d : DefRec} {K : Params → PySem.W.Frag} (hdf : d.params.defaults = [])
    (hY : ∀ (w : World) (h : Heap), YP w h → (K w.params).In h)
    (F : ∀ (w : World) (mg : Str → Option Value) (fa : Addr) (h : Heap), (K w.params).In h → h.Ns mainGlobals mg → mg d.name = some (.ref fa) →
      ∃ fd : FuncData, Binds (K w.params) fd ["most", "message"] [] ∧
        ∀ base : Heap, FnOk PySem.Challenge.pw_postnames_s01_text w (K w.params) mg base CX0 9 fa fd ["most", "message"] (sp_text (K w.params))) :
    WalkOS q loose XP YP PySem.Challenge.rw_postnames_s01_text d [] (fun f vs => PySem.call f vs) := by
  intro w s₀ s₁ mg mb G Y fa o pm cd doc dV kV ho hd hcd hD hmg hg args vals as hpre hlay hrd hwl hlo
  have hsh : WShape.hasAll [] args [.int, .list .int] = true := os_shapes args hpre
  obtain ⟨d1, r1, rfl, h1, h2⟩ := hasAllW_cons hsh
  obtain ⟨d2, r2, rfl, h3, h4⟩ := hasAllW_cons h2
  obtain rfl := hasAllW_nil h4
  obtain ⟨i, rfl⟩ := hasW_int h1
  obtain ⟨xs, rfl, h5⟩ := hasW_list h3
  obtain ⟨ns, rfl⟩ := items_int h5
  obtain ⟨ed, hmost, hit⟩ := Os.dec2 (os_pre_isSome hpre)
  have hoct : Ma.bi (Sp08Neutral.octets ns) = ns := Ma.octets_bi hit
  cases hwl with
  | cons w1 w2 =>
    cases w2 with
    | cons w2 w3 =>
      cases w3
      cases w1
      cases w2 with
      | list hobj hall =>
        have hints := Att.ints_of_wellAll ns _ hall
        have KX := hY w _ Y
        obtain ⟨fd, hb, hF⟩ := F w mg fa _ KX G.T.g hmg
        refine enter_call (codeAny_mono (two_call (rs := Ma.due i (Sp08Neutral.octets ns)) KX G.T.g G.T.b G.T.builtins G.T.nolimit hg hobj hints (Nat.le_trans hmost (by decide)) ⟨rfl, by decide, by decide⟩ hF (fun u v => hb s₁ [u, v] KX rfl) fun H hS => ?_) fun r s' hq => ?_)
        · refine ⟨i, _, Sp08Neutral.octets ns, rfl, ?_, fun H' l e => ⟨l, rfl, e⟩⟩
          rw [← bi_iv, hoct]
          exact hS
        · obtain ⟨⟨l, us, n, rfl, e, iu⟩, h6, h7, h8⟩ := hq
          refine ⟨.inl ⟨_, _, _, rfl, fun _ => rfl, readsW_ints e (by simpa using iu), osPost (os_post ed ?_), fun z => nomatch z⟩, h6, h7, h8⟩
          exact os_same_ints (Ma.due_eq hit).symm
end Pn
end
section
set_option linter.all false
set_option Elab.async false
/- Names that are taken, so that the head keeps no second copy of the row's heap, written part, view and text (the copies' proofs grow with the square of the objects: 18 of 40 MB). -/
def PySem.W.Fast.tw16379776119105569471 : Nat := 0
def PySem.W.Fast.tw15183580370584362848 : Nat := 0
def PySem.W.Fast.tw9137313888751476626 : Nat := 0
def PySem.W.Fast.tw4458347278139207918 : Nat := 0
open PySem PySem.W PyProof.Rows L2
set_option maxRecDepth 100000 in
set_option maxHeartbeats 0 in
theorem PySem.Challenge.cw_postnames_s01_text_holds : PySem.Challenge.rw_postnames_s01_text.Holds := by
  w_on; k_headS
  (case hw => exact ⟨[.int 0, .list []], by decide +kernel, by decide +kernel⟩)
  k_fillS
  refine Pn.walk rfl (fun w h Y => PySem.W.kIn_of Y) ?F
  case F =>
    intro w mg fa h KX G hmg
    replace hmg : mg "text" = some (.ref fa) := hmg
    have z_Message : ∃ C f_Message_init, Pn.Cl_Message (L2.KOf KX) C f_Message_init := by
      dsimp only [L2.KOf]
      refine' ⟨_, _, { a := ?h_Message_a, cl := ⟨?h_Message_pg, ?h_Message_hd, ?h_Message_po, ?h_Message_sa⟩, mkr := ⟨?h_Message_mk, ?h_Message_ini, ?h_Message_fn_Message_init, ?h_Message_kc⟩, fn_Message_init := Pn.def_mk Pn.bi_Message_init ?h_Message_l_Message_init ?h_Message_c_Message_init ?h_Message_k_Message_init, na_number := Pn.na_mk ?h_Message_na_number, na_flags := Pn.na_mk ?h_Message_na_flags, na_entries := Pn.na_mk ?h_Message_na_entries }⟩
      (case h_Message_a => k_is); (case h_Message_pg => k_is); (case h_Message_hd => k_is); (case h_Message_po => k_is); (case h_Message_sa => k_is); (case h_Message_mk => k_is); (case h_Message_ini => k_is); (case h_Message_fn_Message_init => k_is); (case h_Message_kc => k_is); (case h_Message_l_Message_init => k_is); (case h_Message_c_Message_init => k_is); (case h_Message_k_Message_init => k_is); (case h_Message_na_number => k_is); (case h_Message_na_flags => k_is); (case h_Message_na_entries => k_is)
    have z_Entry : ∃ C f_Entry_init, Pn.Cl_Entry (L2.KOf KX) C f_Entry_init := by
      dsimp only [L2.KOf]
      refine' ⟨_, _, { a := ?h_Entry_a, cl := ⟨?h_Entry_pg, ?h_Entry_hd, ?h_Entry_po, ?h_Entry_sa⟩, mkr := ⟨?h_Entry_mk, ?h_Entry_ini, ?h_Entry_fn_Entry_init, ?h_Entry_kc⟩, fn_Entry_init := Pn.def_mk Pn.bi_Entry_init ?h_Entry_l_Entry_init ?h_Entry_c_Entry_init ?h_Entry_k_Entry_init, na_section := Pn.na_mk ?h_Entry_na_section, na_name := Pn.na_mk ?h_Entry_na_name, na_kind := Pn.na_mk ?h_Entry_na_kind, na_cls := Pn.na_mk ?h_Entry_na_cls, na_ttl := Pn.na_mk ?h_Entry_na_ttl, na_data := Pn.na_mk ?h_Entry_na_data }⟩
      (case h_Entry_a => k_is); (case h_Entry_pg => k_is); (case h_Entry_hd => k_is); (case h_Entry_po => k_is); (case h_Entry_sa => k_is); (case h_Entry_mk => k_is); (case h_Entry_ini => k_is); (case h_Entry_fn_Entry_init => k_is); (case h_Entry_kc => k_is); (case h_Entry_l_Entry_init => k_is); (case h_Entry_c_Entry_init => k_is); (case h_Entry_k_Entry_init => k_is); (case h_Entry_na_section => k_is); (case h_Entry_na_name => k_is); (case h_Entry_na_kind => k_is); (case h_Entry_na_cls => k_is); (case h_Entry_na_ttl => k_is); (case h_Entry_na_data => k_is)
    have z_Data : ∃ C f_Data_init, Pn.Cl_Data (L2.KOf KX) C f_Data_init := by
      dsimp only [L2.KOf]
      refine' ⟨_, _, { a := ?h_Data_a, cl := ⟨?h_Data_pg, ?h_Data_hd, ?h_Data_po, ?h_Data_sa⟩, mkr := ⟨?h_Data_mk, ?h_Data_ini, ?h_Data_fn_Data_init, ?h_Data_kc⟩, fn_Data_init := Pn.def_mk Pn.bi_Data_init ?h_Data_l_Data_init ?h_Data_c_Data_init ?h_Data_k_Data_init, na_front := Pn.na_mk ?h_Data_na_front, na_names := Pn.na_mk ?h_Data_na_names, na_back := Pn.na_mk ?h_Data_na_back }⟩
      (case h_Data_a => k_is); (case h_Data_pg => k_is); (case h_Data_hd => k_is); (case h_Data_po => k_is); (case h_Data_sa => k_is); (case h_Data_mk => k_is); (case h_Data_ini => k_is); (case h_Data_fn_Data_init => k_is); (case h_Data_kc => k_is); (case h_Data_l_Data_init => k_is); (case h_Data_c_Data_init => k_is); (case h_Data_k_Data_init => k_is); (case h_Data_na_front => k_is); (case h_Data_na_names => k_is); (case h_Data_na_back => k_is)
    have z_Reader : ∃ C f_Reader_init f_Reader_pass_over f_Reader_take_byte f_Reader_take_bytes f_Reader_take_number f_Reader_take_part f_Reader_take_name f_Reader_take_label f_Reader_take_string f_Reader_take_rest f_Reader_check_done, Pn.Cl_Reader (L2.KOf KX) C f_Reader_init f_Reader_pass_over f_Reader_take_byte f_Reader_take_bytes f_Reader_take_number f_Reader_take_part f_Reader_take_name f_Reader_take_label f_Reader_take_string f_Reader_take_rest f_Reader_check_done := by
      dsimp only [L2.KOf]
      refine' ⟨_, _, _, _, _, _, _, _, _, _, _, _, { a := ?h_Reader_a, cl := ⟨?h_Reader_pg, ?h_Reader_hd, ?h_Reader_po, ?h_Reader_sa⟩, mkr := ⟨?h_Reader_mk, ?h_Reader_ini, ?h_Reader_fn_Reader_init, ?h_Reader_kc⟩, fn_Reader_init := Pn.def_mk Pn.bi_Reader_init ?h_Reader_l_Reader_init ?h_Reader_c_Reader_init ?h_Reader_k_Reader_init, me_Reader_pass_over := ⟨?h_Reader_at_Reader_pass_over, ?h_Reader_fn_Reader_pass_over, ?h_Reader_kp_Reader_pass_over⟩, fn_Reader_pass_over := Pn.def_mk Pn.bi_Reader_pass_over ?h_Reader_l_Reader_pass_over ?h_Reader_c_Reader_pass_over ?h_Reader_k_Reader_pass_over, me_Reader_take_byte := ⟨?h_Reader_at_Reader_take_byte, ?h_Reader_fn_Reader_take_byte, ?h_Reader_kp_Reader_take_byte⟩, fn_Reader_take_byte := Pn.def_mk Pn.bi_Reader_take_byte ?h_Reader_l_Reader_take_byte ?h_Reader_c_Reader_take_byte ?h_Reader_k_Reader_take_byte, me_Reader_take_bytes := ⟨?h_Reader_at_Reader_take_bytes, ?h_Reader_fn_Reader_take_bytes, ?h_Reader_kp_Reader_take_bytes⟩, fn_Reader_take_bytes := Pn.def_mk Pn.bi_Reader_take_bytes ?h_Reader_l_Reader_take_bytes ?h_Reader_c_Reader_take_bytes ?h_Reader_k_Reader_take_bytes, me_Reader_take_number := ⟨?h_Reader_at_Reader_take_number, ?h_Reader_fn_Reader_take_number, ?h_Reader_kp_Reader_take_number⟩, fn_Reader_take_number := Pn.def_mk Pn.bi_Reader_take_number ?h_Reader_l_Reader_take_number ?h_Reader_c_Reader_take_number ?h_Reader_k_Reader_take_number, me_Reader_take_part := ⟨?h_Reader_at_Reader_take_part, ?h_Reader_fn_Reader_take_part, ?h_Reader_kp_Reader_take_part⟩, fn_Reader_take_part := Pn.def_mk Pn.bi_Reader_take_part ?h_Reader_l_Reader_take_part ?h_Reader_c_Reader_take_part ?h_Reader_k_Reader_take_part, me_Reader_take_name := ⟨?h_Reader_at_Reader_take_name, ?h_Reader_fn_Reader_take_name, ?h_Reader_kp_Reader_take_name⟩, fn_Reader_take_name := Pn.def_mk Pn.bi_Reader_take_name ?h_Reader_l_Reader_take_name ?h_Reader_c_Reader_take_name ?h_Reader_k_Reader_take_name, me_Reader_take_label := ⟨?h_Reader_at_Reader_take_label, ?h_Reader_fn_Reader_take_label, ?h_Reader_kp_Reader_take_label⟩, fn_Reader_take_label := Pn.def_mk Pn.bi_Reader_take_label ?h_Reader_l_Reader_take_label ?h_Reader_c_Reader_take_label ?h_Reader_k_Reader_take_label, me_Reader_take_string := ⟨?h_Reader_at_Reader_take_string, ?h_Reader_fn_Reader_take_string, ?h_Reader_kp_Reader_take_string⟩, fn_Reader_take_string := Pn.def_mk Pn.bi_Reader_take_string ?h_Reader_l_Reader_take_string ?h_Reader_c_Reader_take_string ?h_Reader_k_Reader_take_string, me_Reader_take_rest := ⟨?h_Reader_at_Reader_take_rest, ?h_Reader_fn_Reader_take_rest, ?h_Reader_kp_Reader_take_rest⟩, fn_Reader_take_rest := Pn.def_mk Pn.bi_Reader_take_rest ?h_Reader_l_Reader_take_rest ?h_Reader_c_Reader_take_rest ?h_Reader_k_Reader_take_rest, me_Reader_check_done := ⟨?h_Reader_at_Reader_check_done, ?h_Reader_fn_Reader_check_done, ?h_Reader_kp_Reader_check_done⟩, fn_Reader_check_done := Pn.def_mk Pn.bi_Reader_check_done ?h_Reader_l_Reader_check_done ?h_Reader_c_Reader_check_done ?h_Reader_k_Reader_check_done, na_message := Pn.na_mk ?h_Reader_na_message, na_at := Pn.na_mk ?h_Reader_na_at, na_end := Pn.na_mk ?h_Reader_na_end }⟩
      (case h_Reader_a => k_is); (case h_Reader_pg => k_is); (case h_Reader_hd => k_is); (case h_Reader_po => k_is); (case h_Reader_sa => k_is); (case h_Reader_mk => k_is); (case h_Reader_ini => k_is); (case h_Reader_fn_Reader_init => k_is); (case h_Reader_kc => k_is); (case h_Reader_l_Reader_init => k_is); (case h_Reader_c_Reader_init => k_is); (case h_Reader_k_Reader_init => k_is); (case h_Reader_at_Reader_pass_over => k_is); (case h_Reader_fn_Reader_pass_over => k_is); (case h_Reader_kp_Reader_pass_over => k_is); (case h_Reader_l_Reader_pass_over => k_is); (case h_Reader_c_Reader_pass_over => k_is); (case h_Reader_k_Reader_pass_over => k_is); (case h_Reader_at_Reader_take_byte => k_is); (case h_Reader_fn_Reader_take_byte => k_is); (case h_Reader_kp_Reader_take_byte => k_is); (case h_Reader_l_Reader_take_byte => k_is); (case h_Reader_c_Reader_take_byte => k_is); (case h_Reader_k_Reader_take_byte => k_is); (case h_Reader_at_Reader_take_bytes => k_is); (case h_Reader_fn_Reader_take_bytes => k_is); (case h_Reader_kp_Reader_take_bytes => k_is); (case h_Reader_l_Reader_take_bytes => k_is); (case h_Reader_c_Reader_take_bytes => k_is); (case h_Reader_k_Reader_take_bytes => k_is); (case h_Reader_at_Reader_take_number => k_is); (case h_Reader_fn_Reader_take_number => k_is); (case h_Reader_kp_Reader_take_number => k_is); (case h_Reader_l_Reader_take_number => k_is); (case h_Reader_c_Reader_take_number => k_is); (case h_Reader_k_Reader_take_number => k_is); (case h_Reader_at_Reader_take_part => k_is); (case h_Reader_fn_Reader_take_part => k_is); (case h_Reader_kp_Reader_take_part => k_is); (case h_Reader_l_Reader_take_part => k_is); (case h_Reader_c_Reader_take_part => k_is); (case h_Reader_k_Reader_take_part => k_is); (case h_Reader_at_Reader_take_name => k_is); (case h_Reader_fn_Reader_take_name => k_is); (case h_Reader_kp_Reader_take_name => k_is); (case h_Reader_l_Reader_take_name => k_is); (case h_Reader_c_Reader_take_name => k_is); (case h_Reader_k_Reader_take_name => k_is); (case h_Reader_at_Reader_take_label => k_is); (case h_Reader_fn_Reader_take_label => k_is); (case h_Reader_kp_Reader_take_label => k_is); (case h_Reader_l_Reader_take_label => k_is); (case h_Reader_c_Reader_take_label => k_is); (case h_Reader_k_Reader_take_label => k_is); (case h_Reader_at_Reader_take_string => k_is); (case h_Reader_fn_Reader_take_string => k_is); (case h_Reader_kp_Reader_take_string => k_is); (case h_Reader_l_Reader_take_string => k_is); (case h_Reader_c_Reader_take_string => k_is); (case h_Reader_k_Reader_take_string => k_is); (case h_Reader_at_Reader_take_rest => k_is); (case h_Reader_fn_Reader_take_rest => k_is); (case h_Reader_kp_Reader_take_rest => k_is); (case h_Reader_l_Reader_take_rest => k_is); (case h_Reader_c_Reader_take_rest => k_is); (case h_Reader_k_Reader_take_rest => k_is); (case h_Reader_at_Reader_check_done => k_is); (case h_Reader_fn_Reader_check_done => k_is); (case h_Reader_kp_Reader_check_done => k_is); (case h_Reader_l_Reader_check_done => k_is); (case h_Reader_c_Reader_check_done => k_is); (case h_Reader_k_Reader_check_done => k_is); (case h_Reader_na_message => k_is); (case h_Reader_na_at => k_is); (case h_Reader_na_end => k_is)
    have z_NotMessage : ∃ C, Exc (L2.KOf KX) mg "NotMessage" C := by
      dsimp only [L2.KOf]
      refine' ⟨_, PySem.W.mg_of KX G ?h_NotMessage_a, ?h_NotMessage_x⟩
      (case h_NotMessage_a => k_is); (case h_NotMessage_x => kernel_rfl)
    have z_number_of : ∃ f, PySem.W.nsIn (L2.KOf KX) mainGlobals "number_of" = some (some (.ref f)) ∧ Pn.Def (L2.KOf KX) "number_of" "number_of" Pn.s_number_of f ["digits"] := by
      dsimp only [L2.KOf]
      refine' ⟨_, ?h_number_of_a, Pn.def_mk Pn.bi_number_of ?h_number_of_l ?h_number_of_c ?h_number_of_k⟩
      (case h_number_of_a => k_is); (case h_number_of_l => k_is); (case h_number_of_c => k_is); (case h_number_of_k => k_is)
    have z_read_message : ∃ f, PySem.W.nsIn (L2.KOf KX) mainGlobals "read_message" = some (some (.ref f)) ∧ Pn.Def (L2.KOf KX) "read_message" "read_message" Pn.s_read_message f ["message"] := by
      dsimp only [L2.KOf]
      refine' ⟨_, ?h_read_message_a, Pn.def_mk Pn.bi_read_message ?h_read_message_l ?h_read_message_c ?h_read_message_k⟩
      (case h_read_message_a => k_is); (case h_read_message_l => k_is); (case h_read_message_c => k_is); (case h_read_message_k => k_is)
    have z_read_entry : ∃ f, PySem.W.nsIn (L2.KOf KX) mainGlobals "read_entry" = some (some (.ref f)) ∧ Pn.Def (L2.KOf KX) "read_entry" "read_entry" Pn.s_read_entry f ["reader", "section"] := by
      dsimp only [L2.KOf]
      refine' ⟨_, ?h_read_entry_a, Pn.def_mk Pn.bi_read_entry ?h_read_entry_l ?h_read_entry_c ?h_read_entry_k⟩
      (case h_read_entry_a => k_is); (case h_read_entry_l => k_is); (case h_read_entry_c => k_is); (case h_read_entry_k => k_is)
    have z_read_data : ∃ f, PySem.W.nsIn (L2.KOf KX) mainGlobals "read_data" = some (some (.ref f)) ∧ Pn.Def (L2.KOf KX) "read_data" "read_data" Pn.s_read_data f ["part", "kind"] := by
      dsimp only [L2.KOf]
      refine' ⟨_, ?h_read_data_a, Pn.def_mk Pn.bi_read_data ?h_read_data_l ?h_read_data_c ?h_read_data_k⟩
      (case h_read_data_a => k_is); (case h_read_data_l => k_is); (case h_read_data_c => k_is); (case h_read_data_k => k_is)
    have z_read_layout : ∃ f, PySem.W.nsIn (L2.KOf KX) mainGlobals "read_layout" = some (some (.ref f)) ∧ Pn.Def (L2.KOf KX) "read_layout" "read_layout" Pn.s_read_layout f ["part", "layout"] := by
      dsimp only [L2.KOf]
      refine' ⟨_, ?h_read_layout_a, Pn.def_mk Pn.bi_read_layout ?h_read_layout_l ?h_read_layout_c ?h_read_layout_k⟩
      (case h_read_layout_a => k_is); (case h_read_layout_l => k_is); (case h_read_layout_c => k_is); (case h_read_layout_k => k_is)
    have z_read_strings : ∃ f, PySem.W.nsIn (L2.KOf KX) mainGlobals "read_strings" = some (some (.ref f)) ∧ Pn.Def (L2.KOf KX) "read_strings" "read_strings" Pn.s_read_strings f ["data"] := by
      dsimp only [L2.KOf]
      refine' ⟨_, ?h_read_strings_a, Pn.def_mk Pn.bi_read_strings ?h_read_strings_l ?h_read_strings_c ?h_read_strings_k⟩
      (case h_read_strings_a => k_is); (case h_read_strings_l => k_is); (case h_read_strings_c => k_is); (case h_read_strings_k => k_is)
    have z_signs : ∃ f, PySem.W.nsIn (L2.KOf KX) mainGlobals "signs" = some (some (.ref f)) ∧ Pn.Def (L2.KOf KX) "signs" "signs" Pn.s_signs f ["words"] := by
      dsimp only [L2.KOf]
      refine' ⟨_, ?h_signs_a, Pn.def_mk Pn.bi_signs ?h_signs_l ?h_signs_c ?h_signs_k⟩
      (case h_signs_a => k_is); (case h_signs_l => k_is); (case h_signs_c => k_is); (case h_signs_k => k_is)
    have z_joined : ∃ f, PySem.W.nsIn (L2.KOf KX) mainGlobals "joined" = some (some (.ref f)) ∧ Pn.Def (L2.KOf KX) "joined" "joined" Pn.s_joined f ["pieces", "between"] := by
      dsimp only [L2.KOf]
      refine' ⟨_, ?h_joined_a, Pn.def_mk Pn.bi_joined ?h_joined_l ?h_joined_c ?h_joined_k⟩
      (case h_joined_a => k_is); (case h_joined_l => k_is); (case h_joined_c => k_is); (case h_joined_k => k_is)
    have z_cut : ∃ f, PySem.W.nsIn (L2.KOf KX) mainGlobals "cut" = some (some (.ref f)) ∧ Pn.Def (L2.KOf KX) "cut" "cut" Pn.s_cut f ["data", "size"] := by
      dsimp only [L2.KOf]
      refine' ⟨_, ?h_cut_a, Pn.def_mk Pn.bi_cut ?h_cut_l ?h_cut_c ?h_cut_k⟩
      (case h_cut_a => k_is); (case h_cut_l => k_is); (case h_cut_c => k_is); (case h_cut_k => k_is)
    have z_decimal : ∃ f, PySem.W.nsIn (L2.KOf KX) mainGlobals "decimal" = some (some (.ref f)) ∧ Pn.Def (L2.KOf KX) "decimal" "decimal" Pn.s_decimal f ["number"] := by
      dsimp only [L2.KOf]
      refine' ⟨_, ?h_decimal_a, Pn.def_mk Pn.bi_decimal ?h_decimal_l ?h_decimal_c ?h_decimal_k⟩
      (case h_decimal_a => k_is); (case h_decimal_l => k_is); (case h_decimal_c => k_is); (case h_decimal_k => k_is)
    have z_decimals : ∃ f, PySem.W.nsIn (L2.KOf KX) mainGlobals "decimals" = some (some (.ref f)) ∧ Pn.Def (L2.KOf KX) "decimals" "decimals" Pn.s_decimals f ["data", "size"] := by
      dsimp only [L2.KOf]
      refine' ⟨_, ?h_decimals_a, Pn.def_mk Pn.bi_decimals ?h_decimals_l ?h_decimals_c ?h_decimals_k⟩
      (case h_decimals_a => k_is); (case h_decimals_l => k_is); (case h_decimals_c => k_is); (case h_decimals_k => k_is)
    have z_hexadecimal : ∃ f, PySem.W.nsIn (L2.KOf KX) mainGlobals "hexadecimal" = some (some (.ref f)) ∧ Pn.Def (L2.KOf KX) "hexadecimal" "hexadecimal" Pn.s_hexadecimal f ["data"] := by
      dsimp only [L2.KOf]
      refine' ⟨_, ?h_hexadecimal_a, Pn.def_mk Pn.bi_hexadecimal ?h_hexadecimal_l ?h_hexadecimal_c ?h_hexadecimal_k⟩
      (case h_hexadecimal_a => k_is); (case h_hexadecimal_l => k_is); (case h_hexadecimal_c => k_is); (case h_hexadecimal_k => k_is)
    have z_escaped : ∃ f, PySem.W.nsIn (L2.KOf KX) mainGlobals "escaped" = some (some (.ref f)) ∧ Pn.Def (L2.KOf KX) "escaped" "escaped" Pn.s_escaped f ["byte"] := by
      dsimp only [L2.KOf]
      refine' ⟨_, ?h_escaped_a, Pn.def_mk Pn.bi_escaped ?h_escaped_l ?h_escaped_c ?h_escaped_k⟩
      (case h_escaped_a => k_is); (case h_escaped_l => k_is); (case h_escaped_c => k_is); (case h_escaped_k => k_is)
    have z_is_plain_in_name : ∃ f, PySem.W.nsIn (L2.KOf KX) mainGlobals "is_plain_in_name" = some (some (.ref f)) ∧ Pn.Def (L2.KOf KX) "is_plain_in_name" "is_plain_in_name" Pn.s_is_plain_in_name f ["byte"] := by
      dsimp only [L2.KOf]
      refine' ⟨_, ?h_is_plain_in_name_a, Pn.def_mk Pn.bi_is_plain_in_name ?h_is_plain_in_name_l ?h_is_plain_in_name_c ?h_is_plain_in_name_k⟩
      (case h_is_plain_in_name_a => k_is); (case h_is_plain_in_name_l => k_is); (case h_is_plain_in_name_c => k_is); (case h_is_plain_in_name_k => k_is)
    have z_is_plain_in_string : ∃ f, PySem.W.nsIn (L2.KOf KX) mainGlobals "is_plain_in_string" = some (some (.ref f)) ∧ Pn.Def (L2.KOf KX) "is_plain_in_string" "is_plain_in_string" Pn.s_is_plain_in_string f ["byte"] := by
      dsimp only [L2.KOf]
      refine' ⟨_, ?h_is_plain_in_string_a, Pn.def_mk Pn.bi_is_plain_in_string ?h_is_plain_in_string_l ?h_is_plain_in_string_c ?h_is_plain_in_string_k⟩
      (case h_is_plain_in_string_a => k_is); (case h_is_plain_in_string_l => k_is); (case h_is_plain_in_string_c => k_is); (case h_is_plain_in_string_k => k_is)
    have z_tell_label : ∃ f, PySem.W.nsIn (L2.KOf KX) mainGlobals "tell_label" = some (some (.ref f)) ∧ Pn.Def (L2.KOf KX) "tell_label" "tell_label" Pn.s_tell_label f ["label"] := by
      dsimp only [L2.KOf]
      refine' ⟨_, ?h_tell_label_a, Pn.def_mk Pn.bi_tell_label ?h_tell_label_l ?h_tell_label_c ?h_tell_label_k⟩
      (case h_tell_label_a => k_is); (case h_tell_label_l => k_is); (case h_tell_label_c => k_is); (case h_tell_label_k => k_is)
    have z_tell_name : ∃ f, PySem.W.nsIn (L2.KOf KX) mainGlobals "tell_name" = some (some (.ref f)) ∧ Pn.Def (L2.KOf KX) "tell_name" "tell_name" Pn.s_tell_name f ["labels"] := by
      dsimp only [L2.KOf]
      refine' ⟨_, ?h_tell_name_a, Pn.def_mk Pn.bi_tell_name ?h_tell_name_l ?h_tell_name_c ?h_tell_name_k⟩
      (case h_tell_name_a => k_is); (case h_tell_name_l => k_is); (case h_tell_name_c => k_is); (case h_tell_name_k => k_is)
    have z_tell_string : ∃ f, PySem.W.nsIn (L2.KOf KX) mainGlobals "tell_string" = some (some (.ref f)) ∧ Pn.Def (L2.KOf KX) "tell_string" "tell_string" Pn.s_tell_string f ["string"] := by
      dsimp only [L2.KOf]
      refine' ⟨_, ?h_tell_string_a, Pn.def_mk Pn.bi_tell_string ?h_tell_string_l ?h_tell_string_c ?h_tell_string_k⟩
      (case h_tell_string_a => k_is); (case h_tell_string_l => k_is); (case h_tell_string_c => k_is); (case h_tell_string_k => k_is)
    have z_tell_strings : ∃ f, PySem.W.nsIn (L2.KOf KX) mainGlobals "tell_strings" = some (some (.ref f)) ∧ Pn.Def (L2.KOf KX) "tell_strings" "tell_strings" Pn.s_tell_strings f ["data"] := by
      dsimp only [L2.KOf]
      refine' ⟨_, ?h_tell_strings_a, Pn.def_mk Pn.bi_tell_strings ?h_tell_strings_l ?h_tell_strings_c ?h_tell_strings_k⟩
      (case h_tell_strings_a => k_is); (case h_tell_strings_l => k_is); (case h_tell_strings_c => k_is); (case h_tell_strings_k => k_is)
    have z_tell_any_bytes : ∃ f, PySem.W.nsIn (L2.KOf KX) mainGlobals "tell_any_bytes" = some (some (.ref f)) ∧ Pn.Def (L2.KOf KX) "tell_any_bytes" "tell_any_bytes" Pn.s_tell_any_bytes f ["data"] := by
      dsimp only [L2.KOf]
      refine' ⟨_, ?h_tell_any_bytes_a, Pn.def_mk Pn.bi_tell_any_bytes ?h_tell_any_bytes_l ?h_tell_any_bytes_c ?h_tell_any_bytes_k⟩
      (case h_tell_any_bytes_a => k_is); (case h_tell_any_bytes_l => k_is); (case h_tell_any_bytes_c => k_is); (case h_tell_any_bytes_k => k_is)
    have z_tell_data : ∃ f, PySem.W.nsIn (L2.KOf KX) mainGlobals "tell_data" = some (some (.ref f)) ∧ Pn.Def (L2.KOf KX) "tell_data" "tell_data" Pn.s_tell_data f ["kind", "data"] := by
      dsimp only [L2.KOf]
      refine' ⟨_, ?h_tell_data_a, Pn.def_mk Pn.bi_tell_data ?h_tell_data_l ?h_tell_data_c ?h_tell_data_k⟩
      (case h_tell_data_a => k_is); (case h_tell_data_l => k_is); (case h_tell_data_c => k_is); (case h_tell_data_k => k_is)
    have z_tell_class : ∃ f, PySem.W.nsIn (L2.KOf KX) mainGlobals "tell_class" = some (some (.ref f)) ∧ Pn.Def (L2.KOf KX) "tell_class" "tell_class" Pn.s_tell_class f ["cls"] := by
      dsimp only [L2.KOf]
      refine' ⟨_, ?h_tell_class_a, Pn.def_mk Pn.bi_tell_class ?h_tell_class_l ?h_tell_class_c ?h_tell_class_k⟩
      (case h_tell_class_a => k_is); (case h_tell_class_l => k_is); (case h_tell_class_c => k_is); (case h_tell_class_k => k_is)
    have z_tell_kind : ∃ f, PySem.W.nsIn (L2.KOf KX) mainGlobals "tell_kind" = some (some (.ref f)) ∧ Pn.Def (L2.KOf KX) "tell_kind" "tell_kind" Pn.s_tell_kind f ["kind"] := by
      dsimp only [L2.KOf]
      refine' ⟨_, ?h_tell_kind_a, Pn.def_mk Pn.bi_tell_kind ?h_tell_kind_l ?h_tell_kind_c ?h_tell_kind_k⟩
      (case h_tell_kind_a => k_is); (case h_tell_kind_l => k_is); (case h_tell_kind_c => k_is); (case h_tell_kind_k => k_is)
    have z_tell_entry : ∃ f, PySem.W.nsIn (L2.KOf KX) mainGlobals "tell_entry" = some (some (.ref f)) ∧ Pn.Def (L2.KOf KX) "tell_entry" "tell_entry" Pn.s_tell_entry f ["entry"] := by
      dsimp only [L2.KOf]
      refine' ⟨_, ?h_tell_entry_a, Pn.def_mk Pn.bi_tell_entry ?h_tell_entry_l ?h_tell_entry_c ?h_tell_entry_k⟩
      (case h_tell_entry_a => k_is); (case h_tell_entry_l => k_is); (case h_tell_entry_c => k_is); (case h_tell_entry_k => k_is)
    have z_tell_head : ∃ f, PySem.W.nsIn (L2.KOf KX) mainGlobals "tell_head" = some (some (.ref f)) ∧ Pn.Def (L2.KOf KX) "tell_head" "tell_head" Pn.s_tell_head f ["message"] := by
      dsimp only [L2.KOf]
      refine' ⟨_, ?h_tell_head_a, Pn.def_mk Pn.bi_tell_head ?h_tell_head_l ?h_tell_head_c ?h_tell_head_k⟩
      (case h_tell_head_a => k_is); (case h_tell_head_l => k_is); (case h_tell_head_c => k_is); (case h_tell_head_k => k_is)
    have z_tell_message : ∃ f, PySem.W.nsIn (L2.KOf KX) mainGlobals "tell_message" = some (some (.ref f)) ∧ Pn.Def (L2.KOf KX) "tell_message" "tell_message" Pn.s_tell_message f ["message"] := by
      dsimp only [L2.KOf]
      refine' ⟨_, ?h_tell_message_a, Pn.def_mk Pn.bi_tell_message ?h_tell_message_l ?h_tell_message_c ?h_tell_message_k⟩
      (case h_tell_message_a => k_is); (case h_tell_message_l => k_is); (case h_tell_message_c => k_is); (case h_tell_message_k => k_is)
    have z_text : ∃ f, PySem.W.nsIn (L2.KOf KX) mainGlobals "text" = some (some (.ref f)) ∧ Pn.Def (L2.KOf KX) "text" "text" Pn.s_text f ["most", "message"] := by
      dsimp only [L2.KOf]
      refine' ⟨_, ?h_text_a, Pn.def_mk Pn.bi_text ?h_text_l ?h_text_c ?h_text_k⟩
      (case h_text_a => k_is); (case h_text_l => k_is); (case h_text_c => k_is); (case h_text_k => k_is)
    have z_KIND_A : Pn.GV mg "KIND_A" (.int 1) := by
      refine' Pn.gv_int KX G ?h_KIND_A_a
      (case h_KIND_A_a => k_is)
    have z_KIND_TXT : Pn.GV mg "KIND_TXT" (.int 16) := by
      refine' Pn.gv_int KX G ?h_KIND_TXT_a
      (case h_KIND_TXT_a => k_is)
    have z_KIND_AAAA : Pn.GV mg "KIND_AAAA" (.int 28) := by
      refine' Pn.gv_int KX G ?h_KIND_AAAA_a
      (case h_KIND_AAAA_a => k_is)
    have z_KIND_NAMES : ∃ d, PySem.W.nsIn (L2.KOf KX) mainGlobals "KIND_NAMES" = some (some (.ref d)) ∧ KD (L2.KOf KX) d [(1, .str "A"), (2, .str "NS"), (5, .str "CNAME"), (6, .str "SOA"), (12, .str "PTR"), (15, .str "MX"), (16, .str "TXT"), (28, .str "AAAA"), (33, .str "SRV")] := by
      dsimp only [L2.KOf]
      refine' ⟨_, ?h_KIND_NAMES_a, Pn.kd_mk ?h_KIND_NAMES_l ?h_KIND_NAMES_s ?h_KIND_NAMES_n ?h_KIND_NAMES_p⟩
      (case h_KIND_NAMES_a => k_is); (case h_KIND_NAMES_l => k_is)
      (case h_KIND_NAMES_s => rfl)
      (case h_KIND_NAMES_p => exact (.cons ⟨⟨_, rfl⟩, by decide +kernel, ⟨_, rfl⟩⟩ (.cons ⟨⟨_, rfl⟩, by decide +kernel, ⟨_, rfl⟩⟩ (.cons ⟨⟨_, rfl⟩, by decide +kernel, ⟨_, rfl⟩⟩ (.cons ⟨⟨_, rfl⟩, by decide +kernel, ⟨_, rfl⟩⟩ (.cons ⟨⟨_, rfl⟩, by decide +kernel, ⟨_, rfl⟩⟩ (.cons ⟨⟨_, rfl⟩, by decide +kernel, ⟨_, rfl⟩⟩ (.cons ⟨⟨_, rfl⟩, by decide +kernel, ⟨_, rfl⟩⟩ (.cons ⟨⟨_, rfl⟩, by decide +kernel, ⟨_, rfl⟩⟩ (.cons ⟨⟨_, rfl⟩, by decide +kernel, ⟨_, rfl⟩⟩ .nil))))))))))
      (case h_KIND_NAMES_n => decide)
    have z_LAYOUTS : ∃ d v_LAYOUTS_0 v_LAYOUTS_1 v_LAYOUTS_2 v_LAYOUTS_3 v_LAYOUTS_4 v_LAYOUTS_5 v_LAYOUTS_6 v_LAYOUTS_7, PySem.W.nsIn (L2.KOf KX) mainGlobals "LAYOUTS" = some (some (.ref d)) ∧ KD (L2.KOf KX) d [(1, .ref v_LAYOUTS_0), (2, .ref v_LAYOUTS_1), (5, .ref v_LAYOUTS_2), (6, .ref v_LAYOUTS_3), (12, .ref v_LAYOUTS_4), (15, .ref v_LAYOUTS_5), (28, .ref v_LAYOUTS_6), (33, .ref v_LAYOUTS_7)] ∧ Pn.KT0 (L2.KOf KX) v_LAYOUTS_0 [.int 4, .int 0, .int 0] ∧ Pn.KT0 (L2.KOf KX) v_LAYOUTS_1 [.int 0, .int 1, .int 0] ∧ Pn.KT0 (L2.KOf KX) v_LAYOUTS_2 [.int 0, .int 1, .int 0] ∧ Pn.KT0 (L2.KOf KX) v_LAYOUTS_3 [.int 0, .int 2, .int 20] ∧ Pn.KT0 (L2.KOf KX) v_LAYOUTS_4 [.int 0, .int 1, .int 0] ∧ Pn.KT0 (L2.KOf KX) v_LAYOUTS_5 [.int 2, .int 1, .int 0] ∧ Pn.KT0 (L2.KOf KX) v_LAYOUTS_6 [.int 16, .int 0, .int 0] ∧ Pn.KT0 (L2.KOf KX) v_LAYOUTS_7 [.int 6, .int 1, .int 0] := by
      dsimp only [L2.KOf]
      refine' ⟨_, _, _, _, _, _, _, _, _, ?h_LAYOUTS_a, Pn.kd_mk ?h_LAYOUTS_l ?h_LAYOUTS_s ?h_LAYOUTS_n ?h_LAYOUTS_p, Pn.kt_mk ?h_LAYOUTS_t0 ?h_LAYOUTS_c0 ?h_LAYOUTS_z0 ?h_LAYOUTS_w0, Pn.kt_mk ?h_LAYOUTS_t1 ?h_LAYOUTS_c1 ?h_LAYOUTS_z1 ?h_LAYOUTS_w1, Pn.kt_mk ?h_LAYOUTS_t2 ?h_LAYOUTS_c2 ?h_LAYOUTS_z2 ?h_LAYOUTS_w2, Pn.kt_mk ?h_LAYOUTS_t3 ?h_LAYOUTS_c3 ?h_LAYOUTS_z3 ?h_LAYOUTS_w3, Pn.kt_mk ?h_LAYOUTS_t4 ?h_LAYOUTS_c4 ?h_LAYOUTS_z4 ?h_LAYOUTS_w4, Pn.kt_mk ?h_LAYOUTS_t5 ?h_LAYOUTS_c5 ?h_LAYOUTS_z5 ?h_LAYOUTS_w5, Pn.kt_mk ?h_LAYOUTS_t6 ?h_LAYOUTS_c6 ?h_LAYOUTS_z6 ?h_LAYOUTS_w6, Pn.kt_mk ?h_LAYOUTS_t7 ?h_LAYOUTS_c7 ?h_LAYOUTS_z7 ?h_LAYOUTS_w7⟩
      (case h_LAYOUTS_a => k_is); (case h_LAYOUTS_l => k_is)
      (case h_LAYOUTS_s => rfl)
      (case h_LAYOUTS_p => exact (.cons ⟨⟨_, rfl⟩, by decide +kernel, rfl⟩ (.cons ⟨⟨_, rfl⟩, by decide +kernel, rfl⟩ (.cons ⟨⟨_, rfl⟩, by decide +kernel, rfl⟩ (.cons ⟨⟨_, rfl⟩, by decide +kernel, rfl⟩ (.cons ⟨⟨_, rfl⟩, by decide +kernel, rfl⟩ (.cons ⟨⟨_, rfl⟩, by decide +kernel, rfl⟩ (.cons ⟨⟨_, rfl⟩, by decide +kernel, rfl⟩ (.cons ⟨⟨_, rfl⟩, by decide +kernel, rfl⟩ .nil)))))))))
      (case h_LAYOUTS_n => decide)
      (case h_LAYOUTS_t0 => k_is); (case h_LAYOUTS_c0 => rfl); (case h_LAYOUTS_z0 => decide); (case h_LAYOUTS_w0 => exact (.cons ⟨_, rfl⟩ (.cons ⟨_, rfl⟩ (.cons ⟨_, rfl⟩ .nil))))
      (case h_LAYOUTS_t1 => k_is); (case h_LAYOUTS_c1 => rfl); (case h_LAYOUTS_z1 => decide); (case h_LAYOUTS_w1 => exact (.cons ⟨_, rfl⟩ (.cons ⟨_, rfl⟩ (.cons ⟨_, rfl⟩ .nil))))
      (case h_LAYOUTS_t2 => k_is); (case h_LAYOUTS_c2 => rfl); (case h_LAYOUTS_z2 => decide); (case h_LAYOUTS_w2 => exact (.cons ⟨_, rfl⟩ (.cons ⟨_, rfl⟩ (.cons ⟨_, rfl⟩ .nil))))
      (case h_LAYOUTS_t3 => k_is); (case h_LAYOUTS_c3 => rfl); (case h_LAYOUTS_z3 => decide); (case h_LAYOUTS_w3 => exact (.cons ⟨_, rfl⟩ (.cons ⟨_, rfl⟩ (.cons ⟨_, rfl⟩ .nil))))
      (case h_LAYOUTS_t4 => k_is); (case h_LAYOUTS_c4 => rfl); (case h_LAYOUTS_z4 => decide); (case h_LAYOUTS_w4 => exact (.cons ⟨_, rfl⟩ (.cons ⟨_, rfl⟩ (.cons ⟨_, rfl⟩ .nil))))
      (case h_LAYOUTS_t5 => k_is); (case h_LAYOUTS_c5 => rfl); (case h_LAYOUTS_z5 => decide); (case h_LAYOUTS_w5 => exact (.cons ⟨_, rfl⟩ (.cons ⟨_, rfl⟩ (.cons ⟨_, rfl⟩ .nil))))
      (case h_LAYOUTS_t6 => k_is); (case h_LAYOUTS_c6 => rfl); (case h_LAYOUTS_z6 => decide); (case h_LAYOUTS_w6 => exact (.cons ⟨_, rfl⟩ (.cons ⟨_, rfl⟩ (.cons ⟨_, rfl⟩ .nil))))
      (case h_LAYOUTS_t7 => k_is); (case h_LAYOUTS_c7 => rfl); (case h_LAYOUTS_z7 => decide); (case h_LAYOUTS_w7 => exact (.cons ⟨_, rfl⟩ (.cons ⟨_, rfl⟩ (.cons ⟨_, rfl⟩ .nil))))
    have z_CLASS_NAMES : ∃ d, PySem.W.nsIn (L2.KOf KX) mainGlobals "CLASS_NAMES" = some (some (.ref d)) ∧ KD (L2.KOf KX) d [(1, .str "IN"), (3, .str "CH"), (4, .str "HS")] := by
      dsimp only [L2.KOf]
      refine' ⟨_, ?h_CLASS_NAMES_a, Pn.kd_mk ?h_CLASS_NAMES_l ?h_CLASS_NAMES_s ?h_CLASS_NAMES_n ?h_CLASS_NAMES_p⟩
      (case h_CLASS_NAMES_a => k_is); (case h_CLASS_NAMES_l => k_is)
      (case h_CLASS_NAMES_s => rfl)
      (case h_CLASS_NAMES_p => exact (.cons ⟨⟨_, rfl⟩, by decide +kernel, ⟨_, rfl⟩⟩ (.cons ⟨⟨_, rfl⟩, by decide +kernel, ⟨_, rfl⟩⟩ (.cons ⟨⟨_, rfl⟩, by decide +kernel, ⟨_, rfl⟩⟩ .nil))))
      (case h_CLASS_NAMES_n => decide)
    have z_SECTION_NAMES : ∃ u, PySem.W.nsIn (L2.KOf KX) mainGlobals "SECTION_NAMES" = some (some (.ref u)) ∧ Pn.KT0 (L2.KOf KX) u [.str "Q", .str "AN", .str "NS", .str "AR"] := by
      dsimp only [L2.KOf]
      refine' ⟨_, ?h_SECTION_NAMES_a, Pn.kt_mk ?h_SECTION_NAMES_t ?h_SECTION_NAMES_c ?h_SECTION_NAMES_z ?h_SECTION_NAMES_w⟩
      (case h_SECTION_NAMES_a => k_is); (case h_SECTION_NAMES_t => k_is); (case h_SECTION_NAMES_c => rfl); (case h_SECTION_NAMES_z => decide); (case h_SECTION_NAMES_w => exact (.cons ⟨_, rfl⟩ (.cons ⟨_, rfl⟩ (.cons ⟨_, rfl⟩ (.cons ⟨_, rfl⟩ .nil)))))
    have z_QUESTIONS : Pn.GV mg "QUESTIONS" (.int 0) := by
      refine' Pn.gv_int KX G ?h_QUESTIONS_a
      (case h_QUESTIONS_a => k_is)
    have z_MOST_BYTES : Pn.GV mg "MOST_BYTES" (.int 4096) := by
      refine' Pn.gv_int KX G ?h_MOST_BYTES_a
      (case h_MOST_BYTES_a => k_is)
    have z_LONGEST_LABEL : Pn.GV mg "LONGEST_LABEL" (.int 63) := by
      refine' Pn.gv_int KX G ?h_LONGEST_LABEL_a
      (case h_LONGEST_LABEL_a => k_is)
    have z_LONGEST_NAME : Pn.GV mg "LONGEST_NAME" (.int 255) := by
      refine' Pn.gv_int KX G ?h_LONGEST_NAME_a
      (case h_LONGEST_NAME_a => k_is)
    have z_FIRST_POINTER : Pn.GV mg "FIRST_POINTER" (.int 192) := by
      refine' Pn.gv_int KX G ?h_FIRST_POINTER_a
      (case h_FIRST_POINTER_a => k_is)
    have z_LINE_FEED : Pn.GV mg "LINE_FEED" (.int 10) := by
      refine' Pn.gv_int KX G ?h_LINE_FEED_a
      (case h_LINE_FEED_a => k_is)
    have z_SPACE : Pn.GV mg "SPACE" (.int 32) := by
      refine' Pn.gv_int KX G ?h_SPACE_a
      (case h_SPACE_a => k_is)
    have z_QUOTE : Pn.GV mg "QUOTE" (.int 34) := by
      refine' Pn.gv_int KX G ?h_QUOTE_a
      (case h_QUOTE_a => k_is)
    have z_HYPHEN : Pn.GV mg "HYPHEN" (.int 45) := by
      refine' Pn.gv_int KX G ?h_HYPHEN_a
      (case h_HYPHEN_a => k_is)
    have z_DOT : Pn.GV mg "DOT" (.int 46) := by
      refine' Pn.gv_int KX G ?h_DOT_a
      (case h_DOT_a => k_is)
    have z_COLON : Pn.GV mg "COLON" (.int 58) := by
      refine' Pn.gv_int KX G ?h_COLON_a
      (case h_COLON_a => k_is)
    have z_BACKSLASH : Pn.GV mg "BACKSLASH" (.int 92) := by
      refine' Pn.gv_int KX G ?h_BACKSLASH_a
      (case h_BACKSLASH_a => k_is)
    have z_UNDERSCORE : Pn.GV mg "UNDERSCORE" (.int 95) := by
      refine' Pn.gv_int KX G ?h_UNDERSCORE_a
      (case h_UNDERSCORE_a => k_is)
    have z_LAST_PRINTED : Pn.GV mg "LAST_PRINTED" (.int 126) := by
      refine' Pn.gv_int KX G ?h_LAST_PRINTED_a
      (case h_LAST_PRINTED_a => k_is)
    have z_HEX_DIGITS : Pn.GV mg "HEX_DIGITS" (.str "0123456789abcdef") := by
      refine' Pn.gv_str KX G ?h_HEX_DIGITS_a
      (case h_HEX_DIGITS_a => k_is)
    have z_WRONG : Pn.GV mg "WRONG" (.int (-1)) := by
      refine' Pn.gv_int KX G ?h_WRONG_a
      (case h_WRONG_a => k_is)
    have z_TOO_MUCH : Pn.GV mg "TOO_MUCH" (.int (-2)) := by
      refine' Pn.gv_int KX G ?h_TOO_MUCH_a
      (case h_TOO_MUCH_a => k_is)
    have z_enumerate : mg "enumerate" = none := by
      refine' PySem.W.mg_none_of KX G ?h_enumerate_a
      (case h_enumerate_a => k_is)
    have z_len : mg "len" = none := by
      refine' PySem.W.mg_none_of KX G ?h_len_a
      (case h_len_a => k_is)
    have z_ord : mg "ord" = none := by
      refine' PySem.W.mg_none_of KX G ?h_ord_a
      (case h_ord_a => k_is)
    have z_range : mg "range" = none := by
      refine' PySem.W.mg_none_of KX G ?h_range_a
      (case h_range_a => k_is)
    have z_str : mg "str" = none := by
      refine' PySem.W.mg_none_of KX G ?h_str_a
      (case h_str_a => k_is)
    obtain ⟨c_Message, f_Message_init, y_Message⟩ := z_Message
    obtain ⟨c_Entry, f_Entry_init, y_Entry⟩ := z_Entry
    obtain ⟨c_Data, f_Data_init, y_Data⟩ := z_Data
    obtain ⟨c_Reader, f_Reader_init, f_Reader_pass_over, f_Reader_take_byte, f_Reader_take_bytes, f_Reader_take_number, f_Reader_take_part, f_Reader_take_name, f_Reader_take_label, f_Reader_take_string, f_Reader_take_rest, f_Reader_check_done, y_Reader⟩ := z_Reader
    obtain ⟨c_NotMessage, y_NotMessage⟩ := z_NotMessage
    obtain ⟨f_number_of, a_number_of, y_number_of⟩ := z_number_of
    obtain ⟨f_read_message, a_read_message, y_read_message⟩ := z_read_message
    obtain ⟨f_read_entry, a_read_entry, y_read_entry⟩ := z_read_entry
    obtain ⟨f_read_data, a_read_data, y_read_data⟩ := z_read_data
    obtain ⟨f_read_layout, a_read_layout, y_read_layout⟩ := z_read_layout
    obtain ⟨f_read_strings, a_read_strings, y_read_strings⟩ := z_read_strings
    obtain ⟨f_signs, a_signs, y_signs⟩ := z_signs
    obtain ⟨f_joined, a_joined, y_joined⟩ := z_joined
    obtain ⟨f_cut, a_cut, y_cut⟩ := z_cut
    obtain ⟨f_decimal, a_decimal, y_decimal⟩ := z_decimal
    obtain ⟨f_decimals, a_decimals, y_decimals⟩ := z_decimals
    obtain ⟨f_hexadecimal, a_hexadecimal, y_hexadecimal⟩ := z_hexadecimal
    obtain ⟨f_escaped, a_escaped, y_escaped⟩ := z_escaped
    obtain ⟨f_is_plain_in_name, a_is_plain_in_name, y_is_plain_in_name⟩ := z_is_plain_in_name
    obtain ⟨f_is_plain_in_string, a_is_plain_in_string, y_is_plain_in_string⟩ := z_is_plain_in_string
    obtain ⟨f_tell_label, a_tell_label, y_tell_label⟩ := z_tell_label
    obtain ⟨f_tell_name, a_tell_name, y_tell_name⟩ := z_tell_name
    obtain ⟨f_tell_string, a_tell_string, y_tell_string⟩ := z_tell_string
    obtain ⟨f_tell_strings, a_tell_strings, y_tell_strings⟩ := z_tell_strings
    obtain ⟨f_tell_any_bytes, a_tell_any_bytes, y_tell_any_bytes⟩ := z_tell_any_bytes
    obtain ⟨f_tell_data, a_tell_data, y_tell_data⟩ := z_tell_data
    obtain ⟨f_tell_class, a_tell_class, y_tell_class⟩ := z_tell_class
    obtain ⟨f_tell_kind, a_tell_kind, y_tell_kind⟩ := z_tell_kind
    obtain ⟨f_tell_entry, a_tell_entry, y_tell_entry⟩ := z_tell_entry
    obtain ⟨f_tell_head, a_tell_head, y_tell_head⟩ := z_tell_head
    obtain ⟨f_tell_message, a_tell_message, y_tell_message⟩ := z_tell_message
    obtain ⟨f_text, a_text, y_text⟩ := z_text
    obtain ⟨d_KIND_NAMES, a_KIND_NAMES, y_KIND_NAMES⟩ := z_KIND_NAMES
    obtain ⟨d_LAYOUTS, v_LAYOUTS_0, v_LAYOUTS_1, v_LAYOUTS_2, v_LAYOUTS_3, v_LAYOUTS_4, v_LAYOUTS_5, v_LAYOUTS_6, v_LAYOUTS_7, a_LAYOUTS, y_LAYOUTS, y_v_LAYOUTS_0, y_v_LAYOUTS_1, y_v_LAYOUTS_2, y_v_LAYOUTS_3, y_v_LAYOUTS_4, y_v_LAYOUTS_5, y_v_LAYOUTS_6, y_v_LAYOUTS_7⟩ := z_LAYOUTS
    obtain ⟨d_CLASS_NAMES, a_CLASS_NAMES, y_CLASS_NAMES⟩ := z_CLASS_NAMES
    obtain ⟨u_SECTION_NAMES, a_SECTION_NAMES, y_SECTION_NAMES⟩ := z_SECTION_NAMES
    have T : Pn.Txt (L2.KOf KX) mg { c_Message := c_Message, c_Entry := c_Entry, c_Data := c_Data, c_Reader := c_Reader, c_NotMessage := c_NotMessage, f_Message_init := f_Message_init, f_Entry_init := f_Entry_init, f_Data_init := f_Data_init, f_Reader_init := f_Reader_init, f_Reader_pass_over := f_Reader_pass_over, f_Reader_take_byte := f_Reader_take_byte, f_Reader_take_bytes := f_Reader_take_bytes, f_Reader_take_number := f_Reader_take_number, f_Reader_take_part := f_Reader_take_part, f_Reader_take_name := f_Reader_take_name, f_Reader_take_label := f_Reader_take_label, f_Reader_take_string := f_Reader_take_string, f_Reader_take_rest := f_Reader_take_rest, f_Reader_check_done := f_Reader_check_done, f_number_of := f_number_of, f_read_message := f_read_message, f_read_entry := f_read_entry, f_read_data := f_read_data, f_read_layout := f_read_layout, f_read_strings := f_read_strings, f_signs := f_signs, f_joined := f_joined, f_cut := f_cut, f_decimal := f_decimal, f_decimals := f_decimals, f_hexadecimal := f_hexadecimal, f_escaped := f_escaped, f_is_plain_in_name := f_is_plain_in_name, f_is_plain_in_string := f_is_plain_in_string, f_tell_label := f_tell_label, f_tell_name := f_tell_name, f_tell_string := f_tell_string, f_tell_strings := f_tell_strings, f_tell_any_bytes := f_tell_any_bytes, f_tell_data := f_tell_data, f_tell_class := f_tell_class, f_tell_kind := f_tell_kind, f_tell_entry := f_tell_entry, f_tell_head := f_tell_head, f_tell_message := f_tell_message, f_text := f_text, d_KIND_NAMES := d_KIND_NAMES, d_LAYOUTS := d_LAYOUTS, d_CLASS_NAMES := d_CLASS_NAMES, u_SECTION_NAMES := u_SECTION_NAMES, v_LAYOUTS_0 := v_LAYOUTS_0, v_LAYOUTS_1 := v_LAYOUTS_1, v_LAYOUTS_2 := v_LAYOUTS_2, v_LAYOUTS_3 := v_LAYOUTS_3, v_LAYOUTS_4 := v_LAYOUTS_4, v_LAYOUTS_5 := v_LAYOUTS_5, v_LAYOUTS_6 := v_LAYOUTS_6, v_LAYOUTS_7 := v_LAYOUTS_7 } := { cl_Message := y_Message.cl, mg_Message := PySem.W.mg_of KX G y_Message.a, mk_Message := y_Message.mkr, na_Message_number := y_Message.na_number, na_Message_flags := y_Message.na_flags, na_Message_entries := y_Message.na_entries, fn_Message_init := y_Message.fn_Message_init, cl_Entry := y_Entry.cl, mg_Entry := PySem.W.mg_of KX G y_Entry.a, mk_Entry := y_Entry.mkr, na_Entry_section := y_Entry.na_section, na_Entry_name := y_Entry.na_name, na_Entry_kind := y_Entry.na_kind, na_Entry_cls := y_Entry.na_cls, na_Entry_ttl := y_Entry.na_ttl, na_Entry_data := y_Entry.na_data, fn_Entry_init := y_Entry.fn_Entry_init, cl_Data := y_Data.cl, mg_Data := PySem.W.mg_of KX G y_Data.a, mk_Data := y_Data.mkr, na_Data_front := y_Data.na_front, na_Data_names := y_Data.na_names, na_Data_back := y_Data.na_back, fn_Data_init := y_Data.fn_Data_init, cl_Reader := y_Reader.cl, mg_Reader := PySem.W.mg_of KX G y_Reader.a, mk_Reader := y_Reader.mkr, na_Reader_message := y_Reader.na_message, na_Reader_at := y_Reader.na_at, na_Reader_end := y_Reader.na_end, fn_Reader_init := y_Reader.fn_Reader_init, fn_Reader_pass_over := y_Reader.fn_Reader_pass_over, me_Reader_pass_over := y_Reader.me_Reader_pass_over, fn_Reader_take_byte := y_Reader.fn_Reader_take_byte, me_Reader_take_byte := y_Reader.me_Reader_take_byte, fn_Reader_take_bytes := y_Reader.fn_Reader_take_bytes, me_Reader_take_bytes := y_Reader.me_Reader_take_bytes, fn_Reader_take_number := y_Reader.fn_Reader_take_number, me_Reader_take_number := y_Reader.me_Reader_take_number, fn_Reader_take_part := y_Reader.fn_Reader_take_part, me_Reader_take_part := y_Reader.me_Reader_take_part, fn_Reader_take_name := y_Reader.fn_Reader_take_name, me_Reader_take_name := y_Reader.me_Reader_take_name, fn_Reader_take_label := y_Reader.fn_Reader_take_label, me_Reader_take_label := y_Reader.me_Reader_take_label, fn_Reader_take_string := y_Reader.fn_Reader_take_string, me_Reader_take_string := y_Reader.me_Reader_take_string, fn_Reader_take_rest := y_Reader.fn_Reader_take_rest, me_Reader_take_rest := y_Reader.me_Reader_take_rest, fn_Reader_check_done := y_Reader.fn_Reader_check_done, me_Reader_check_done := y_Reader.me_Reader_check_done, ex_NotMessage := y_NotMessage, fn_number_of := y_number_of, mg_number_of := PySem.W.mg_of KX G a_number_of, fn_read_message := y_read_message, mg_read_message := PySem.W.mg_of KX G a_read_message, fn_read_entry := y_read_entry, mg_read_entry := PySem.W.mg_of KX G a_read_entry, fn_read_data := y_read_data, mg_read_data := PySem.W.mg_of KX G a_read_data, fn_read_layout := y_read_layout, mg_read_layout := PySem.W.mg_of KX G a_read_layout, fn_read_strings := y_read_strings, mg_read_strings := PySem.W.mg_of KX G a_read_strings, fn_signs := y_signs, mg_signs := PySem.W.mg_of KX G a_signs, fn_joined := y_joined, mg_joined := PySem.W.mg_of KX G a_joined, fn_cut := y_cut, mg_cut := PySem.W.mg_of KX G a_cut, fn_decimal := y_decimal, mg_decimal := PySem.W.mg_of KX G a_decimal, fn_decimals := y_decimals, mg_decimals := PySem.W.mg_of KX G a_decimals, fn_hexadecimal := y_hexadecimal, mg_hexadecimal := PySem.W.mg_of KX G a_hexadecimal, fn_escaped := y_escaped, mg_escaped := PySem.W.mg_of KX G a_escaped, fn_is_plain_in_name := y_is_plain_in_name, mg_is_plain_in_name := PySem.W.mg_of KX G a_is_plain_in_name, fn_is_plain_in_string := y_is_plain_in_string, mg_is_plain_in_string := PySem.W.mg_of KX G a_is_plain_in_string, fn_tell_label := y_tell_label, mg_tell_label := PySem.W.mg_of KX G a_tell_label, fn_tell_name := y_tell_name, mg_tell_name := PySem.W.mg_of KX G a_tell_name, fn_tell_string := y_tell_string, mg_tell_string := PySem.W.mg_of KX G a_tell_string, fn_tell_strings := y_tell_strings, mg_tell_strings := PySem.W.mg_of KX G a_tell_strings, fn_tell_any_bytes := y_tell_any_bytes, mg_tell_any_bytes := PySem.W.mg_of KX G a_tell_any_bytes, fn_tell_data := y_tell_data, mg_tell_data := PySem.W.mg_of KX G a_tell_data, fn_tell_class := y_tell_class, mg_tell_class := PySem.W.mg_of KX G a_tell_class, fn_tell_kind := y_tell_kind, mg_tell_kind := PySem.W.mg_of KX G a_tell_kind, fn_tell_entry := y_tell_entry, mg_tell_entry := PySem.W.mg_of KX G a_tell_entry, fn_tell_head := y_tell_head, mg_tell_head := PySem.W.mg_of KX G a_tell_head, fn_tell_message := y_tell_message, mg_tell_message := PySem.W.mg_of KX G a_tell_message, fn_text := y_text, mg_text := PySem.W.mg_of KX G a_text, gv_KIND_A := z_KIND_A, gv_KIND_TXT := z_KIND_TXT, gv_KIND_AAAA := z_KIND_AAAA, gv_KIND_NAMES := ⟨_, PySem.W.mg_of KX G a_KIND_NAMES, rfl⟩, kd_KIND_NAMES := y_KIND_NAMES, gv_LAYOUTS := ⟨_, PySem.W.mg_of KX G a_LAYOUTS, rfl⟩, kd_LAYOUTS := y_LAYOUTS, kt_LAYOUTS_0 := y_v_LAYOUTS_0, kt_LAYOUTS_1 := y_v_LAYOUTS_1, kt_LAYOUTS_2 := y_v_LAYOUTS_2, kt_LAYOUTS_3 := y_v_LAYOUTS_3, kt_LAYOUTS_4 := y_v_LAYOUTS_4, kt_LAYOUTS_5 := y_v_LAYOUTS_5, kt_LAYOUTS_6 := y_v_LAYOUTS_6, kt_LAYOUTS_7 := y_v_LAYOUTS_7, gv_CLASS_NAMES := ⟨_, PySem.W.mg_of KX G a_CLASS_NAMES, rfl⟩, kd_CLASS_NAMES := y_CLASS_NAMES, gv_SECTION_NAMES := ⟨_, PySem.W.mg_of KX G a_SECTION_NAMES, rfl⟩, kt_SECTION_NAMES := y_SECTION_NAMES, gv_QUESTIONS := z_QUESTIONS, gv_MOST_BYTES := z_MOST_BYTES, gv_LONGEST_LABEL := z_LONGEST_LABEL, gv_LONGEST_NAME := z_LONGEST_NAME, gv_FIRST_POINTER := z_FIRST_POINTER, gv_LINE_FEED := z_LINE_FEED, gv_SPACE := z_SPACE, gv_QUOTE := z_QUOTE, gv_HYPHEN := z_HYPHEN, gv_DOT := z_DOT, gv_COLON := z_COLON, gv_BACKSLASH := z_BACKSLASH, gv_UNDERSCORE := z_UNDERSCORE, gv_LAST_PRINTED := z_LAST_PRINTED, gv_HEX_DIGITS := z_HEX_DIGITS, gv_WRONG := z_WRONG, gv_TOO_MUCH := z_TOO_MUCH, nb_enumerate := z_enumerate, nb_len := z_len, nb_ord := z_ord, nb_range := z_range, nb_str := z_str }
    have e := hmg.symm.trans T.mg_text
    cases e
    obtain ⟨fd, Fn, bd⟩ := T.fn_text
    exact ⟨fd, bd, fun base => Pn.run_text T Fn⟩
#print axioms PySem.Challenge.cw_postnames_s01_text_holds
end
