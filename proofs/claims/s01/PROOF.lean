import PyProof.Rows.All
import Wide.All
import OpenK.AllK
import Wide.FinOn
import PyProof.EqAt
import PyProof.EqKinds
import PyProof.TupleCall
import KE.BitLaws
import Open.SpecLaws
import KE.OsHead
import KE.OsGo
import PyFlatLaws
import PySem.Challenge.RW_shelfnames_s01_answers
section
set_option Elab.async false
set_option linter.all false
set_option maxRecDepth 100000
namespace L2
open PySem PySem.Spec PyProof.Rows

noncomputable abbrev Key := Sum Int Str
noncomputable def keyIs : Key → Value → Bool
  | .inl k, v => Value.isInt k v
  | .inr x, v => Value.isStrOf x v
noncomputable def keyH (w : World) : Key → Int
  | .inl k => hashInt k
  | .inr x => hashStr w x
theorem keyIs_shape : ∀ {k : Key} {v : Value}, keyIs k v = true → (∃ i t, k = Sum.inl i ∧ v = Value.int i t) ∨ (∃ x t, k = Sum.inr x ∧ v = Value.str x t)
  | .inl i, v, h => by
    obtain ⟨t, e⟩ := Value.isInt_shape (k := i) (v := v) h
    exact .inl ⟨i, t, rfl, e⟩
  | .inr x, v, h => by
    obtain ⟨t, e⟩ := Value.isStrOf_shape (x := x) (v := v) h
    exact .inr ⟨x, t, rfl, e⟩
theorem keyIs_int (i : Int) (t : Tok) : keyIs (.inl i) (.int i t) = true := by simp [keyIs, Value.isInt]
theorem keyIs_str (x : Str) (t : Tok) : keyIs (.inr x) (.str x t) = true := by simp [keyIs, Value.isStrOf]
theorem key_ll (a b : Int) : decide ((Sum.inl a : Key) = Sum.inl b) = (a == b) := by
  by_cases e : a = b
  · subst e; simp
  · have h : ¬ (Sum.inl a : Key) = Sum.inl b := fun q => e (Sum.inl.inj q)
    rw [decide_eq_false h]
    exact (beq_eq_false_iff_ne.mpr e).symm
theorem key_rr (a b : Str) : decide ((Sum.inr a : Key) = Sum.inr b) = decide (a = b) := by
  by_cases e : a = b
  · subst e; simp
  · have h : ¬ (Sum.inr a : Key) = Sum.inr b := fun q => e (Sum.inr.inj q)
    rw [decide_eq_false h, decide_eq_false e]
theorem key_lr (a : Int) (b : Str) : decide ((Sum.inl a : Key) = Sum.inr b) = false := decide_eq_false (fun q => nomatch q)
theorem key_rl (a : Str) (b : Int) : decide ((Sum.inr a : Key) = Sum.inl b) = false := decide_eq_false (fun q => nomatch q)

noncomputable def mixKind (prog : Program) (w : World) : PySem.KeyKind prog w Key where
  is := keyIs
  hash := keyH w
  inj := fun v a b ha hb => by
    rcases keyIs_shape ha with ⟨i, t, rfl, rfl⟩ | ⟨x, t, rfl, rfl⟩
    · rcases keyIs_shape hb with ⟨j, u, rfl, e⟩ | ⟨y, u, rfl, e⟩
      · injection e with e1 _; rw [e1]
      · exact nomatch e
    · rcases keyIs_shape hb with ⟨j, u, rfl, e⟩ | ⟨y, u, rfl, e⟩
      · exact nomatch e
      · injection e with e1 _; rw [e1]
  byValue := fun k v h => by
    rcases keyIs_shape h with ⟨i, t, rfl, rfl⟩ | ⟨x, t, rfl, rfl⟩ <;> rfl
  pyHash := fun hv h => by
    rcases keyIs_shape hv with ⟨i, t, rfl, rfl⟩ | ⟨x, t, rfl, rfl⟩
    · exact wpAny_pyHash_int h
    · exact wpAny_pyHash_str h
  eqBool := fun hu hv h => by
    rcases keyIs_shape hu with ⟨i, t, rfl, rfl⟩ | ⟨x, t, rfl, rfl⟩
    · rcases keyIs_shape hv with ⟨j, u, rfl, rfl⟩ | ⟨y, u, rfl, rfl⟩
      · rw [key_ll] at h; exact wpAny_eqBool_int h
      · rw [key_lr] at h; exact SeqAt.EqAt.int_str i t y u _ _ _ _ h
    · rcases keyIs_shape hv with ⟨j, u, rfl, rfl⟩ | ⟨y, u, rfl, rfl⟩
      · rw [key_rl] at h; exact SeqAt.EqAt.str_int x t j u _ _ _ _ h
      · rw [key_rr] at h; exact wpAny_eqBool_str h
  «strs» := fun k x t v h => by
    rcases keyIs_shape h with ⟨i, u, rfl, e⟩ | ⟨y, u, rfl, e⟩
    · exact nomatch e
    · injection e with e1 _
      subst e1
      cases v <;> rfl

theorem mixKind_int (prog : Program) (w : World) (i : Int) (t : Tok) : (mixKind prog w).is (.inl i) (.int i t) = true := keyIs_int i t
theorem mixKind_str (prog : Program) (w : World) (x : Str) (t : Tok) : (mixKind prog w).is (.inr x) (.str x t) = true := keyIs_str x t
end L2

namespace L2
open PySem PySem.Spec PyProof.Rows

inductive V where
  | non | bl (b : Bool) | int (i : Int) | str (x : Str) | byt (b : Array UInt8) | flt (b : UInt64) | ref (a : Addr) | ty (n : String)
  deriving DecidableEq

noncomputable def RelV : V → Value → Prop
  | .non, u => u = Value.none
  | .bl b, u => u = Value.bool b
  | .int i, u => ∃ t, u = Value.int i t
  | .str x, u => ∃ t, u = Value.str x t
  | .byt b, u => ∃ t, u = Value.bytes b t
  | .flt b, u => ∃ t, u = Value.float b t
  | .ref a, u => u = Value.ref a
  | .ty n, u => u = Value.type n

noncomputable abbrev Vals : List V → List Value → Prop := Paired RelV
theorem Vals.length {xs : List V} {us : List Value} (r : Vals xs us) : xs.length = us.length := Paired.length r
theorem Vals.get : ∀ {xs : List V} {us : List Value} {i : Nat} {x : V}, Vals xs us → xs[i]? = some x → ∃ u, us[i]? = some u ∧ RelV x u
  | _, _, _, _, .nil, e => by simp at e
  | _, _, 0, _, .cons r _, e => by simp at e; subst e; exact ⟨_, rfl, r⟩
  | _, _, i + 1, x, .cons _ t, e => by
    obtain ⟨u, h1, h2⟩ := Vals.get (i := i) (x := x) t (by simpa using e)
    exact ⟨u, by simpa using h1, h2⟩
theorem Vals.set {x : V} {u : Value} (r : RelV x u) : ∀ {xs : List V} {us : List Value} (i : Nat), Vals xs us → Vals (xs.set i x) (us.set i u)
  | _, _, _, .nil => .nil
  | _, _, 0, .cons _ t => .cons r t
  | _, _, i + 1, .cons q t => .cons q (Vals.set r i t)
theorem Vals.append : ∀ {xs ys : List V} {us ws : List Value}, Vals xs us → Vals ys ws → Vals (xs ++ ys) (us ++ ws)
  | _, _, _, _, .nil, s => s
  | _, _, _, _, .cons r t, s => .cons r (Vals.append t s)
theorem Vals.take : ∀ {xs : List V} {us : List Value} (n : Nat), Vals xs us → Vals (xs.take n) (us.take n)
  | _, _, 0, _ => .nil
  | _, _, _ + 1, .nil => .nil
  | _, _, n + 1, .cons r t => .cons r (Vals.take n t)
theorem Vals.drop : ∀ {xs : List V} {us : List Value} (n : Nat), Vals xs us → Vals (xs.drop n) (us.drop n)
  | _, _, 0, r => r
  | _, _, _ + 1, .nil => .nil
  | _, _, n + 1, .cons _ t => Vals.drop n t
noncomputable def RelO : Option V → Option Value → Prop
  | some v, some u => RelV v u
  | none, none => True
  | _, _ => False
noncomputable def KV {κ : Type} : List (κ × V) → List (κ × Value) → Prop := Paired fun (p : κ × V) (q : κ × Value) => p.1 = q.1 ∧ RelV p.2 q.2

noncomputable def kV : Key → V
  | .inl i => .int i
  | .inr x => .str x

inductive HO where
  | lst (xs : List V)
  | tup (xs : List V)
  | dK (kvs : List (Key × V)) | dT (kvs : List (List Key × V))
  | set (S : Int → Bool) (n : Nat)
  | ins (C dx : Addr) (fs : List (Str × V))
  | own (x : Addr)
  | xd (fs : List (Str × V))
  | met (f x : Addr)
  | rng (lo hi : Int)
  | frz (o : Obj) (u : HO)
  | tbl (ps : Array Value)
  | ext (φ : Heap → Prop)

noncomputable abbrev Hp := Addr → Option HO
noncomputable def upd (H : Hp) (a : Addr) (o : HO) : Hp := fun b => if b = a then some o else H b
theorem upd_same {H : Hp} {a : Addr} {o : HO} : upd H a o a = some o := by unfold upd; rw [if_pos rfl]
theorem upd_ne {H : Hp} {a b : Addr} {o : HO} (h : b ≠ a) : upd H a o b = H b := by unfold upd; rw [if_neg h]
theorem ne_of {H : Hp} {a b : Addr} {o u : HO} (h : H a = some o) (h' : H b = some u) (d : o ≠ u) : a ≠ b := by
  intro e; subst e; rw [h] at h'; exact d (Option.some.inj h')
theorem ne_of_none {H : Hp} {a b : Addr} {o : HO} (h : H a = some o) (h' : H b = none) : a ≠ b := by
  intro e; subst e; rw [h] at h'; cases h'

section
variable (P : Program) (w : World)
noncomputable def ObjOk (H : Hp) (h : Heap) (a : Addr) : HO → Prop
  | .lst xs => xs.length ≤ sizeLine ∧ ∃ (its : List Value) (n : Nat), Vals xs its ∧ h.get? a = some { cls := .type "list", data := .seq its.toArray n }
  | .tup xs => xs.length ≤ sizeLine ∧ ∃ its : List Value, Vals xs its ∧ IsTup h a its.toArray
  | .dK kvs => kvs.length ≤ sizeLine ∧ (a == sysModules) = false ∧ ∃ vs, KV kvs vs ∧ h.DictOf (mixKind P w) a vs
  | .dT kvs => kvs.length ≤ sizeLine ∧ (a == sysModules) = false ∧ ∃ xs : List (List Key × Addr × Value),
      Paired (fun (p : List Key × V) (q : List Key × Addr × Value) => p.1 = q.1 ∧ H q.2.1 = some (.tup (p.1.map kV)) ∧ RelV p.2 q.2.2) kvs xs ∧
      ∃ o es ep, h.get? a = some o ∧ o.ExactDict ∧ o.data = .dict es ep ∧ es.toList = xs.map (entryOfKey (tupleKind (mixKind P w))) ∧ (xs.map (·.1)).Nodup
  | .set S n => h.SetOf (intKind P w) a S n
  | .ins C dx fs => H dx = some (.own a) ∧ fs.length ≤ 1000 ∧ dx ≠ a ∧ h.get? a = some (PySem.W.instObj C dx) ∧
      ∃ mA, h.Ns1 dx mA ∧ (∀ f, RelO (fs.lookup f) (mA f)) ∧ PySem.Within mA (fs.map (·.1))
  | .own _ => ∃ o, h.get? a = some o
  | .xd fs => ∃ mA, h.Ns1 a mA ∧ ∀ f, RelO (fs.lookup f) (mA f)
  | .rng lo hi => ∃ t u v, h.get? a = some { cls := .type "range", data := .fields #[.int lo t, .int hi u, .int 1 v] }
  | .frz o u => h.get? a = some o ∧ ObjOk H h a u
  | .tbl ps => h.get? a = some { cls := .none, data := .fields ps }
  | .met f x => h.get? a = some (PySem.W.methodObj (.ref f) (.ref x))
  | .ext φ => φ h ∧ (∃ o, h.get? a = some o) ∧ ∀ h1 h2 : Heap, φ h1 → (∀ o, h1.get? a = some o → h2.get? a = some o) → φ h2
noncomputable def HOk (H : Hp) (h : Heap) : Prop := ∀ a o, H a = some o → ObjOk P w H h a o
end

section
variable {P : Program} {w : World} {H H' : Hp} {h h' : Heap} {a : Addr} {o : HO}
theorem ObjOk.lt (x : ObjOk P w H h a o) : a < h.objs.size := by
  cases o with
  | lst xs => obtain ⟨_, _, _, _, e⟩ := x; exact Heap.lt_size e
  | tup xs => obtain ⟨_, _, _, p⟩ := x; exact p.lt
  | dK kvs => obtain ⟨_, _, _, _, o, _, _, e, _⟩ := x; exact Heap.lt_size e
  | dT kvs => obtain ⟨_, _, _, _, o, _, _, e, _⟩ := x; exact Heap.lt_size e
  | set S n => obtain ⟨o, _, _, _, e, _⟩ := x; exact Heap.lt_size e
  | ins C dx fs => obtain ⟨_, _, _, e, _⟩ := x; exact Heap.lt_size e
  | own y => obtain ⟨_, e⟩ := x; exact Heap.lt_size e
  | xd fs => obtain ⟨_, ⟨_, _, _, e, _⟩, _⟩ := x; exact Heap.lt_size e
  | rng lo hi => obtain ⟨_, _, _, e⟩ := x; exact Heap.lt_size e
  | frz ob u => obtain ⟨e, _⟩ := x; exact Heap.lt_size e
  | tbl ps => exact Heap.lt_size (show h.get? a = some _ from x)
  | met f y => exact Heap.lt_size (show h.get? a = some _ from x)
  | ext φ => obtain ⟨_, ⟨_, e⟩, _⟩ := x; exact Heap.lt_size e
theorem Paired.mapP {α β : Type} {F G : α → β → Prop} : ∀ {l₁ : List α} {l₂ : List β}, Paired F l₁ l₂ → (∀ a b, F a b → G a b) → Paired G l₁ l₂
  | _, _, .nil, _ => .nil
  | _, _, .cons r t, f => .cons (f _ _ r) (Paired.mapP t f)
theorem ObjOk.stay (x : ObjOk P w H h a o) (k : ∀ b u, (b = a ∨ H b = some (.own a)) → h.get? b = some u → h'.get? b = some u)
    (ho : ∀ b, H b = some (.own a) → H' b = some (.own a)) (ht : ∀ b xs, H b = some (.tup xs) → H' b = some (.tup xs)) : ObjOk P w H' h' a o := by
  induction o with
  | lst xs => obtain ⟨z, its, n, r, e⟩ := x; exact ⟨z, its, n, r, k _ _ (.inl rfl) e⟩
  | tup xs => obtain ⟨z, its, r, ob, e, c⟩ := x; exact ⟨z, its, r, ob, k _ _ (.inl rfl) e, c⟩
  | dK kvs => obtain ⟨z, y, vs, r, ob, es, ep, e, c⟩ := x; exact ⟨z, y, vs, r, ob, es, ep, k _ _ (.inl rfl) e, c⟩
  | dT kvs =>
    obtain ⟨z, y, xs, r, ob, es, ep, e, c⟩ := x
    exact ⟨z, y, xs, Paired.mapP r fun p q z => ⟨z.1, ht _ _ z.2.1, z.2.2⟩, ob, es, ep, k _ _ (.inl rfl) e, c⟩
  | set S n => obtain ⟨ob, es, ep, t, e, c⟩ := x; exact ⟨ob, es, ep, t, k _ _ (.inl rfl) e, c⟩
  | ins C dx fs =>
    obtain ⟨d, z, ne, e, mA, ⟨od, es, ep, e2, c⟩, r⟩ := x
    exact ⟨ho _ d, z, ne, k _ _ (.inl rfl) e, mA, ⟨od, es, ep, k _ _ (.inr d) e2, c⟩, r⟩
  | own y => obtain ⟨ob, e⟩ := x; exact ⟨ob, k _ _ (.inl rfl) e⟩
  | xd fs => obtain ⟨mA, ⟨od, es, ep, e, c⟩, r⟩ := x; exact ⟨mA, ⟨od, es, ep, k _ _ (.inl rfl) e, c⟩, r⟩
  | rng lo hi => obtain ⟨t, u, v, e⟩ := x; exact ⟨t, u, v, k _ _ (.inl rfl) e⟩
  | frz ob u ih => obtain ⟨e, q⟩ := x; exact ⟨k _ _ (.inl rfl) e, ih q⟩
  | tbl ps =>
    have e : h.get? a = some { cls := .none, data := .fields ps } := x
    show h'.get? a = some { cls := .none, data := .fields ps }
    exact k a _ (.inl rfl) e
  | met f y =>
    have e : h.get? a = some (PySem.W.methodObj (.ref f) (.ref y)) := x
    show h'.get? a = some (PySem.W.methodObj (.ref f) (.ref y))
    exact k a _ (.inl rfl) e
  | ext φ => obtain ⟨p, ⟨o, e⟩, st⟩ := x; exact ⟨st _ _ p fun o q => k _ _ (.inl rfl) q, ⟨o, k _ _ (.inl rfl) e⟩, st⟩
theorem HOk.lt (x : HOk P w H h) (e : H a = some o) : a < h.objs.size := (x a o e).lt
theorem HOk.fresh (x : HOk P w H h) (e : h.objs.size ≤ a) : H a = none := by
  cases q : H a with
  | none => rfl
  | some u => exact absurd (Nat.lt_of_lt_of_le (x.lt q) e) (Nat.lt_irrefl _)
theorem HOk.kept (x : HOk P w H h) (k : ∀ b u, h.get? b = some u → h'.get? b = some u) : HOk P w H h' := fun a o e =>
  (x a o e).stay (fun b u _ q => k b u q) (fun _ q => q) fun _ _ q => q
theorem HOk.laid (x : HOk P w H h) (k : ∀ b u, h.get? b = some u → h'.get? b = some u) (hp : h.objs.size ≤ a) (new : ObjOk P w (upd H a o) h' a o) : HOk P w (upd H a o) h' := fun b u e => by
  have hn := x.fresh hp
  by_cases hb : b = a
  · subst hb; rw [upd_same] at e; cases e; exact new
  · rw [upd_ne hb] at e
    exact (x b u e).stay (fun c v _ q => k c v q) (fun c q => by rw [upd_ne (ne_of_none q hn)]; exact q) fun c xs q => by rw [upd_ne (ne_of_none q hn)]; exact q
end

noncomputable def Rd (H : Hp) (a : Addr) (u : HO) : Prop := H a = some u ∨ ∃ o, H a = some (.frz o u)
theorem Rd.ok {P : Program} {w : World} {H : Hp} {h : Heap} {a : Addr} {u : HO} (r : Rd H a u) (x : HOk P w H h) : ObjOk P w H h a u := by
  rcases r with r | ⟨o, r⟩
  · exact x a u r
  · obtain ⟨_, q⟩ := x a _ r
    exact q
noncomputable def Mut : Option HO → Prop
  | some (.lst _) => True
  | some (.dK _) => True
  | some (.dT _) => True
  | some (.set _ _) => True
  | some (.ins _ _ _) => True
  | some (.ext _) => True
  | _ => False
section
variable {P : Program} {w : World} {H : Hp} {h h' : Heap} {x e : Addr} {o' : HO}
theorem HOk.write (ok : HOk P w H h) (mu : Mut (H x)) (he : e = x ∨ H e = some (.own x)) (k : ∀ b u, b ≠ e → h.get? b = some u → h'.get? b = some u) (heo : ∃ u, h'.get? e = some u)
    (new : ObjOk P w (upd H x o') h' x o') : HOk P w (upd H x o') h' := fun b u q => by
  have nown : ∀ c y, H c = some (.own y) → c ≠ x := fun c y r z => by subst z; rw [r] at mu; exact mu
  have ntup : ∀ c xs, H c = some (.tup xs) → c ≠ x := fun c xs r z => by subst z; rw [r] at mu; exact mu
  by_cases hb : b = x
  · subst hb; rw [upd_same] at q; cases q; exact new
  · rw [upd_ne hb] at q
    by_cases hbe : b = e
    · have q' : H b = some (.own x) := by
        rcases he with z | z
        · exact absurd (hbe.trans z) hb
        · rw [hbe]; exact z
      rw [q] at q'; cases q'
      obtain ⟨v, hv⟩ := heo
      exact ⟨v, by rw [hbe]; exact hv⟩
    · refine (ok b u q).stay (fun c v hc r => k c v ?_ r) (fun c r => by rw [upd_ne (nown c b r)]; exact r) fun c xs r => by rw [upd_ne (ntup c xs r)]; exact r
      rcases hc with rfl | hc
      · exact hbe
      · rintro rfl
        rcases he with z | z
        · exact nown c b hc z
        · rw [hc] at z; cases z; exact hb rfl
end

structure Un (fs ex : List Addr) (H H' : Hp) (h h' : Heap) : Prop where
  keep : ∀ b o, h.get? b = some o → H b = none → b ∉ fs → b ∉ ex → h'.get? b = some o
  slot : ∀ b o, h.get? b = some o → H b = none → b ∈ fs → b ∉ ex → ∃ sl, h'.get? b = some { o with slots := sl }
  free : ∀ b o, h.get? b = some o → H b = none → b ∉ ex → H' b = none
  there : ∀ b o, h.get? b = some o → b ∉ ex → ∃ o', h'.get? b = some o'
  tups : ∀ b xs, H b = some (.tup xs) → H' b = some (.tup xs)
  frzs : ∀ b o u, H b = some (.frz o u) → H' b = some (.frz o u)
  tbls : ∀ b ps, H b = some (.tbl ps) → ∃ more, H' b = some (.tbl (ps ++ more))
section
variable {fs fs' ex ex' : List Addr} {H H1 H2 : Hp} {h h1 h2 h' : Heap} {a x e : Addr} {o : HO}
theorem Un.any (u : Un fs ex H H1 h h1) {b : Addr} {ob : Obj} (q : h.get? b = some ob) (n : H b = none) (hx : b ∉ ex) : ∃ sl, h1.get? b = some { ob with slots := sl } := by
  by_cases hb : b ∈ fs
  · exact u.slot b ob q n hb hx
  · exact ⟨ob.slots, u.keep b ob q n hb hx⟩
theorem Un.kept (k : ∀ b u, h.get? b = some u → h'.get? b = some u) : Un fs ex H H h h' :=
  ⟨fun b ob q _ _ _ => k b ob q, fun b ob q _ _ _ => ⟨ob.slots, k b ob q⟩, fun _ _ _ n _ => n, fun b ob q _ => ⟨ob, k b ob q⟩, fun _ _ q => q, fun _ _ _ q => q, fun _ ps q => ⟨#[], by rw [q]; simp⟩⟩
theorem Un.refl : Un fs ex H H h h := Un.kept fun _ _ q => q
theorem Un.laid (k : ∀ b u, h.get? b = some u → h'.get? b = some u) (hp : h.objs.size ≤ a) (hn : H a = none) : Un fs ex H (upd H a o) h h' where
  keep := fun b u q _ _ _ => k b u q
  slot := fun b u q _ _ _ => ⟨u.slots, k b u q⟩
  free := fun b u q n _ => by rw [upd_ne (Nat.ne_of_lt (Nat.lt_of_lt_of_le (Heap.lt_size q) hp))]; exact n
  there := fun b u q _ => ⟨u, k b u q⟩
  tups := fun b xs q => by rw [upd_ne (ne_of_none q hn)]; exact q
  frzs := fun b u xs q => by rw [upd_ne (ne_of_none q hn)]; exact q
  tbls := fun b ps q => ⟨#[], by rw [upd_ne (ne_of_none q hn), q]; simp⟩
theorem Un.write (mu : Mut (H x)) (he : e = x ∨ H e = some (.own x)) (k : ∀ b u, b ≠ e → h.get? b = some u → h'.get? b = some u) (heo : ∃ u, h'.get? e = some u) : Un fs ex H (upd H x o) h h' := by
  have hx : ∀ b, H b = none → b ≠ x := fun b n z => by subst z; rw [n] at mu; exact mu
  have hb : ∀ b, H b = none → b ≠ e := fun b n z => by
    subst z
    rcases he with r | r
    · exact hx b n r
    · rw [n] at r; cases r
  have hm : ∀ b u, H b = some u → ¬ Mut (some u) → b ≠ x := fun b u q nm z => by subst z; rw [q] at mu; exact nm mu
  refine ⟨fun b u q n _ _ => k b u (hb b n) q, fun b u q n _ _ => ⟨u.slots, k b u (hb b n) q⟩, fun b u q n _ => by rw [upd_ne (hx b n)]; exact n, fun b u q _ => ?_,
    fun b xs q => by rw [upd_ne (hm b _ q fun z => z)]; exact q, fun b u xs q => by rw [upd_ne (hm b _ q fun z => z)]; exact q, fun b ps q => ⟨#[], by rw [upd_ne (hm b _ q fun z => z), q]; simp⟩⟩
  by_cases hbe : b = e
  · subst hbe; exact heo
  · exact ⟨u, k b u hbe q⟩
end

noncomputable def trk (h : Heap) (H : Hp) : List Addr := (List.range h.objs.size).filter fun a => (H a).isSome
noncomputable def hidT (h : Heap) (H : Hp) : Heap := PySem.W.hideAll h (trk h H)
theorem hidT_size (h : Heap) (H : Hp) : (hidT h H).objs.size = h.objs.size := PySem.W.hideAll_size _ _
theorem hidT_get {h : Heap} {H : Hp} {b : Addr} {o : Obj} (e : h.get? b = some o) (n : H b = none) : (hidT h H).get? b = some o :=
  PySem.W.hideAll_get _ e fun hm => by
    have q : (H b).isSome = true := (List.mem_filter.mp hm).2
    rw [n] at q; simp at q
theorem of_hidT {h : Heap} {H : Hp} {b : Addr} {o : Obj} (e : (hidT h H).get? b = some o) : h.get? b = some o ∧ H b = none := by
  have e' : h.get? b = some o := PySem.W.of_hideAll (trk h H) e
  refine ⟨e', ?_⟩
  cases q : H b with
  | none => rfl
  | some x =>
    have hm : b ∈ trk h H := List.mem_filter.mpr ⟨List.mem_range.mpr (Heap.lt_size e'), by simp [q]⟩
    have z : (hidT h H).get? b = none := PySem.W.hideAll_none (trk h H) hm
    rw [z] at e; cases e

noncomputable def allNews (g h : Heap) (L : Addr) : List (Addr × Obj) := (List.range h.objs.size).filterMap fun a => if a = L ∨ (g.get? a).isSome = true then none else (h.get? a).map fun o => (a, o)
noncomputable def rest (g h : Heap) (L d : Addr) : List (Addr × Obj) := (allNews g h L).filter fun p => decide (p.1 ≠ d)
end L2

namespace L2
open PySem PySem.Spec PyProof.Rows

structure Mod (K : PySem.W.Frag) (mg : Str → Option Value) (base : Heap) : Prop where
  kin : K.In base
  glob : base.Ns mainGlobals mg
  blt : ∃ mb, base.Ns builtinsNs mb ∧ ∀ x : Str, x ≠ "__name__" → mb x = bootBuiltins x
  nolimit : base.NoLimit

structure Cx where
  prog : Program
  w : World
  K : PySem.W.Frag
  mg : Str → Option Value
  base : Heap
  A : Around
  N : List Str
  s_0 : Shared
  H_0 : Hp
  env : Env
  outer : List Env
  stack : List Env
  ex : List Addr
  fn : Str → Bool
  calm : Bool
  pn : List (Addr × Obj)
  xe : Value → Shared → Prop
noncomputable def frs (l : List Env) : List Addr := l.filterMap (·.frame)
noncomputable abbrev Cx.fs (X : Cx) : List Addr := frs X.outer

noncomputable def Vis (sc : Scope) (x : Str) : Prop := sc.names.lookup x = some .local ∨ sc.names.lookup x = some .cell ∨ sc.names.lookup x = some .free
noncomputable def Loc (sc : Scope) (x : Str) : Prop := sc.names.lookup x = some .local ∨ sc.names.lookup x = some .cell
noncomputable def Look (env : Env) (h : Heap) (m : Str → Option Value) (x : Str) (u : Value) : Prop :=
  (env.kindOf x = some .local ∧ m x = some u) ∨ ((env.kindOf x = some .cell ∨ env.kindOf x = some .free) ∧ ∃ c, env.cells.lookup x = some c ∧ h.IsCell c (some u))

structure Cx.Ok (X : Cx) : Prop where
  mod : Mod X.K X.mg X.base
  kind : X.env.scope.kind = .function
  glob : X.env.globals = mainGlobals
  blt : X.env.builtins = builtinsNs
  above : X.s_0.heap.objs.size ≤ X.env.locals
  inj : ∀ x y c, X.env.cells.lookup x = some c → X.env.cells.lookup y = some c → x = y
  has : ∀ x, (X.env.kindOf x = some .cell ∨ X.env.kindOf x = some .free) → ∃ c, X.env.cells.lookup x = some c
  cab : ∀ x c, X.fn x = true → X.env.cells.lookup x = some c → X.s_0.heap.objs.size ≤ c
  hd : X.calm = true → X.A.handled = none
  frames : X.A.frames = some X.stack
  stk : X.stack = X.outer ∨ (X.stack = X.env :: X.outer ∧ X.env.frame = some X.env.locals)
  exf : ∀ b ∈ X.ex, b ≠ X.env.locals ∧ ∀ x c, X.env.cells.lookup x = some c → c ≠ b
  bs : ∀ b o, X.base.get? b = some o → X.s_0.heap.get? b = some o ∧ X.H_0 b = none
  bsz : X.base.objs.size ≤ X.s_0.heap.objs.size
  noex : ∀ b o, X.base.get? b = some o → b ∉ X.ex
  exfs : ∀ b ∈ X.ex, b ∉ X.fs
  funs : X.s_0.heap.FunFrames X.base X.outer
  frf : ∀ b ∈ X.fs, X.H_0 b = none

structure Inv (X : Cx) (pins : List (Addr × Obj)) (σ : List (Option V)) (H : Hp) (s : Shared) : Prop where
  ok : X.Ok
  os : s.os = X.s_0.os
  bare : AllBare s.gens
  base : Un X.fs X.ex X.H_0 H X.s_0.heap s.heap
  loc : ∃ m, s.heap.Ns X.env.locals m ∧ ∀ (i : Nat) (x : Str) (v : V), X.N[i]? = some x → σ[i]? = some (some v) → Vis X.env.scope x → ∃ u, RelV v u ∧ Look X.env s.heap m x u
  cell : ∀ x c, X.env.cells.lookup x = some c → ∃ v, s.heap.IsCell c v
  free : H X.env.locals = none
  freeC : ∀ x c, X.env.cells.lookup x = some c → H c = none
  pin : ∀ p ∈ X.pn ++ pins, s.heap.get? p.1 = some p.2 ∧ H p.1 = none ∧ p.1 ≠ X.env.locals ∧ p.1 ∉ X.fs ∧ ∀ v, p.2.data ≠ .cell v
  hok : HOk X.prog X.w H s.heap
  len : σ.length = X.N.length

section
variable {X : Cx} {pins : List (Addr × Obj)} {σ : List (Option V)} {H H' : Hp} {s : Shared} {h' : Heap}

theorem Cx.Ok.nofr (ok : X.Ok) {b : Addr} {o : Obj} (e : X.base.get? b = some o) : b ∉ X.fs := fun hb => by
  have := (ok.funs.mem hb).1
  rw [e] at this; cases this
theorem Inv.bs (I : Inv X pins σ H s) : ∀ b o, X.base.get? b = some o → s.heap.get? b = some o ∧ H b = none := fun b o e =>
  ⟨I.base.keep b o (I.ok.bs b o e).1 (I.ok.bs b o e).2 (I.ok.nofr e) (I.ok.noex b o e), I.base.free b o (I.ok.bs b o e).1 (I.ok.bs b o e).2 (I.ok.noex b o e)⟩
theorem Inv.bk (I : Inv X pins σ H s) : ∀ b o, X.base.get? b = some o → s.heap.get? b = some o := fun b o e => (I.bs b o e).1
theorem Inv.mod (I : Inv X pins σ H s) : Mod X.K X.mg X.base := I.ok.mod
theorem Inv.kIn (I : Inv X pins σ H s) : X.K.In s.heap := I.ok.mod.kin.keeps I.bk
theorem Inv.fr (I : Inv X pins σ H s) : ∃ m, Fr X.base X.env.locals s.heap m :=
  let ⟨m, hn, _⟩ := I.loc
  ⟨m, hn, I.bk, Nat.le_trans I.ok.bsz I.ok.above⟩
theorem Inv.lt (I : Inv X pins σ H s) : X.env.locals < s.heap.objs.size := let ⟨_, hn, _⟩ := I.loc; hn.lt
theorem Inv.sz (I : Inv X pins σ H s) : X.s_0.heap.objs.size ≤ s.heap.objs.size := Nat.le_trans I.ok.above (Nat.le_of_lt I.lt)
theorem Inv.nofs (I : Inv X pins σ H s) {a : Addr} (h : s.heap.objs.size ≤ a) : a ∉ X.fs := fun hb => by
  obtain ⟨_, o, ho, _⟩ := I.ok.funs.mem hb
  exact absurd (Nat.lt_of_lt_of_le (Heap.lt_size ho) (Nat.le_trans I.sz h)) (Nat.lt_irrefl _)
theorem Inv.cne (I : Inv X pins σ H s) : ∀ x c, X.env.cells.lookup x = some c → c ≠ X.env.locals := fun x c e z => by
  obtain ⟨v, o, ho, hd⟩ := I.cell x c e
  obtain ⟨m, ⟨o', es, ep, ho', hd', _⟩, _⟩ := I.loc
  rw [z, ho'] at ho; cases ho; rw [hd'] at hd; cases hd
theorem Inv.funs (I : Inv X pins σ H s) : s.heap.FunFrames X.base X.outer := by
  have all : ∀ (l : List Env), (∀ b ∈ frs l, b ∈ X.fs) → X.s_0.heap.FunFrames X.base l → s.heap.FunFrames X.base l := by
    intro l
    induction l with
    | nil => intro _ _; trivial
    | cons env r ih =>
      intro hs hl
      obtain ⟨hk, ⟨L, o, hf, hn, ho, hd⟩, hr⟩ := hl
      have hL : L ∈ X.fs := hs L (by unfold frs; rw [List.filterMap_cons, hf]; exact List.mem_cons_self)
      obtain ⟨sl, e⟩ := I.base.slot L o ho (I.ok.frf L hL) hL fun z => I.ok.exfs L z hL
      exact ⟨hk, ⟨L, _, hf, hn, e, hd⟩, ih (fun b hb => hs b (by unfold frs; rw [List.filterMap_cons, hf]; exact List.mem_cons_of_mem _ hb)) hr⟩
  exact all X.outer (fun _ hb => hb) I.ok.funs

theorem Inv.stack (I : Inv X pins σ H s) : s.heap.FunFrames X.base X.stack := by
  rcases I.ok.stk with e | ⟨e, hf⟩
  · rw [e]; exact I.funs
  · rw [e]
    obtain ⟨m, hn, _⟩ := I.loc
    refine .cons (by rw [I.ok.kind]; decide) hf hn ?_ I.funs
    exact Heap.get?_none_of_le (Nat.le_trans I.ok.bsz I.ok.above)
theorem Inv.stkSub (I : Inv X pins σ H s) : ∀ b ∈ frs X.stack, b ∈ X.env.locals :: X.fs := fun b hb => by
  rcases I.ok.stk with e | ⟨e, hf⟩
  · rw [e] at hb; exact List.mem_cons_of_mem _ hb
  · rw [e] at hb
    unfold frs at hb
    rw [List.filterMap_cons, hf] at hb
    exact hb
theorem Inv.stkFree (I : Inv X pins σ H s) : ∀ b ∈ frs X.stack, H b = none := fun b hb => by
  rcases List.mem_cons.mp (I.stkSub b hb) with e | hb
  · rw [e]; exact I.free
  · obtain ⟨_, o, ho, _⟩ := I.ok.funs.mem hb
    exact I.base.free b o ho (I.ok.frf b hb) fun z => I.ok.exfs b z hb

theorem Inv.step {g' : Array GenState} {t' : Nat} {d' : Drawn} {ch : List Addr} (I : Inv X pins σ H s)
    (hch : ∀ b ∈ ch, (b ∈ X.ex ∨ X.s_0.heap.objs.size ≤ b) ∧ b ≠ X.env.locals ∧ (∀ x c, X.env.cells.lookup x = some c → c ≠ b) ∧ ∀ p ∈ X.pn ++ pins, p.1 ≠ b)
    (keep : ∀ b o, b ≠ X.env.locals → b ∉ X.fs → b ∉ ch → s.heap.get? b = some o → H b = none → h'.get? b = some o)
    (slot : ∀ b o, b ≠ X.env.locals → b ∈ X.fs → b ∉ ch → s.heap.get? b = some o → H b = none → ∃ sl, h'.get? b = some { o with slots := sl }) (free : ∀ b o, b ∉ ch → s.heap.get? b = some o → H b = none → H' b = none)
    (there : ∀ b o, b ∉ ch → s.heap.get? b = some o → ∃ o', h'.get? b = some o')
    (tups : ∀ b xs, H b = some (.tup xs) → H' b = some (.tup xs)) (frzs : ∀ b o u, H b = some (.frz o u) → H' b = some (.frz o u)) (tbls : ∀ b ps, H b = some (.tbl ps) → ∃ more, H' b = some (.tbl (ps ++ more)))
    (ns : ∀ m, s.heap.Ns X.env.locals m → h'.Ns X.env.locals m) (hok : HOk X.prog X.w H' h') (hg : AllBare g') :
    Inv X pins σ H' { s with heap := h', gens := g', drawn := d', toks := t' } := by
  have neL : ∀ b o, X.s_0.heap.get? b = some o → b ≠ X.env.locals := fun b o e => Nat.ne_of_lt (Nat.lt_of_lt_of_le (Heap.lt_size e) I.ok.above)
  have neC : ∀ b o, X.s_0.heap.get? b = some o → b ∉ X.ex → b ∉ ch := fun b o e hx hb => by
    rcases (hch b hb).1 with z | z
    · exact hx z
    · exact absurd (Nat.lt_of_lt_of_le (Heap.lt_size e) z) (Nat.lt_irrefl _)
  have cellK : ∀ x c, X.env.cells.lookup x = some c → ∀ v, s.heap.IsCell c v → h'.IsCell c v := fun x c e v ⟨o, ho, hd⟩ => by
    have nch : c ∉ ch := fun z => (hch c z).2.2.1 x c e rfl
    by_cases hc : c ∈ X.fs
    · obtain ⟨sl, q⟩ := slot c o (I.cne x c e) hc nch ho (I.freeC x c e)
      exact ⟨_, q, hd⟩
    · exact ⟨o, keep c o (I.cne x c e) hc nch ho (I.freeC x c e), hd⟩
  refine ⟨I.ok, I.os, hg, ⟨fun b o e n hb hx => ?_, fun b o e n hb hx => ?_, fun b o e n hx => ?_, fun b o e hx => ?_, fun b xs e => tups b xs (I.base.tups b xs e), fun b o xs e => frzs b o xs (I.base.frzs b o xs e), fun b ps e => ?_⟩, ?_, fun x c e => ?_, ?_, fun x c e => ?_, fun p hp => ?_, hok, I.len⟩
  · exact keep b o (neL b o e) hb (neC b o e hx) (I.base.keep b o e n hb hx) (I.base.free b o e n hx)
  · obtain ⟨sl, e1⟩ := I.base.slot b o e n hb hx
    obtain ⟨sl', e2⟩ := slot b _ (neL b o e) hb (neC b o e hx) e1 (I.base.free b o e n hx)
    exact ⟨sl', e2⟩
  · obtain ⟨o', e1⟩ := I.base.there b o e hx
    exact free b o' (neC b o e hx) e1 (I.base.free b o e n hx)
  · obtain ⟨o', e1⟩ := I.base.there b o e hx
    exact there b o' (neC b o e hx) e1
  · obtain ⟨m1, e1⟩ := I.base.tbls b ps e
    obtain ⟨m2, e2⟩ := tbls b _ e1
    exact ⟨m1 ++ m2, by rw [e2, Array.append_assoc]⟩
  · obtain ⟨m, hn, hl⟩ := I.loc
    refine ⟨m, ns m hn, fun i x v e1 e2 e3 => ?_⟩
    obtain ⟨u, r, l⟩ := hl i x v e1 e2 e3
    refine ⟨u, r, ?_⟩
    rcases l with l | ⟨k, c, e, z⟩
    · exact .inl l
    · exact .inr ⟨k, c, e, cellK x c e _ z⟩
  · obtain ⟨v, z⟩ := I.cell x c e
    exact ⟨v, cellK x c e v z⟩
  · obtain ⟨m, ⟨o, _, _, ho, _⟩, _⟩ := I.loc
    exact free _ o (fun z => (hch _ z).2.1 rfl) ho I.free
  · obtain ⟨v, o, ho, hd⟩ := I.cell x c e
    exact free c o (fun z => (hch c z).2.2.1 x c e rfl) ho (I.freeC x c e)
  · obtain ⟨e, n, ne, nf, d⟩ := I.pin p hp
    have nch : p.1 ∉ ch := fun z => (hch p.1 z).2.2.2 p hp rfl
    exact ⟨keep p.1 p.2 ne nf nch e n, free p.1 p.2 nch e n, ne, nf, d⟩
theorem Inv.un {t' : Nat} (I : Inv X pins σ H s) (u : Un X.fs [] H H' s.heap h') (hok : HOk X.prog X.w H' h') : Inv X pins σ H' { s with heap := h', toks := t' } := by
  obtain ⟨m, ⟨o, es, ep, ho, r⟩, _⟩ := id I.loc
  obtain ⟨sl, hL⟩ := u.any ho I.free (by simp)
  exact I.step (g' := s.gens) (d' := s.drawn) (ch := []) (fun _ z => nomatch z) (fun b o _ hb _ e n => u.keep b o e n hb (by simp)) (fun b o _ hb _ e n => u.slot b o e n hb (by simp)) (fun b o _ e n => u.free b o e n (by simp)) (fun b o _ e => u.there b o e (by simp)) u.tups u.frzs u.tbls (fun m' hm => by
    obtain ⟨o', es', ep', ho', r'⟩ := hm
    rw [ho] at ho'; cases ho'
    exact ⟨_, es', ep', hL, r'⟩) hok I.bare
theorem Inv.call {g' : Array GenState} {t' : Nat} {d' : Drawn} {ch : List Addr} (I : Inv X pins σ H s) (u : Un (frs X.stack) ch H H' s.heap h') (hok : HOk X.prog X.w H' h') (hg : AllBare g')
    (hch : ∀ b ∈ ch, (b ∈ X.ex ∨ X.s_0.heap.objs.size ≤ b) ∧ b ≠ X.env.locals ∧ (∀ x c, X.env.cells.lookup x = some c → c ≠ b) ∧ ∀ p ∈ X.pn ++ pins, p.1 ≠ b) :
    Inv X pins σ H' { s with heap := h', gens := g', drawn := d', toks := t' } := by
  obtain ⟨m, ⟨o, es, ep, ho, r⟩, _⟩ := id I.loc
  obtain ⟨sl, hL⟩ := u.any ho I.free fun z => (hch _ z).2.1 rfl
  exact I.step (ch := ch) hch (fun b o hL hb hc e n => u.keep b o e n (fun z => (List.mem_cons.mp (I.stkSub b z)).elim hL hb) hc) (fun b o _ _ hc e n => u.any e n hc) (fun b o hc e n => u.free b o e n hc) (fun b o hc e => u.there b o e hc) u.tups u.frzs u.tbls (fun m' hm => by
    obtain ⟨o', es', ep', ho', r'⟩ := hm
    rw [ho] at ho'; cases ho'
    exact ⟨_, es', ep', hL, r'⟩) hok hg
theorem Inv.turned {t' : Nat} {it : Addr} (I : Inv X pins σ H s) (k : ∀ b o, b ≠ it → s.heap.get? b = some o → h'.get? b = some o) (hn : H it = none) (hL : it ≠ X.env.locals)
    (h1 : it ∈ X.ex ∨ X.s_0.heap.objs.size ≤ it) (h2 : ∀ x c, X.env.cells.lookup x = some c → c ≠ it) (h3 : ∀ p ∈ X.pn ++ pins, p.1 ≠ it) : Inv X pins σ H { s with heap := h', toks := t' } := by
  have nit : ∀ b u, H b = some u → b ≠ it := fun b u e z => by rw [z, hn] at e; cases e
  refine I.step (g' := s.gens) (d' := s.drawn) (ch := [it]) (fun b hb => ?_) (fun b o _ _ hc e _ => k b o (fun z => hc (by simp [z])) e) (fun b o _ _ hc e _ => ⟨o.slots, k b o (fun z => hc (by simp [z])) e⟩) (fun _ _ _ _ n => n)
    (fun b o hc e => ⟨o, k b o (fun z => hc (by simp [z])) e⟩) (fun _ _ e => e) (fun _ _ _ e => e) (fun b ps e => ⟨#[], by rw [e]; simp⟩) (fun m hm => ?_) (fun b u e => ?_) I.bare
  · have e : b = it := by simpa using hb
    subst e
    exact ⟨h1, hL, h2, h3⟩
  · obtain ⟨o, es, ep, ho, r⟩ := hm
    exact ⟨o, es, ep, k _ o (Ne.symm hL) ho, r⟩
  · refine (I.hok b u e).stay (fun c v hc q => k c v ?_ q) (fun _ q => q) fun _ _ q => q
    rcases hc with z | z
    · rw [z]; exact nit b u e
    · exact nit c _ z
theorem Inv.tok (I : Inv X pins σ H s) (t : Nat) : Inv X pins σ H { s with toks := t } := I.un (h' := s.heap) (t' := t) Un.refl I.hok
theorem Inv.kept {t' : Nat} (I : Inv X pins σ H s) (k : ∀ b u, s.heap.get? b = some u → h'.get? b = some u) : Inv X pins σ H { s with heap := h', toks := t' } := I.un (Un.kept k) (I.hok.kept k)
theorem Inv.laid {a : Addr} {o : HO} {t' : Nat} (I : Inv X pins σ H s) (k : ∀ b u, s.heap.get? b = some u → h'.get? b = some u) (hp : s.heap.objs.size ≤ a) (new : ObjOk X.prog X.w (upd H a o) h' a o) :
    Inv X pins σ (upd H a o) { s with heap := h', toks := t' } := I.un (Un.laid k hp (I.hok.fresh hp)) (I.hok.laid k hp new)
theorem Inv.write {x e : Addr} {o : HO} {t' : Nat} (I : Inv X pins σ H s) (mu : Mut (H x)) (he : e = x ∨ H e = some (.own x)) (k : ∀ b u, b ≠ e → s.heap.get? b = some u → h'.get? b = some u) (heo : ∃ u, h'.get? e = some u)
    (new : ObjOk X.prog X.w (upd H x o) h' x o) : Inv X pins σ (upd H x o) { s with heap := h', toks := t' } := I.un (Un.write mu he k heo) (I.hok.write mu he k heo new)
theorem Inv.weak {σ' : List (Option V)} (I : Inv X pins σ H s) (hl : σ'.length = σ.length) (w : ∀ (i : Nat) v, σ'[i]? = some (some v) → σ[i]? = some (some v)) : Inv X pins σ' H s :=
  ⟨I.ok, I.os, I.bare, I.base, let ⟨m, hn, hl'⟩ := I.loc; ⟨m, hn, fun i x v e1 e2 e3 => hl' i x v e1 (w i v e2) e3⟩, I.cell, I.free, I.freeC, I.pin, I.hok, hl.trans I.len⟩
theorem Inv.pins_of {pins' : List (Addr × Obj)} (I : Inv X pins σ H s) (h : ∀ p ∈ pins', s.heap.get? p.1 = some p.2 ∧ H p.1 = none ∧ p.1 ≠ X.env.locals ∧ p.1 ∉ X.fs ∧ ∀ v, p.2.data ≠ .cell v) : Inv X pins' σ H s :=
  ⟨I.ok, I.os, I.bare, I.base, I.loc, I.cell, I.free, I.freeC, fun p hp => (List.mem_append.mp hp).elim (fun z => I.pin p (List.mem_append_left _ z)) (h p), I.hok, I.len⟩

theorem nodup_ix {N : List Str} (hN : N.Nodup) {i j : Nat} {x : Str} (a : N[i]? = some x) (b : N[j]? = some x) : i = j := by
  obtain ⟨h1, e1⟩ := List.getElem?_eq_some_iff.mp a
  obtain ⟨h2, e2⟩ := List.getElem?_eq_some_iff.mp b
  exact (List.getElem_inj hN).mp (e1.trans e2.symm)

theorem store_ok2 {M : Model} {A : Around} {E : Value → Shared → Prop} {i : Nat} {x : Str} {v : V} {u : Value} {Q : Unit → Shared → Prop} (I : Inv X pins σ H s) (hN : X.N.Nodup) (hi : X.N[i]? = some x) (hx : Loc X.env.scope x) (r : RelV v u)
    (h : ∀ s', Inv X pins (σ.set i (some v)) H s' → (∃ a, Heap.SameBut a s.heap s'.heap ∧ (a = X.env.locals ∨ X.env.cells.lookup x = some a)) → Q () s') (hf : X.fn x = true ∨ X.env.scope.names.lookup x = some .local := by first | exact .inl rfl | exact .inr rfl | assumption) : wpAny M A (storeName X.env x u) Q E s := by
  obtain ⟨m, hn, hl⟩ := id I.loc
  have hcls : (X.env.scope.kind == .class || (X.env.scope.kind == .module && X.env.locals != X.env.globals)) = false := by rw [I.ok.kind]; rfl
  have hiσ : i < σ.length := by rw [I.len]; exact (List.getElem?_eq_some_iff.mp hi).1
  have cne := I.cne
  have tracked : ∀ {a : Addr} {h' : Heap}, (∃ o, s.heap.get? a = some o ∧ H a = none) → Heap.SameBut a s.heap h' → HOk X.prog X.w H h' := fun {a h'} ha hs b ob e => by
    obtain ⟨_, _, hfree⟩ := ha
    refine (I.hok b ob e).stay (fun c w' hc q => (hs.2 c ?_).trans q) (fun _ q => q) fun _ _ q => q
    rintro rfl
    rcases hc with rfl | hc
    · rw [hfree] at e; cases e
    · rw [hfree] at hc; cases hc
  rcases hx with hk | hk
  · refine wpAny_storeName_local hk hn (fun h' hn' hs => ?_) hcls
    obtain ⟨oL, _, _, hoL, _⟩ := id hn
    refine h _ ⟨I.ok, I.os, I.bare, ⟨fun b o e n hb hx => ?_, fun b o e n hb hx => ?_, I.base.free, fun b o e hx => ?_, I.base.tups, I.base.frzs, I.base.tbls⟩, ⟨_, hn', fun j y v' e1 e2 e3 => ?_⟩, fun y c e => ?_, I.free, I.freeC, fun p hp => ?_, tracked ⟨oL, hoL, I.free⟩ hs, by simpa using I.len⟩ ⟨_, hs, .inl rfl⟩
    · exact (hs.2 b (Nat.ne_of_lt (Nat.lt_of_lt_of_le (Heap.lt_size e) I.ok.above))).trans (I.base.keep b o e n hb hx)
    · obtain ⟨sl, e1⟩ := I.base.slot b o e n hb hx
      exact ⟨sl, (hs.2 b (Nat.ne_of_lt (Nat.lt_of_lt_of_le (Heap.lt_size e) I.ok.above))).trans e1⟩
    · obtain ⟨o', e1⟩ := I.base.there b o e hx
      exact ⟨o', (hs.2 b (Nat.ne_of_lt (Nat.lt_of_lt_of_le (Heap.lt_size e) I.ok.above))).trans e1⟩
    · by_cases hj : j = i
      · subst hj
        rw [hi] at e1; cases e1
        rw [List.getElem?_set_self hiσ] at e2
        cases e2
        exact ⟨u, r, .inl ⟨hk, by simp⟩⟩
      · rw [List.getElem?_set_ne (Ne.symm hj)] at e2
        obtain ⟨u', r', q⟩ := hl j y v' e1 e2 e3
        refine ⟨u', r', ?_⟩
        rcases q with ⟨k, e⟩ | ⟨k, c, e, z⟩
        · refine .inl ⟨k, ?_⟩
          have : y ≠ x := fun e => hj (nodup_ix hN e1 (e ▸ hi))
          simp [this, e]
        · exact .inr ⟨k, c, e, z.sameBut hs (cne y c e)⟩
    · obtain ⟨w', z⟩ := I.cell y c e
      exact ⟨w', z.sameBut hs (cne y c e)⟩
    · obtain ⟨e, n, ne, nf, d⟩ := I.pin p hp
      exact ⟨(hs.2 p.1 ne).trans e, n, ne, nf, d⟩
  · have hfn : X.fn x = true := by
      rcases hf with z | z
      · exact z
      · rw [z] at hk; cases hk
    obtain ⟨c, hc⟩ := I.ok.has x (.inl hk)
    obtain ⟨w', z⟩ := I.cell x c hc
    refine wpAny_storeName_cell I.ok.kind hk hc z (fun h' hc' hs => ?_)
    obtain ⟨oc, hoc, hocd⟩ := id z
    refine h { s with heap := h' } ⟨I.ok, I.os, I.bare, ⟨fun b o e n hb hx => ?_, fun b o e n hb hx => ?_, I.base.free, fun b o e hx => ?_, I.base.tups, I.base.frzs, I.base.tbls⟩, ⟨m, hn.sameBut hs (Ne.symm (cne x c hc)), fun j y v' e1 e2 e3 => ?_⟩, fun y c' e => ?_, I.free, I.freeC, fun p hp => ?_, tracked ⟨oc, hoc, I.freeC x c hc⟩ hs, by simpa using I.len⟩ ⟨c, hs, .inr hc⟩
    · exact (hs.2 b (Nat.ne_of_lt (Nat.lt_of_lt_of_le (Heap.lt_size e) (I.ok.cab x c hfn hc)))).trans (I.base.keep b o e n hb hx)
    · obtain ⟨sl, e1⟩ := I.base.slot b o e n hb hx
      exact ⟨sl, (hs.2 b (Nat.ne_of_lt (Nat.lt_of_lt_of_le (Heap.lt_size e) (I.ok.cab x c hfn hc)))).trans e1⟩
    · obtain ⟨o', e1⟩ := I.base.there b o e hx
      exact ⟨o', (hs.2 b (Nat.ne_of_lt (Nat.lt_of_lt_of_le (Heap.lt_size e) (I.ok.cab x c hfn hc)))).trans e1⟩
    · by_cases hj : j = i
      · subst hj
        rw [hi] at e1; cases e1
        rw [List.getElem?_set_self hiσ] at e2
        cases e2
        exact ⟨u, r, .inr ⟨.inl hk, c, hc, hc'⟩⟩
      · rw [List.getElem?_set_ne (Ne.symm hj)] at e2
        obtain ⟨u', r', q⟩ := hl j y v' e1 e2 e3
        refine ⟨u', r', ?_⟩
        rcases q with q | ⟨k, c', e, z'⟩
        · exact .inl q
        · refine .inr ⟨k, c', e, z'.sameBut hs ?_⟩
          rintro rfl
          exact hj (nodup_ix hN e1 (I.ok.inj _ _ _ e hc ▸ hi))
    · by_cases hcc : c' = c
      · subst hcc; exact ⟨_, hc'⟩
      · obtain ⟨w2, z2⟩ := I.cell y c' e
        exact ⟨w2, z2.sameBut hs hcc⟩
    · obtain ⟨e, n, ne, nf, d⟩ := I.pin p hp
      refine ⟨(hs.2 p.1 ?_).trans e, n, ne, nf, d⟩
      intro q
      rw [q, hoc] at e
      have q' : oc = p.2 := Option.some.inj e
      exact d w' (by rw [← q']; exact hocd)
theorem store_ok {M : Model} {A : Around} {E : Value → Shared → Prop} {i : Nat} {x : Str} {v : V} {u : Value} {Q : Unit → Shared → Prop} (I : Inv X pins σ H s) (hN : X.N.Nodup) (hi : X.N[i]? = some x) (hx : Loc X.env.scope x) (r : RelV v u)
    (h : ∀ s', Inv X pins (σ.set i (some v)) H s' → Q () s') (hf : X.fn x = true ∨ X.env.scope.names.lookup x = some .local := by first | exact .inl rfl | exact .inr rfl | assumption) : wpAny M A (storeName X.env x u) Q E s :=
  store_ok2 I hN hi hx r (fun s' I' _ => h s' I') hf
theorem Inv.call' {s' : Shared} {ch : List Addr} (I : Inv X pins σ H s) (ho : s'.os = s.os) (u : Un (frs X.stack) ch H H' s.heap s'.heap) (hok : HOk X.prog X.w H' s'.heap) (hg : AllBare s'.gens)
    (hch : ∀ b ∈ ch, (b ∈ X.ex ∨ X.s_0.heap.objs.size ≤ b) ∧ b ≠ X.env.locals ∧ (∀ x c, X.env.cells.lookup x = some c → c ≠ b) ∧ ∀ p ∈ X.pn ++ pins, p.1 ≠ b) : Inv X pins σ H' s' := by
  obtain ⟨h', g', d', t', o'⟩ := s'
  have e : o' = s.os := ho
  subst e
  exact I.call (g' := g') (t' := t') (d' := d') u hok hg hch
end

noncomputable abbrev XK := Value → Option Addr → Hp → Prop
noncomputable abbrev St := List (Option V)
noncomputable abbrev VK := V → Hp → Prop
noncomputable abbrev TE := St → Hp → VK → Prop
noncomputable abbrev TT := St → Hp → (Bool → Hp → Prop) → Prop
noncomputable abbrev TA := St → Hp → (List V → Hp → Prop) → Prop
structure Ends where
  nx : St → Hp → Prop
  rt : VK
  bk : St → Hp → Prop := fun _ _ => False
  ct : St → Hp → Prop := fun _ _ => False
noncomputable abbrev TS := Ends → St → Hp → Prop

noncomputable def EP (X : Cx) (pins : List (Addr × Obj)) (σ : St) (Q : VK) (u : Value) (s' : Shared) : Prop := ∃ v H', Inv X pins σ H' s' ∧ RelV v u ∧ Q v H'
noncomputable def TP (X : Cx) (pins : List (Addr × Obj)) (σ : St) (Q : Bool → Hp → Prop) (b : Bool) (s' : Shared) : Prop := ∃ H', Inv X pins σ H' s' ∧ Q b H'
noncomputable def AP (X : Cx) (pins : List (Addr × Obj)) (σ : St) (Q : List V → Hp → Prop) (us : List Value) (s' : Shared) : Prop := ∃ vs H', Inv X pins σ H' s' ∧ Vals vs us ∧ Q vs H'
noncomputable def SP (X : Cx) (pins : List (Addr × Obj)) (D : Ends) (f : Flow) (s' : Shared) : Prop :=
  match f with
  | .next => ∃ σ' H', Inv X pins σ' H' s' ∧ D.nx σ' H'
  | .brk => ∃ σ' H', Inv X pins σ' H' s' ∧ D.bk σ' H'
  | .cont => ∃ σ' H', Inv X pins σ' H' s' ∧ D.ct σ' H'
  | .ret u => ∃ v σ' H', Inv X pins σ' H' s' ∧ RelV v u ∧ D.rt v H'

noncomputable def PE (X : Cx) (e : Expr) (t : TE) : Prop :=
  ∀ (pins : List (Addr × Obj)) (s : Shared) (σ : St) (H : Hp) (Q : VK), Inv X pins σ H s → t σ H Q → wpAny (model X.prog X.w) X.A (eval e X.env) (EP X pins σ Q) X.xe s
noncomputable def PT (X : Cx) (e : Expr) (t : TT) : Prop :=
  ∀ (pins : List (Addr × Obj)) (s : Shared) (σ : St) (H : Hp) (Q : Bool → Hp → Prop), Inv X pins σ H s → t σ H Q → wpAny (model X.prog X.w) X.A (isTrue e X.env (eval e X.env)) (TP X pins σ Q) X.xe s
noncomputable def PW (X : Cx) (e : Expr) (t : TT) : Prop :=
  ∀ (whole : Sem Value) (pins : List (Addr × Obj)) (s : Shared) (σ : St) (H : Hp) (Q : Bool → Hp → Prop), Inv X pins σ H s → t σ H Q → wpAny (model X.prog X.w) X.A (isTrue e X.env whole) (TP X pins σ Q) X.xe s
theorem PW.pt {X : Cx} {e : Expr} {t : TT} (h : PW X e t) : PT X e t := h _
noncomputable def PA (X : Cx) (es : List Expr) (t : TA) : Prop :=
  ∀ (pos : Pos) (pins : List (Addr × Obj)) (s : Shared) (σ : St) (H : Hp) (Q : List V → Hp → Prop), Inv X pins σ H s → t σ H Q → wpAny (model X.prog X.w) X.A (spliced (backTo pos (starEach es X.env))) (AP X pins σ Q) X.xe s
noncomputable def PS (X : Cx) (st : Stmt) (t : TS) : Prop :=
  ∀ (pins : List (Addr × Obj)) (s : Shared) (σ : St) (H : Hp) (D : Ends), Inv X pins σ H s → t D σ H → wpAny (model X.prog X.w) X.A (exec st X.env) (SP X pins D) X.xe s
noncomputable def PSs (X : Cx) (st : List Stmt) (t : TS) : Prop :=
  ∀ (pins : List (Addr × Obj)) (s : Shared) (σ : St) (H : Hp) (D : Ends), Inv X pins σ H s → t D σ H → wpAny (model X.prog X.w) X.A (execs st X.env) (SP X pins D) X.xe s
theorem thn {α : Type} {t : Sem α} {Q Q' : α → Shared → Prop} {M : Model} {A : Around} {E : Value → Shared → Prop} {s : Shared} (h : wpAny M A t Q E s) (hQ : ∀ a s, Q a s → Q' a s) : wpAny M A t Q' E s := wpAny_mono h hQ fun _ _ x => x
end L2

namespace L2
open PySem PySem.Spec PyProof.Rows
section
variable {X : Cx}

theorem bin {a b : Expr} {ta tb : TE} (ha : PE X a ta) (hb : PE X b tb) {pins : List (Addr × Obj)} {s : Shared} {σ : St} {H : Hp} {R : V → V → Hp → Prop} (I : Inv X pins σ H s) (h : ta σ H fun x H1 => tb σ H1 fun y H2 => R x y H2)
    {α : Type} {Q : α → Shared → Prop} {f : Value → Value → Sem α}
    (hf : ∀ v u s2 x y H2, Inv X pins σ H2 s2 → RelV x v → RelV y u → R x y H2 → wpAny (model X.prog X.w) X.A (f v u) Q X.xe s2) :
    wpAny (model X.prog X.w) X.A (eval a X.env) (fun v s₁ => wpAny (model X.prog X.w) X.A (eval b X.env) (fun u s₂ => wpAny (model X.prog X.w) X.A (f v u) Q X.xe s₂) X.xe s₁) X.xe s := by
  refine thn (ha pins s σ H _ I h) fun v s1 ⟨x, H1, I1, r1, q1⟩ => ?_
  refine thn (hb pins s1 σ H1 _ I1 q1) fun u s2 ⟨y, H2, I2, r2, q2⟩ => ?_
  exact hf v u s2 x y H2 I2 r1 r2 q2

noncomputable def tVar (i : Nat) : TE := fun σ H Q => ∃ v, σ[i]? = some (some v) ∧ Q v H
noncomputable def tC (v : V) : TE := fun _ H Q => Q v H
theorem pe_var {i : Nat} {x : Str} {pos : Pos} (hN : X.N[i]? = some x) (hv : Vis X.env.scope x) (hd : (x == ("__debug__" : Str)) = false := by decide) (hcd : (x == ("__classdict__" : Str)) = false := by decide) : PE X (.Name x pos) (tVar i) := by
  intro pins s σ H Q I h
  obtain ⟨v, e, h⟩ := h
  obtain ⟨m, hn, hl⟩ := I.loc
  obtain ⟨u, r, l⟩ := hl i x v hN e hv
  have fin : EP X pins σ Q u s := ⟨v, H, I, r, h⟩
  rcases l with ⟨hk, hm⟩ | ⟨hk, c, hc, hcell⟩
  · exact wpAny_Name (wpAny_loadName_local I.ok.kind hk hn hm fin) hd
  · rcases hk with hk | hk
    · exact wpAny_Name (wpAny_loadName_cell I.ok.kind hk hc hcell fin) hd
    · exact wpAny_Name (wpAny_loadName_free I.ok.kind hk hc hcell fin hcd) hd
theorem pe_int {i j pos} : PE X (.Constant (.int i) j pos) (tC (.int i)) := fun _ _ _ H _ I h => wpAny_Constant_int ⟨.int i, H, I.tok _, ⟨_, rfl⟩, h⟩
theorem pe_bl {b j pos} : PE X (.Constant (.bool b) j pos) (tC (.bl b)) := fun _ _ _ H _ I h => Constant_bool ⟨.bl b, H, I, rfl, h⟩
noncomputable def Gl (X : Cx) (x : Str) : Prop := X.env.kindOf x = some .globalImplicit
theorem ld_glob {E : Value → Shared → Prop} {pins : List (Addr × Obj)} {s : Shared} {σ : St} {H : Hp} {x : Str} {u : Value} {pos : Pos} {Q : Value → Shared → Prop} (I : Inv X pins σ H s) (hg : Gl X x) (hm : X.mg x = some u) (h : Q u s)
    (hd : (x == ("__debug__" : Str)) = false := by decide) : wpAny (model X.prog X.w) X.A (eval (.Name x pos) X.env) Q E s :=
  Calls.Name_function_global I.ok.kind hg (Calls.loadGlobal_global (by rw [I.ok.glob]; exact I.mod.glob.keeps I.bk) hm h) hd
theorem ld_blt {E : Value → Shared → Prop} {pins : List (Addr × Obj)} {s : Shared} {σ : St} {H : Hp} {x : Str} {u : Value} {pos : Pos} {Q : Value → Shared → Prop} (I : Inv X pins σ H s) (hg : Gl X x) (hm : X.mg x = none) (hv : bootBuiltins x = some u) (h : Q u s)
    (hn : x ≠ "__name__" := by decide) (hd : (x == ("__debug__" : Str)) = false := by decide) : wpAny (model X.prog X.w) X.A (eval (.Name x pos) X.env) Q E s := by
  obtain ⟨mb, h1, h2⟩ := I.mod.blt
  exact Calls.Name_function_global I.ok.kind hg (Calls.loadGlobal_builtin (by rw [I.ok.glob]; exact I.mod.glob.keeps I.bk) hm (by rw [I.ok.blt]; exact h1.keeps I.bk) ((h2 x hn).trans hv) h) hd
theorem pe_glob {x : Str} {v : V} {u : Value} {pos : Pos} (hg : Gl X x) (hm : X.mg x = some u) (r : RelV v u) (hd : (x == ("__debug__" : Str)) = false := by decide) : PE X (.Name x pos) (tC v) :=
  fun _ _ _ H _ I h => ld_glob I hg hm ⟨v, H, I, r, h⟩ hd
noncomputable def t2I (ta tb : TE) (k : Int → Int → Hp → Prop) : St → Hp → Prop := fun σ H => ta σ H fun x H1 => tb σ H1 fun y H2 => ∃ i j, x = .int i ∧ y = .int j ∧ k i j H2
noncomputable def tAdd (ta tb : TE) : TE := fun σ H Q => t2I ta tb (fun i j H2 => Q (.int (i + j)) H2) σ H
noncomputable def tSub (ta tb : TE) : TE := fun σ H Q => t2I ta tb (fun i j H2 => Q (.int (i - j)) H2) σ H
noncomputable def tMul (ta tb : TE) : TE := fun σ H Q => t2I ta tb (fun i j H2 => (-(2 ^ 64) < i ∧ i < 2 ^ 64) ∧ Q (.int (i * j)) H2) σ H
variable {a b : Expr} {ta tb : TE} {pos : Pos}
noncomputable def PC (X : Cx) (op : CmpOp) (a b : Expr) (t : TE) : Prop :=
  ∀ (pins : List (Addr × Obj)) (s : Shared) (σ : St) (H : Hp) (Q : VK), Inv X pins σ H s → t σ H Q →
    wpAny (model X.prog X.w) X.A (eval a X.env) (fun v s₁ => wpAny (model X.prog X.w) X.A (eval b X.env) (fun u s₂ => wpAny (model X.prog X.w) X.A (compareOp op v u) (EP X pins σ Q) X.xe s₂) X.xe s₁) X.xe s
noncomputable def tCmp (p : Int → Int → Bool) (ta tb : TE) : TE := fun σ H Q => t2I ta tb (fun i j H2 => Q (.bl (p i j)) H2) σ H
noncomputable abbrev tLt : TE → TE → TE := tCmp fun i j => decide (i < j)
noncomputable abbrev tLe : TE → TE → TE := tCmp fun i j => decide (i ≤ j)
noncomputable abbrev tGt : TE → TE → TE := tCmp fun i j => decide (j < i)
noncomputable abbrev tGe : TE → TE → TE := tCmp fun i j => decide (j ≤ i)
noncomputable abbrev tEqI : TE → TE → TE := tCmp fun i j => decide (i = j)
noncomputable abbrev tNeI : TE → TE → TE := tCmp fun i j => !decide (i = j)
noncomputable def tIsN (ta : TE) : TE := fun σ H Q => ta σ H fun x H1 => Q (.bl (decide (x = .non))) H1
noncomputable def tNotN (ta : TE) : TE := fun σ H Q => ta σ H fun x H1 => Q (.bl (!decide (x = .non))) H1
noncomputable def tB (t : TE) : TT := fun σ H Q => t σ H fun x H1 => ∃ c, x = .bl c ∧ Q c H1
theorem pt_cmp {op : CmpOp} {t : TE} (h : PC X op a b t) (h1 : behindInMarks op b = false := by first | exact nobehind _ (by decide) (by decide) | rfl) : PT X (.Compare a [op] [b] pos) (tB t) := by
  intro pins s σ H Q I hw
  refine wpAny_isTrue_Compare1 (thn (h pins s σ H _ I hw) fun v s1 h1 => thn h1 fun u s2 h2 => thn h2 fun c s3 ⟨x, H1, I1, r1, q1⟩ => ?_) h1
  obtain ⟨d, rfl, q⟩ := q1
  cases r1
  exact wpAny_truthy_bool ⟨H1, I1, q⟩
theorem pt_val {e : Expr} {t : TE} (h : PE X e t) (he : ∀ whole, isTrue e X.env whole = (do let v ← whole; standAt e.pos; holding [v] (truthy v)) := by intro _; rfl) : PT X e (tB t) := by
  intro pins s σ H Q I hw
  refine isTrue_plain (thn (h pins s σ H _ I hw) fun v s1 ⟨x, H1, I1, r1, q1⟩ => ?_) (he _)
  obtain ⟨d, rfl, q⟩ := q1
  cases r1
  exact wpAny_truthy_bool ⟨H1, I1, q⟩

variable {tA tB' : TT} {rest : List Expr}
noncomputable def tAnd (t u : TT) : TT := fun σ H Q => t σ H fun c H1 => if c = true then u σ H1 Q else Q false H1
noncomputable def tOr (t u : TT) : TT := fun σ H Q => t σ H fun c H1 => if c = true then Q true H1 else u σ H1 Q
noncomputable def tNot (t : TT) : TT := fun σ H Q => t σ H fun c H1 => Q (!c) H1
theorem pw_or1 (ha : PT X a tA) : PW X (.BoolOp .Or [a] pos) tA := by
  intro wh pins s σ H Q I h
  refine isTrue_or (thn (ha pins s σ H Q I h) fun c s1 e => ?_)
  cases c with
  | false => exact isTrue_or_nil e
  | true => exact e
theorem pw_or (ha : PT X a tA) (hb : PW X (.BoolOp .Or (b :: rest) pos) tB') : PW X (.BoolOp .Or (a :: b :: rest) pos) (tOr tA tB') := by
  intro wh pins s σ H Q I h
  refine isTrue_or (thn (ha pins s σ H _ I h) fun c s1 ⟨H1, I1, q1⟩ => ?_)
  cases c with
  | true => exact ⟨H1, I1, q1⟩
  | false => exact hb wh pins s1 σ H1 Q I1 q1
theorem pt_not (ha : PT X a tA) : PT X (.UnaryOp .Not a pos) (tNot tA) := by
  intro pins s σ H Q I h
  exact isTrue_not (ha pins s σ H (fun c H1 => Q (!c) H1) I h)
noncomputable def tAndV (ta tb : TE) : TE := fun σ H Q => ta σ H fun x H1 => ∃ c, x = .bl c ∧ if c = true then tb σ H1 Q else Q (.bl false) H1
noncomputable def tOrV (ta tb : TE) : TE := fun σ H Q => ta σ H fun x H1 => ∃ c, x = .bl c ∧ if c = true then Q (.bl true) H1 else tb σ H1 Q
noncomputable def tNotV (ta : TE) : TE := fun σ H Q => ta σ H fun x H1 => ∃ c, x = .bl c ∧ Q (.bl (!c)) H1
noncomputable def tIf (t : TT) (ta tb : TE) : TE := fun σ H Q => t σ H fun c H1 => if c = true then ta σ H1 Q else tb σ H1 Q
end
end L2

namespace L2
open PySem PySem.Spec PyProof.Rows

noncomputable def SqL (K : PySem.W.Frag) (H : Hp) (a : Addr) (xs : List V) : Prop :=
  Rd H a (.lst xs) ∨
    ∃ (o : Obj) (its : Array Value) (n : Nat), K.lookup a = some o ∧ o.cls = .type "list" ∧ o.dict = none ∧ o.data = .seq its n ∧ its.size ≤ sizeLine ∧ Vals xs its.toList
noncomputable def SqT (K : PySem.W.Frag) (H : Hp) (a : Addr) (xs : List V) : Prop :=
  Rd H a (.tup xs) ∨
    ∃ (o : Obj) (its : Array Value) (n : Nat), K.lookup a = some o ∧ o.cls = .type "tuple" ∧ o.data = .seq its n ∧ its.size ≤ sizeLine ∧ Vals xs its.toList
noncomputable def absV : Value → Option V
  | .none => some .non
  | .bool b => some (.bl b)
  | .int i _ => some (.int i)
  | .str x _ => some (.str x)
  | .bytes b _ => some (.byt b)
  | .float b _ => some (.flt b)
  | .ref a => some (.ref a)
  | .type n => some (.ty n)
  | _ => none
theorem RelV.abs {x : V} {u : Value} (r : RelV x u) : absV u = some x := by
  cases x with
  | non => cases r; rfl
  | bl _ => cases r; rfl
  | int _ => obtain ⟨t, rfl⟩ := r; rfl
  | str _ => obtain ⟨t, rfl⟩ := r; rfl
  | byt _ => obtain ⟨t, rfl⟩ := r; rfl
  | flt _ => obtain ⟨t, rfl⟩ := r; rfl
  | ref _ => cases r; rfl
  | ty _ => cases r; rfl
theorem RelV.inj {x y : V} {u : Value} (r : RelV x u) (q : RelV y u) : x = y := Option.some.inj (r.abs.symm.trans q.abs)
theorem Vals.inj : ∀ {xs ys : List V} {us : List Value}, Vals xs us → Vals ys us → xs = ys
  | _, _, _, .nil, .nil => rfl
  | _, _, _, .cons r t, .cons r' t' => by rw [r.inj r', Vals.inj t t']
section
variable {X : Cx} {pins : List (Addr × Obj)} {σ : St} {H : Hp} {s : Shared} {a : Addr} {xs ys : List V}
theorem SqL.of {K : PySem.W.Frag} (h : H a = some (.lst xs)) : SqL K H a xs := .inl (.inl h)
theorem SqT.of {K : PySem.W.Frag} (h : H a = some (.tup xs)) : SqT K H a xs := .inl (.inl h)
theorem Inv.list (I : Inv X pins σ H s) (h : SqL X.K H a xs) : ∃ its : List Value, Vals xs its ∧ PlainL s.heap a its.toArray ∧ xs.length ≤ sizeLine := by
  rcases h with h | ⟨o, its, n, hk, hc, hd, hs, hz, r⟩
  · obtain ⟨z, its, n, r, e⟩ := h.ok I.hok
    exact ⟨its, r, ⟨_, n, e, rfl, rfl, rfl⟩, z⟩
  · refine ⟨its.toList, r, ⟨o, n, I.kIn a o hk, hc, hd, by simpa using hs⟩, ?_⟩
    have e := r.length
    simp only [Array.length_toList] at e
    omega
theorem Inv.tuple (I : Inv X pins σ H s) (h : SqT X.K H a xs) : ∃ its : List Value, Vals xs its ∧ IsTup s.heap a its.toArray ∧ xs.length ≤ sizeLine := by
  rcases h with h | ⟨o, its, n, hk, hc, hs, hz, r⟩
  · obtain ⟨z, its, r, p⟩ := h.ok I.hok
    exact ⟨its, r, p, z⟩
  · refine ⟨its.toList, r, ⟨o, I.kIn a o hk, hc, n, by simpa using hs⟩, ?_⟩
    have e := r.length
    simp only [Array.length_toList] at e
    omega
theorem Inv.list_inj (I : Inv X pins σ H s) (h : SqL X.K H a xs) (h' : SqL X.K H a ys) : xs = ys := by
  obtain ⟨its, r, ⟨o, n, e, _, _, d⟩, _⟩ := I.list h
  obtain ⟨its', r', ⟨o', n', e', _, _, d'⟩, _⟩ := I.list h'
  rw [e] at e'; cases e'
  rw [d] at d'
  injection d' with d1 _
  have : its = its' := by simpa using congrArg Array.toList d1
  subst this
  exact r.inj r'
end

noncomputable abbrev Cx.wish (X : Cx) (E : Value → Shared → Prop) : Cx := { X with xe := E }
noncomputable abbrev Cx.nox (X : Cx) : Cx := X.wish fun _ _ => False
theorem Cx.Ok.wish {X : Cx} (ok : X.Ok) (E : Value → Shared → Prop) : (X.wish E).Ok :=
  ⟨ok.mod, ok.kind, ok.glob, ok.blt, ok.above, ok.inj, ok.has, ok.cab, ok.hd, ok.frames, ok.stk, ok.exf, ok.bs, ok.bsz, ok.noex, ok.exfs, ok.funs, ok.frf⟩
theorem Cx.Ok.unwish {X : Cx} {E : Value → Shared → Prop} (ok : (X.wish E).Ok) : X.Ok :=
  ⟨ok.mod, ok.kind, ok.glob, ok.blt, ok.above, ok.inj, ok.has, ok.cab, ok.hd, ok.frames, ok.stk, ok.exf, ok.bs, ok.bsz, ok.noex, ok.exfs, ok.funs, ok.frf⟩
section
variable {X : Cx} {pins : List (Addr × Obj)} {σ : St} {H : Hp} {s : Shared} {E : Value → Shared → Prop}
theorem Inv.wish (I : Inv X pins σ H s) (E : Value → Shared → Prop) : Inv (X.wish E) pins σ H s := ⟨I.ok.wish E, I.os, I.bare, I.base, I.loc, I.cell, I.free, I.freeC, I.pin, I.hok, I.len⟩
theorem Inv.unwish (I : Inv (X.wish E) pins σ H s) : Inv X pins σ H s := ⟨I.ok.unwish, I.os, I.bare, I.base, I.loc, I.cell, I.free, I.freeC, I.pin, I.hok, I.len⟩
theorem SP.unwish {D : Ends} {f : Flow} {s' : Shared} (h : SP (X.wish E) pins D f s') : SP X pins D f s' := by
  cases f with
  | next => obtain ⟨σ', H', I, q⟩ := h; exact ⟨σ', H', I.unwish, q⟩
  | brk => obtain ⟨σ', H', I, q⟩ := h; exact ⟨σ', H', I.unwish, q⟩
  | cont => obtain ⟨σ', H', I, q⟩ := h; exact ⟨σ', H', I.unwish, q⟩
  | ret u => obtain ⟨v, σ', H', I, r, q⟩ := h; exact ⟨v, σ', H', I.unwish, r, q⟩
theorem PSs.nox {st : List Stmt} {t : TS} (h : PSs X.nox st t) : PSs X st t := fun pins s σ H D I hw =>
  wpAny_mono (h pins s σ H D (I.wish _) hw) (fun _ _ q => q.unwish) fun _ _ z => False.elim z
end

section
variable {X : Cx} {st : Stmt} {rest : List Stmt} {t u : TS} {e : Expr} {te : TE} {pos : Pos}
noncomputable def tNext : TS := fun D σ H => D.nx σ H
noncomputable def tSeq (t u : TS) : TS := fun D σ H => t { D with nx := u D } σ H
theorem pss_nil : PSs X [] tNext := fun _ _ σ H _ I h => wpAny_execs_nil ⟨σ, H, I, h⟩
theorem pss_cons (h1 : PS X st t) (h2 : PSs X rest u) : PSs X (st :: rest) (tSeq t u) := by
  intro pins s σ H D I h
  refine wpAny_execs_cons (thn (h1 pins s σ H { D with nx := u D } I h) fun f s1 q => ?_)
  cases f with
  | next =>
    obtain ⟨σ', H', I', q⟩ := q
    exact h2 pins s1 σ' H' D I' q
  | ret v => exact q
  | brk => exact q
  | cont => exact q
theorem pss_one (h1 : PS X st t) : PSs X [st] t := by
  intro pins s σ H D I h
  refine wpAny_execs_cons (thn (h1 pins s σ H D I h) fun f s1 q => ?_)
  cases f with
  | next => exact wpAny_execs_nil q
  | ret v => exact q
  | brk => exact q
  | cont => exact q
noncomputable def tBreak : TS := fun D σ H => D.bk σ H
noncomputable def tCont : TS := fun D σ H => D.ct σ H
theorem Inv.quiet {pins : List (Addr × Obj)} {σ : St} {H : Hp} {s : Shared} (I : Inv X pins σ H s) : interactive X.env = false := by simp [interactive, I.ok.kind]
noncomputable def tDrop (te : TE) : TS := fun D σ H => te σ H fun _ H1 => D.nx σ H1
theorem ps_expr (he : PE X e te) (hs : swapsWith e none pos.line X.env = pure false := by rfl) : PS X (.Expr e pos) (tDrop te) := by
  intro pins s σ H D I h
  exact wpAny_Expr_any (thn (he pins s σ H _ I h) fun v s1 ⟨x, H1, I1, r1, q1⟩ => ⟨σ, H1, I1, q1⟩) I.quiet hs
noncomputable def tRet (te : TE) : TS := fun D σ H => te σ H D.rt
theorem ps_ret (he : PE X e te) : PS X (.Return (some e) pos) (tRet te) := by
  intro pins s σ H D I h
  exact wpAny_Return_some (thn (he pins s σ H _ I h) fun v s1 ⟨x, H1, I1, r1, q1⟩ => ⟨x, σ, H1, I1, r1, q1⟩)
noncomputable def tRetN : TS := fun D _ H => D.rt .non H
noncomputable def tIfS (c : TT) (t u : TS) : TS := fun D σ H => c σ H fun b H1 => if b = true then t D σ H1 else u D σ H1
theorem ps_if {c : Expr} {a b : List Stmt} {tc : TT} (hc : PT X c tc) (ha : PSs X a t) (hb : PSs X b u) : PS X (.If c a b pos) (tIfS tc t u) := by
  intro pins s σ H D I h
  refine wpAny_If (thn (hc pins s σ H _ I h) fun d s1 ⟨H1, I1, q1⟩ => ?_)
  cases d with
  | true => exact ha pins s1 σ H1 D I1 q1
  | false => exact hb pins s1 σ H1 D I1 q1
noncomputable def tNever : TS := fun _ _ _ => False
theorem pss_never {sts : List Stmt} : PSs X sts tNever := fun _ _ _ _ _ _ h => h.elim
end

noncomputable abbrev TG := V → St → Hp → (St → Hp → Prop) → Prop
noncomputable abbrev TGs := List V → St → Hp → (St → Hp → Prop) → Prop
noncomputable def PG (X : Cx) (target : Expr) (t : TG) : Prop :=
  ∀ (pins : List (Addr × Obj)) (s : Shared) (σ : St) (H : Hp) (v : V) (u : Value) (Q : St → Hp → Prop), Inv X pins σ H s → RelV v u → t v σ H Q →
    wpAny (model X.prog X.w) X.A (assign target X.env u) (fun _ s' => ∃ σ' H', Inv X pins σ' H' s' ∧ Q σ' H') X.xe s
noncomputable def PGs (X : Cx) (ts : List Expr) (t : TGs) : Prop :=
  ∀ (pins : List (Addr × Obj)) (s : Shared) (σ : St) (H : Hp) (vs : List V) (us : List Value) (Q : St → Hp → Prop), Inv X pins σ H s → Vals vs us → t vs σ H Q →
    wpAny (model X.prog X.w) X.A (assignInOrder ((assignEach ts X.env).map (·.2)) us) (fun _ s' => ∃ σ' H', Inv X pins σ' H' s' ∧ Q σ' H') X.xe s
noncomputable abbrev TSet := V → V → V → Hp → (Hp → Prop) → Prop
noncomputable def PSet (X : Cx) (t : TSet) : Prop :=
  ∀ (pins : List (Addr × Obj)) (s : Shared) (σ : St) (H : Hp) (o i v : V) (ov iv u : Value) (Q : Hp → Prop), Inv X pins σ H s → RelV o ov → RelV i iv → RelV v u → t o i v H Q →
    wpAny (model X.prog X.w) X.A (setItem ov iv u) (fun _ s' => ∃ H', Inv X pins σ H' s' ∧ Q H') X.xe s
noncomputable abbrev TIp := V → V → Hp → VK → Prop
noncomputable def PIp (X : Cx) (op : Operator) (t : TIp) : Prop :=
  ∀ (pins : List (Addr × Obj)) (s : Shared) (σ : St) (H : Hp) (x y : V) (v u : Value) (Q : VK), Inv X pins σ H s → RelV x v → RelV y u → t x y H Q →
    wpAny (model X.prog X.w) X.A (inplaceOp op v u) (EP X pins σ Q) X.xe s
section
variable {X : Cx} {pos : Pos}
noncomputable def gName (i : Nat) : TG := fun v σ H Q => Q (σ.set i (some v)) H
theorem pg_name {i : Nat} {x : Str} (hN : X.N.Nodup) (hi : X.N[i]? = some x) (hx : Loc X.env.scope x) (hf : X.fn x = true ∨ X.env.scope.names.lookup x = some .local := by first | exact .inl rfl | exact .inr rfl | assumption) : PG X (.Name x pos) (gName i) := by
  intro pins s σ H v u Q I r h
  exact wpAny_assign_Name (store_ok I hN hi hx r (fun s' I' => ⟨_, H, I', h⟩) hf)
noncomputable def gNil : TGs := fun vs σ H Q => vs = [] ∧ Q σ H
noncomputable def gCons (t : TG) (u : TGs) : TGs := fun vs σ H Q => ∃ v r, vs = v :: r ∧ t v σ H fun σ' H' => u r σ' H' Q
noncomputable def gTup (K : PySem.W.Frag) (n : Nat) (t : TGs) : TG := fun v σ H Q => ∃ a xs, v = .ref a ∧ SqT K H a xs ∧ xs.length = n ∧ t xs σ H Q
noncomputable def gSub (to ti : TE) (t : TSet) : TG := fun v σ H Q => to σ H fun o H1 => ti σ H1 fun i H2 => t o i v H2 fun H3 => Q σ H3
theorem pg_sub {o i : Expr} {to ti : TE} {t : TSet} (ho : PE X o to) (hi : PE X i ti) (hs : PSet X t)
    (ha : ∀ v, assign (.Subscript o i pos) X.env v = (do
      let ov ← holding [v] (eval o X.env)
      let iv ← holding [v, ov] (eval i X.env)
      standAt pos
      holding [v, ov, iv] (setItem ov iv v)
      release [v, ov, iv] []) := by intro _; rfl) : PG X (.Subscript o i pos) (gSub to ti t) := by
  intro pins s σ H v u Q I r h
  rw [ha]
  refine wpAny_bind (wpAny_holding (thn (ho pins s σ H _ I h) fun ov s1 ⟨x, H1, I1, r1, q1⟩ => ?_))
  refine wpAny_bind (wpAny_holding (thn (hi pins s1 σ H1 _ I1 q1) fun iv s2 ⟨y, H2, I2, r2, q2⟩ => ?_))
  refine wpAny_bind (wpAny_standAt (wpAny_bind (wpAny_holding (thn (hs pins s2 σ H2 x y v ov iv u _ I2 r1 r2 r q2) fun _ s3 ⟨H3, I3, q3⟩ => ?_))))
  exact wpAny_release ⟨σ, H3, I3, q3⟩
noncomputable def tAsg (te : TE) (g : TG) : TS := fun D σ H => te σ H fun x H1 => g x σ H1 D.nx
theorem ps_asg {tg e : Expr} {te : TE} {g : TG} (he : PE X e te) (hg : PG X tg g) (hs : swapsWithSole [tg] e pos.line X.env = pure false := by rfl) (hw : swappedStores [tg] e X.env = pure none := by rfl)
    (h1 : (assignEach [tg] X.env).map (·.2) = [assign tg X.env] := by rfl) : PS X (.Assign [tg] e pos) (tAsg te g) := by
  intro pins s σ H D I h
  refine wpAny_Assign_stores (thn (he pins s σ H _ I h) fun v s1 ⟨x, H1, I1, r1, q1⟩ => ?_) hs hw
  rw [h1]
  exact thn (hg pins s1 σ H1 x v _ I1 r1 q1) fun _ s2 q => q
theorem ps_set {i : Nat} {x : Str} {e : Expr} {te : TE} {pos' : Pos} (hN : X.N.Nodup) (hi : X.N[i]? = some x) (hx : Loc X.env.scope x) (he : PE X e te) (hs : swapsWith e (some (.Name x pos')) pos.line X.env = pure false := by rfl) (hf : X.fn x = true ∨ X.env.scope.names.lookup x = some .local := by first | exact .inl rfl | exact .inr rfl | assumption) :
    PS X (.Assign [.Name x pos'] e pos) (tAsg te (gName i)) := by
  intro pins s σ H D I h
  refine wpAny_Assign_Name (thn (he pins s σ H _ I h) fun v s1 ⟨y, H1, I1, r1, q1⟩ => ?_) hs
  exact store_ok I1 hN hi hx r1 (fun s2 I2 => ⟨_, H1, I2, q1⟩) hf
noncomputable def tPar (i j : Nat) (ta : TA) : TS := fun D σ H => ta σ H fun vs H1 => ∃ v w, vs = [v, w] ∧ D.nx ((σ.set i (some v)).set j (some w)) H1
noncomputable def tAug (i : Nat) (te : TE) (ti : TIp) : TS := fun D σ H => ∃ x, σ[i]? = some (some x) ∧ te σ H fun y H1 => ti x y H1 fun z H2 => D.nx (σ.set i (some z)) H2
noncomputable def tAugS (to ti te : TE) (tget : V → V → Hp → VK → Prop) (tip : TIp) (tset : TSet) : TS := fun D σ H => to σ H fun o H1 => ti σ H1 fun i H2 => tget o i H2 fun x H3 => te σ H3 fun y H4 => tip x y H4 fun z H5 => tset o i z H5 fun H6 => D.nx σ H6
noncomputable def PGet (X : Cx) (t : V → V → Hp → VK → Prop) : Prop :=
  ∀ (pins : List (Addr × Obj)) (s : Shared) (σ : St) (H : Hp) (o i : V) (ov iv : Value) (Q : VK), Inv X pins σ H s → RelV o ov → RelV i iv → t o i H Q →
    wpAny (model X.prog X.w) X.A (getItem ov iv) (EP X pins σ Q) X.xe s
noncomputable def ipI (f : Int → Int → Int) : TIp := fun x y H Q => ∃ i j, x = .int i ∧ y = .int j ∧ Q (.int (f i j)) H
end

section
variable {X : Cx} {pos : Pos}
noncomputable def tWhile (c : TT) (tb : TS) : TS := fun D σ H => ∃ W : Nat → St → Hp → Prop, (∃ m, W m σ H) ∧ ∀ m σ H, W m σ H →
  c σ H fun b H1 => if b = true then ∃ N : St → Hp → Prop, (∀ σ' H', N σ' H' → ∃ m', m' < m ∧ W m' σ' H') ∧ tb { D with nx := N, ct := N, bk := D.nx } σ H1 else D.nx σ H1
theorem ps_while {c : Expr} {body : List Stmt} {tc : TT} {tb : TS} (hp : PassesOwn (model X.prog X.w) X.A X.env X.xe) (hc : PT X c tc) (hb : PSs X body tb) : PS X (.While c body [] pos) (tWhile tc tb) := by
  intro pins s σ H D I h
  obtain ⟨W, ⟨m0, w0⟩, turn⟩ := h
  refine wpAny_While (codeAny_whileLoop (fun n s' => ∃ σ' H', Inv X pins σ' H' s' ∧ W n σ' H') ?_ m0 ⟨σ, H, I, w0⟩)
  rintro n s1 ⟨σ1, H1, I1, w1⟩
  refine wpAny_passesOwn hp (thn (hc pins s1 σ1 H1 _ I1 (turn n σ1 H1 w1)) fun b s2 ⟨H2, I2, q2⟩ => ?_)
  cases b with
  | true =>
    obtain ⟨N, hN, q2⟩ := q2
    rw [if_pos rfl]
    refine wpAny_passesOwn hp (thn (hb pins s2 σ1 H2 _ I2 q2) fun f s3 q3 => ?_)
    cases f with
    | next =>
      obtain ⟨σ3, H3, I3, n3⟩ := q3
      obtain ⟨m', hm, w3⟩ := hN σ3 H3 n3
      exact ⟨m', hm, σ3, H3, I3, w3⟩
    | cont =>
      obtain ⟨σ3, H3, I3, n3⟩ := q3
      obtain ⟨m', hm, w3⟩ := hN σ3 H3 n3
      exact ⟨m', hm, σ3, H3, I3, w3⟩
    | brk => exact q3
    | ret v => exact q3
  | false =>
    rw [if_neg Bool.false_ne_true]
    exact wpAny_execs_nil ⟨σ1, H2, I2, q2⟩
end

structure It where
  go : Nat → Hp → Prop
  yld : Nat → Hp → V → Hp → Prop
  stop : Nat → Hp → Prop
noncomputable def FpOk (X : Cx) (pins : List (Addr × Obj)) (H : Hp) (b : Addr) : Prop :=
  H b = none ∧ b ≠ X.env.locals ∧ b ∉ X.fs ∧ (b ∈ X.ex ∨ X.s_0.heap.objs.size ≤ b) ∧ (∀ x c, X.env.cells.lookup x = some c → c ≠ b) ∧ ∀ p ∈ X.pn ++ pins, p.1 ≠ b
theorem Inv.fpOk {X : Cx} {pins : List (Addr × Obj)} {σ : St} {H H' : Hp} {s : Shared} {b : Addr} (I : Inv X pins σ H s) (hb : s.heap.objs.size ≤ b) (hn : H' b = none) : FpOk X pins H' b := by
  refine ⟨hn, Nat.ne_of_gt (Nat.lt_of_lt_of_le I.lt hb), I.nofs hb, .inr (Nat.le_trans I.sz hb), fun x c e z => ?_, fun p hp z => ?_⟩
  · obtain ⟨v, q⟩ := I.cell x c e
    exact absurd (Nat.lt_of_lt_of_le q.lt (by rw [z]; exact hb)) (Nat.lt_irrefl _)
  · exact absurd (Nat.lt_of_lt_of_le (Heap.lt_size (I.pin p hp).1) (by rw [z]; exact hb)) (Nat.lt_irrefl _)
structure Turn (P : Program) (w : World) (K : PySem.W.Frag) (tg : Expr) (J : It) (fp : List Addr) (it : Addr) (tn : Nat → Heap → Prop) : Prop where
  mem : it ∈ fp
  obj : ∀ i h, tn i h → ∀ b ∈ fp, ∃ o, h.get? b = some o ∧ ∀ v, o.data ≠ .cell v
  keep : ∀ i h h', tn i h → (∀ b ∈ fp, ∀ o, h.get? b = some o → h'.get? b = some o) → tn i h'
  item : ∀ (X : Cx), X.prog = P → X.w = w → X.K = K → X.calm = true → ∀ (i : Nat) (pins : List (Addr × Obj)) (s : Shared) (σ : St) (H : Hp) (E : Value → Shared → Prop), Inv X pins σ H s → (∀ b ∈ fp, FpOk X pins H b) → tn i s.heap → J.go i H →
    wpAny (model P w) X.A (pyNext (.ref it)) (fun r s1 => ∃ u, r = some u ∧
      wpAny (model P w) X.A (letOwnedTupleGo tg (.ref it) u) (fun _ s2 => ∃ x H', Inv X pins σ H' s2 ∧ RelV x u ∧ J.yld i H x H' ∧ tn (i + 1) s2.heap ∧ ∀ b ∈ fp, H' b = none) E s1) E s
  done : ∀ (X : Cx), X.prog = P → X.w = w → X.K = K → X.calm = true → ∀ (i : Nat) (pins : List (Addr × Obj)) (s : Shared) (σ : St) (H : Hp) (E : Value → Shared → Prop), Inv X pins σ H s → (∀ b ∈ fp, FpOk X pins H b) → tn i s.heap → J.stop i H →
    wpAny (model P w) X.A (pyNext (.ref it)) (fun r s1 => r = none ∧ Inv X pins σ H s1) E s
  self : ∀ (A : Around) (i : Nat) (s : Shared) (Q : Value → Shared → Prop) (E : Value → Shared → Prop), tn i s.heap → Q (.ref it) s → wpAny (model P w) A (pyIter (.ref it)) Q E s
noncomputable abbrev TI := St → Hp → (It → Hp → Prop) → Prop
noncomputable def PIE (X : Cx) (pins : List (Addr × Obj)) (σ : St) (tg : Expr) (R : It → Hp → Prop) (itv : Value) (s2 : Shared) : Prop :=
  ∃ (it : Addr) (fp : List Addr) (tn : Nat → Heap → Prop) (J : It) (H' : Hp), itv = .ref it ∧ Inv X pins σ H' s2 ∧ Turn X.prog X.w X.K tg J fp it tn ∧ tn 0 s2.heap ∧ (∀ b ∈ fp, FpOk X pins H' b) ∧ R J H'
noncomputable def PI (X : Cx) (tg iter : Expr) (wi : TI) : Prop :=
  ∀ (pins : List (Addr × Obj)) (s : Shared) (σ : St) (H : Hp) (R : It → Hp → Prop), Inv X pins σ H s → wi σ H R →
    wpAny (model X.prog X.w) X.A (eval iter X.env) (fun v s1 => wpAny (model X.prog X.w) X.A (pyIter v) (PIE X pins σ tg R) X.xe s1) X.xe s

theorem go_of {M : Model} {A : Around} {E : Value → Shared → Prop} {s : Shared} {tg : Expr} {it : Addr} {u : Value} {o : Obj} {n : String} {vs : Array Value} {Q : Unit → Shared → Prop} (ho : s.heap.get? it = some o) (hc : o.cls = .type n) (hd : o.data = .fields vs)
    (hn : ["enumerate", "zip", "dict_itemiterator", "dict_reverseitemiterator", "odict_iterator", "itertools.zip_longest", "itertools.pairwise"].contains n = false) (hQ : Q () s) : wpAny M A (letOwnedTupleGo tg (.ref it) u) Q E s := by
  unfold letOwnedTupleGo
  cases tg <;> first
    | exact wpAny_pure hQ
    | (cases u <;> first
        | exact wpAny_pure hQ
        | (refine wpAny_bind (wpAny_load ho ?_)
           rw [hc, hd]
           show wpAny M A (if (["enumerate", "zip", "dict_itemiterator", "dict_reverseitemiterator", "odict_iterator", "itertools.zip_longest", "itertools.pairwise"].contains n && vs[0]? == some (rawInt _)) = true then _ else _) Q E s
           rw [if_neg (by intro h; rw [hn, Bool.false_and] at h; cases h)]
           exact wpAny_pure hQ))

noncomputable def Itl (K : PySem.W.Frag) (a : Addr) : It :=
  ⟨fun i H => ∃ xs x, SqL K H a xs ∧ xs[i]? = some x, fun i H x H' => H' = H ∧ ∀ xs, SqL K H a xs → xs[i]? = some x, fun i H => ∃ xs, SqL K H a xs ∧ xs.length ≤ i⟩
noncomputable def Itt (K : PySem.W.Frag) (a : Addr) : It :=
  ⟨fun i H => ∃ xs x, SqT K H a xs ∧ xs[i]? = some x, fun i H x H' => H' = H ∧ ∀ xs, SqT K H a xs → xs[i]? = some x, fun i H => ∃ xs, SqT K H a xs ∧ xs.length ≤ i⟩
noncomputable def Itr (lo : Int) (n : Nat) : It := ⟨fun i _ => i < n, fun i H x H' => H' = H ∧ x = .int (lo + i), fun i _ => n ≤ i⟩
theorem turn_list {P : Program} {w : World} {K : PySem.W.Frag} {tg : Expr} (a it : Addr) : Turn P w K tg (Itl K a) [it] it (fun i h => h.IsListIter it a i) where
  mem := by simp
  obj := fun i h st b hb => by
    have e : b = it := by simpa using hb
    subst e
    obtain ⟨o, e, c, d⟩ := st
    exact ⟨o, e, fun v z => by rw [d] at z; cases z⟩
  keep := fun i h h' st k => st.at fun o e => k it (by simp) o e
  item := by
    intro X hP hw hK hc i pins s σ H E I hf st hg
    subst hP hw hK
    obtain ⟨xs, x, hq, hx⟩ := hg
    obtain ⟨its, rv, p, hz⟩ := I.list hq
    obtain ⟨u, hu, ru⟩ := rv.get hx
    obtain ⟨f0, f1, f2, f3, f4, f5⟩ := hf it (by simp)
    refine wpAny_pyNext_list_item st p.isList (x := u) (by simpa using hu) fun h' st' sb => ?_
    have I1 : Inv X pins σ H { s with heap := h' } := I.turned (t' := s.toks) (fun b o hb e => (sb.2 b hb).trans e) f0 f1 f3 f4 f5
    obtain ⟨o, e, c, d⟩ := id st'
    exact ⟨u, rfl, go_of (s := { s with heap := h' }) e c d (by decide) ⟨x, H, I1, ru, ⟨rfl, fun ys hy => by rw [I.list_inj hy hq]; exact hx⟩, st', fun b hb => (hf b hb).1⟩⟩
  done := by
    intro X hP hw hK hc i pins s σ H E I hf st hg
    subst hP hw hK
    obtain ⟨xs, hq, hx⟩ := hg
    obtain ⟨its, rv, p, hz⟩ := I.list hq
    obtain ⟨f0, f1, f2, f3, f4, f5⟩ := hf it (by simp)
    have hl := rv.length
    exact wpAny_pyNext_list_end (I.ok.hd hc) st p.isList (by simp; omega) fun h' eb => ⟨rfl, I.turned (t' := s.toks) (fun b o hb e => eb b o hb e) f0 f1 f3 f4 f5⟩
  self := fun _ _ _ _ _ st h => wpAny_pyIter_listiter st h
theorem turn_range {P : Program} {w : World} {K : PySem.W.Frag} {tg : Expr} (it : Addr) (lo : Int) (n : Nat) : Turn P w K tg (Itr lo n) [it] it (fun i h => IsRangeIter h it (lo + (i : Nat) * 1) ((n : Int) - (i : Nat)) 1) where
  mem := by simp
  obj := fun i h st b hb => by
    have e : b = it := by simpa using hb
    subst e
    exact ⟨_, st, fun v z => by
      have z' : Data.fields _ = Data.cell v := z
      cases z'⟩
  keep := fun i h h' st k => k it (by simp) _ st
  item := by
    intro X hP hw hK hc i pins s σ H E I hf st hg
    subst hP hw hK
    obtain ⟨f0, f1, f2, f3, f4, f5⟩ := hf it (by simp)
    have W := Walks.range (prog := X.prog) (w := X.w) (I.ok.hd hc) it lo 1 n
    refine W.item i s _ _ hg st fun v h' tk hv st' kk => ?_
    obtain ⟨t, rfl⟩ := hv
    have I1 : Inv X pins σ H { s with heap := h', toks := tk } := I.turned (fun b o hb e => kk b o (by simpa using hb) e) f0 f1 f3 f4 f5
    refine ⟨_, rfl, go_of (s := { s with heap := h', toks := tk }) (n := "range_iterator") st' rfl rfl (by decide) ⟨.int (lo + i), H, I1, ⟨t, ?_⟩, ⟨rfl, rfl⟩, st', fun b hb => (hf b hb).1⟩⟩
    rw [Int.mul_one]
  done := by
    intro X hP hw hK hc i pins s σ H E I hf st hg
    subst hP hw hK
    obtain ⟨f0, f1, f2, f3, f4, f5⟩ := hf it (by simp)
    exact wpAny_pyNext_range_end (I.ok.hd hc) st (by have : n ≤ i := hg; omega) fun h' eb => ⟨rfl, I.turned (t' := s.toks) (fun b o hb e => eb b o hb e) f0 f1 f3 f4 f5⟩
  self := fun _ _ _ _ _ st h => wpAny_pyIter_rangeiter st h
end L2

namespace L2
open PySem PySem.Spec PyProof.Rows
section
variable {X : Cx} {tg : Expr}
noncomputable def iList (K : PySem.W.Frag) (tl : TE) : TI := fun σ H R => tl σ H fun x H1 => ∃ a, x = .ref a ∧ (∃ xs, SqL K H1 a xs) ∧ R (Itl K a) H1
noncomputable def iTup (K : PySem.W.Frag) (tl : TE) : TI := fun σ H R => tl σ H fun x H1 => ∃ a, x = .ref a ∧ (∃ xs, SqT K H1 a xs) ∧ R (Itt K a) H1
theorem pi_list {l : Expr} {tl : TE} (hl : PE X l tl) : PI X tg l (iList X.K tl) := by
  intro pins s σ H R I h
  refine thn (hl pins s σ H _ I h) fun v s1 ⟨x, H1, I1, r1, q1⟩ => ?_
  obtain ⟨a, e, ⟨xs, hq⟩, q⟩ := q1
  subst e
  cases r1
  obtain ⟨its, rv, p, hz⟩ := I1.list hq
  refine wpAny_pyIter_list p.isList ?_
  refine ⟨s1.heap.objs.size, [s1.heap.objs.size], _, _, H1, rfl, I1.kept (t' := s1.toks) fun b o e => Heap.get?_push_of_some _ e, turn_list a _, ⟨_, Heap.get?_push_size _ rfl, rfl, rfl⟩, fun b hb => ?_, q⟩
  have e : b = s1.heap.objs.size := by simpa using hb
  subst e
  exact I1.fpOk (Nat.le_refl _) (I1.hok.fresh (Nat.le_refl _))
theorem range_it {pins : List (Addr × Obj)} {σ : St} {H : Hp} {s : Shared} {R : It → Hp → Prop} {E : Value → Shared → Prop} {lo hi : Int} {t u v : Tok} {tk : Nat} (I : Inv X pins σ H s) (h1 : -(2 ^ 62) ≤ lo) (h2 : lo < 2 ^ 62) (h3 : -(2 ^ 62) ≤ hi) (h4 : hi < 2 ^ 62)
    (q : R (Itr lo (hi - lo).toNat) H) : wpAny (model X.prog X.w) X.A (pyIter (.ref s.heap.objs.size)) (PIE X pins σ tg R) E { s with heap := s.heap.push { cls := .type "range", data := .fields #[.int lo t, .int hi u, .int 1 v] }, toks := tk } := by
  refine wpAny_pyIter_range (IsRange.new ..) (small_one h1 h2 h3 h4) ?_
  have I1 : Inv X pins σ H { s with heap := s.heap.push { cls := .type "range", data := .fields #[.int lo t, .int hi u, .int 1 v] }, toks := tk } := I.kept fun b o e => Heap.get?_push_of_some _ e
  refine ⟨(s.heap.push { cls := .type "range", data := .fields #[.int lo t, .int hi u, .int 1 v] }).objs.size, [(s.heap.push { cls := .type "range", data := .fields #[.int lo t, .int hi u, .int 1 v] }).objs.size], _, _, H, rfl,
    I1.kept (t' := tk) fun b o e => Heap.get?_push_of_some _ e, turn_range _ lo (hi - lo).toNat, ?_, fun b hb => ?_, q⟩
  · have e1 : lo + ((0 : Nat) : Int) * 1 = lo := by simp
    have e2 : (((hi - lo).toNat : Nat) : Int) - ((0 : Nat) : Int) = Builtin.Range.rangeSize lo hi 1 := by rw [rangeSize_one]; split <;> omega
    show IsRangeIter _ _ (lo + ((0 : Nat) : Int) * 1) ((((hi - lo).toNat : Nat) : Int) - ((0 : Nat) : Int)) 1
    rw [e1, e2]
    exact Heap.get?_push_size _ rfl
  · have e : b = (s.heap.push { cls := .type "range", data := .fields #[.int lo t, .int hi u, .int 1 v] }).objs.size := by simpa using hb
    subst e
    exact I1.fpOk (Nat.le_refl _) (I1.hok.fresh (Nat.le_refl _))
noncomputable def iRng1 (ta : TA) : TI := fun σ H R => ta σ H fun vs H1 => ∃ j : Int, vs = [.int j] ∧ -(2 ^ 62) ≤ j ∧ j < 2 ^ 62 ∧ R (Itr 0 j.toNat) H1
noncomputable def iRng2 (ta : TA) : TI := fun σ H R => ta σ H fun vs H1 => ∃ i j : Int, vs = [.int i, .int j] ∧ (-(2 ^ 62) ≤ i ∧ i < 2 ^ 62 ∧ -(2 ^ 62) ≤ j ∧ j < 2 ^ 62) ∧ R (Itr i (j - i).toNat) H1
theorem pi_range1 {a : Expr} {ta : TA} {p pos : Pos} (hg : Gl X "range") (hm : X.mg "range" = none) (ha : PA X [a] ta) (hs : starEach [a] X.env = [(false, eval a X.env)] := by rfl) : PI X tg (.Call (.Name "range" p) [a] [] pos) (iRng1 ta) := by
  intro pins s σ H R I h
  refine Call_ (ld_blt I hg hm boot_range (PyProof.Rows.callWith_type1 (thn (ha pos pins s σ H _ I h) fun us s1 ⟨vs, H1, I1, r1, q1⟩ => ?_) hs rfl))
  obtain ⟨j, e, q1, q2, q⟩ := q1
  subst e
  cases r1 with
  | cons r rr =>
    cases rr
    obtain ⟨t, rfl⟩ := r
    exact call_range_1 (range_it I1 (by omega) (by omega) q1 q2 (by simpa using q))
noncomputable def tFor (wi : TI) (g : TG) (tb : TS) : TS := fun D σ H => wi σ H fun J H1 => ∃ W : Nat → Nat → St → Hp → Prop, (∃ m, W 0 m σ H1) ∧ ∀ i m σ H, W i m σ H →
  (J.stop i H ∧ D.nx σ H) ∨ (J.go i H ∧ ∃ N : St → Hp → Prop, (∀ σ' H', N σ' H' → ∃ m', m' < m ∧ W (i + 1) m' σ' H') ∧ ∀ x H', J.yld i H x H' → g x σ H' fun σ2 H2 => tb { D with nx := N, ct := N, bk := D.nx } σ2 H2)
noncomputable def pinsAt (fp : List Addr) (h : Heap) : List (Addr × Obj) := fp.filterMap fun b => (h.get? b).map fun o => (b, o)
theorem mem_pinsAt {fp : List Addr} {h : Heap} {b : Addr} {o : Obj} (hb : b ∈ fp) (e : h.get? b = some o) : (b, o) ∈ pinsAt fp h := List.mem_filterMap.mpr ⟨b, hb, by rw [e]; rfl⟩
theorem of_pinsAt {fp : List Addr} {h : Heap} {p : Addr × Obj} (hp : p ∈ pinsAt fp h) : p.1 ∈ fp ∧ h.get? p.1 = some p.2 := by
  obtain ⟨b, hb, e⟩ := List.mem_filterMap.mp hp
  cases q : h.get? b with
  | none => rw [q] at e; cases e
  | some o =>
    rw [q] at e
    have e' : (b, o) = p := Option.some.inj e
    subst e'
    exact ⟨hb, q⟩
theorem Inv.pinned {pins : List (Addr × Obj)} {σ : St} {H : Hp} {s : Shared} {fp : List Addr} (I : Inv X pins σ H s) (hf : ∀ b ∈ fp, FpOk X pins H b) (ho : ∀ b ∈ fp, ∃ o, s.heap.get? b = some o ∧ ∀ v, o.data ≠ .cell v) : Inv X (pins ++ pinsAt fp s.heap) σ H s :=
  I.pins_of fun p hp => (List.mem_append.mp hp).elim (fun z => I.pin p (List.mem_append_right _ z)) fun z => by
    obtain ⟨hb, e⟩ := of_pinsAt z
    obtain ⟨f0, f1, f2, _⟩ := hf p.1 hb
    obtain ⟨o, e', d⟩ := ho p.1 hb
    rw [e] at e'; cases e'
    exact ⟨e, f0, f1, f2, d⟩
theorem Inv.unpinned {pins pl : List (Addr × Obj)} {σ : St} {H : Hp} {s : Shared} (I : Inv X (pins ++ pl) σ H s) : Inv X pins σ H s := I.pins_of fun p hp => I.pin p (List.mem_append_right _ (List.mem_append_left _ hp))
theorem ps_for {iter : Expr} {body : List Stmt} {wi : TI} {g : TG} {tb : TS} {pos : Pos} (hp : PassesOwn (model X.prog X.w) X.A X.env X.xe) (hc : X.calm = true) (hi : PI X tg iter wi) (hg : PG X tg g) (hb : PSs X body tb)
    (hs : ∀ x, foldedSetIterable iter X.env x = pure x := by intro _; rfl) : PS X (.For tg iter body [] pos) (tFor wi g tb) := by
  intro pins s σ H D I h
  refine wpAny_For (thn (hi pins s σ H _ I h) fun v s1 h1 => thn h1 fun itv s2 h2 => ?_) hs
  obtain ⟨it, fp, tn, J, H2, e, I2, T, st2, f2, W, ⟨m0, w0⟩, turn⟩ := h2
  subst e
  have stat : ∀ {H' : Hp}, (∀ b ∈ fp, H' b = none) → ∀ b ∈ fp, FpOk X pins H' b := fun hn b hb => ⟨hn b hb, (f2 b hb).2⟩
  refine codeAny_forLoop_any (fun n s' => ∃ i σ' H', Inv X pins σ' H' s' ∧ tn i s'.heap ∧ (∀ b ∈ fp, H' b = none) ∧ W i n σ' H') ?_ m0 ⟨0, σ, H2, I2, st2, fun b hb => (f2 b hb).1, w0⟩
  rintro n s3 ⟨i, σ3, H3, I3, st3, fr3, w3⟩
  rcases turn i n σ3 H3 w3 with ⟨stop, qn⟩ | ⟨go, N, hN, step⟩
  · refine wpAny_passesOwn hp (thn (T.done X rfl rfl rfl hc i pins s3 σ3 H3 X.xe I3 (stat fr3) st3 stop) fun r s4 ⟨hr, I4⟩ => ?_)
    subst hr
    exact wpAny_execs_nil ⟨σ3, H3, I4, qn⟩
  · refine wpAny_passesOwn hp (thn (T.item X rfl rfl rfl hc i pins s3 σ3 H3 X.xe I3 (stat fr3) st3 go) fun r s4 ⟨u, hr, h4⟩ => ?_)
    subst hr
    refine wpAny_passesOwn hp (thn h4 fun _ s5 ⟨x, H5, I5, r5, y5, st5, fr5⟩ => ?_)
    have I5' := I5.pinned (stat fr5) (T.obj _ _ st5)
    refine wpAny_passesOwn hp (thn (hg _ s5 σ3 H5 x u _ I5' r5 (step x H5 y5)) fun _ s6 ⟨σ6, H6, I6, q6⟩ => ?_)
    refine wpAny_passesOwn hp (thn (hb _ s6 σ6 H6 _ I6 q6) fun f s7 q7 => ?_)
    have again : ∀ {σ7 : St} {H7 : Hp}, Inv X (pins ++ pinsAt fp s5.heap) σ7 H7 s7 → N σ7 H7 → ∃ m, m < n ∧ ∃ i σ' H', Inv X pins σ' H' s7 ∧ tn i s7.heap ∧ (∀ b ∈ fp, H' b = none) ∧ W i m σ' H' := fun {σ7 H7} I7 n7 => by
      obtain ⟨m', hm, w7⟩ := hN σ7 H7 n7
      refine ⟨m', hm, i + 1, σ7, H7, I7.unpinned, T.keep _ _ _ st5 fun b hb o e => (I7.pin (b, o) (List.mem_append_right _ (List.mem_append_right _ (mem_pinsAt hb e)))).1, fun b hb => ?_, w7⟩
      obtain ⟨o, e, d⟩ := T.obj _ _ st5 b hb
      exact (I7.pin (b, o) (List.mem_append_right _ (List.mem_append_right _ (mem_pinsAt hb e)))).2.1
    cases f with
    | next => obtain ⟨σ7, H7, I7, n7⟩ := q7; exact again I7 n7
    | cont => obtain ⟨σ7, H7, I7, n7⟩ := q7; exact again I7 n7
    | brk => obtain ⟨σ7, H7, I7, q7⟩ := q7; exact ⟨σ7, H7, I7.unpinned, q7⟩
    | ret v => obtain ⟨x7, σ7, H7, I7, r7, q7⟩ := q7; exact ⟨x7, σ7, H7, I7.unpinned, r7, q7⟩
end

theorem for_list {K : PySem.W.Frag} {a : Addr} {xs : List V} {g : TG} {tb : TS} {D : Ends} {σ : St} {H : Hp} (Pv : Nat → St → Hp → Prop) (h0 : Pv 0 σ H) (hl : ∀ i σ H, i ≤ xs.length → Pv i σ H → SqL K H a xs)
    (hs : ∀ i x σ H, xs[i]? = some x → Pv i σ H → g x σ H fun σ2 H2 => tb { D with nx := Pv (i + 1), ct := Pv (i + 1), bk := D.nx } σ2 H2) (hd : ∀ σ H, Pv xs.length σ H → D.nx σ H) :
    ∃ W : Nat → Nat → St → Hp → Prop, (∃ m, W 0 m σ H) ∧ ∀ i m σ H, W i m σ H →
      ((Itl K a).stop i H ∧ D.nx σ H) ∨ ((Itl K a).go i H ∧ ∃ N : St → Hp → Prop, (∀ σ' H', N σ' H' → ∃ m', m' < m ∧ W (i + 1) m' σ' H') ∧ ∀ x H', (Itl K a).yld i H x H' → g x σ H' fun σ2 H2 => tb { D with nx := N, ct := N, bk := D.nx } σ2 H2) := by
  refine ⟨fun i m σ H => m = xs.length - i ∧ i ≤ xs.length ∧ Pv i σ H, ⟨xs.length, by simp, Nat.zero_le _, h0⟩, ?_⟩
  rintro i m σ H ⟨rfl, hi, p⟩
  have q := hl i σ H hi p
  by_cases hlt : i < xs.length
  · refine .inr ⟨⟨xs, xs[i], q, by simp [hlt]⟩, Pv (i + 1), fun σ' H' p' => ⟨xs.length - (i + 1), by omega, rfl, hlt, p'⟩, fun x H' y => ?_⟩
    obtain ⟨e, y⟩ := y
    subst e
    exact hs i x σ _ (y xs q) p
  · have e : i = xs.length := by omega
    subst e
    exact .inl ⟨⟨xs, q, Nat.le_refl _⟩, hd σ H p⟩
theorem for_range {lo : Int} {n : Nat} {g : TG} {tb : TS} {D : Ends} {σ : St} {H : Hp} (Pv : Nat → St → Hp → Prop) (h0 : Pv 0 σ H)
    (hs : ∀ i σ H, i < n → Pv i σ H → g (.int (lo + i)) σ H fun σ2 H2 => tb { D with nx := Pv (i + 1), ct := Pv (i + 1), bk := D.nx } σ2 H2) (hd : ∀ σ H, Pv n σ H → D.nx σ H) :
    ∃ W : Nat → Nat → St → Hp → Prop, (∃ m, W 0 m σ H) ∧ ∀ i m σ H, W i m σ H →
      ((Itr lo n).stop i H ∧ D.nx σ H) ∨ ((Itr lo n).go i H ∧ ∃ N : St → Hp → Prop, (∀ σ' H', N σ' H' → ∃ m', m' < m ∧ W (i + 1) m' σ' H') ∧ ∀ x H', (Itr lo n).yld i H x H' → g x σ H' fun σ2 H2 => tb { D with nx := N, ct := N, bk := D.nx } σ2 H2) := by
  refine ⟨fun i m σ H => m = n - i ∧ i ≤ n ∧ Pv i σ H, ⟨n, by simp, Nat.zero_le _, h0⟩, ?_⟩
  rintro i m σ H ⟨rfl, hi, p⟩
  by_cases hlt : i < n
  · refine .inr ⟨hlt, Pv (i + 1), fun σ' H' p' => ⟨n - (i + 1), by omega, rfl, hlt, p'⟩, fun x H' y => ?_⟩
    obtain ⟨e, y⟩ := y
    subst e y
    exact hs i σ _ hlt p
  · have e : i = n := by omega
    subst e
    exact .inl ⟨Nat.le_refl _, hd σ H p⟩
end L2

namespace L2
open PySem PySem.Spec PyProof.Rows

noncomputable abbrev R2 := V → V → Hp → VK → Prop
noncomputable def OpR (X : Cx) (f : Value → Value → Sem Value) (r : R2) : Prop :=
  ∀ (pins : List (Addr × Obj)) (s : Shared) (σ : St) (H : Hp) (x y : V) (v u : Value) (Q : VK), Inv X pins σ H s → RelV x v → RelV y u → r x y H Q →
    wpAny (model X.prog X.w) X.A (f v u) (EP X pins σ Q) X.xe s
noncomputable def UnR (X : Cx) (f : Value → Sem Value) (r : V → Hp → VK → Prop) : Prop :=
  ∀ (pins : List (Addr × Obj)) (s : Shared) (σ : St) (H : Hp) (x : V) (v : Value) (Q : VK), Inv X pins σ H s → RelV x v → r x H Q →
    wpAny (model X.prog X.w) X.A (f v) (EP X pins σ Q) X.xe s
noncomputable def CallR (X : Cx) (f : Value) (r : List V → Hp → VK → Prop) : Prop :=
  ∀ (pins : List (Addr × Obj)) (s : Shared) (σ : St) (H : Hp) (xs : List V) (us : List Value) (Q : VK), Inv X pins σ H s → Vals xs us → r xs H Q →
    wpAny (model X.prog X.w) X.A (call f us) (EP X pins σ Q) X.xe s
noncomputable def TruR (X : Cx) (r : V → Hp → (Bool → Hp → Prop) → Prop) : Prop :=
  ∀ (pins : List (Addr × Obj)) (s : Shared) (σ : St) (H : Hp) (x : V) (v : Value) (Q : Bool → Hp → Prop), Inv X pins σ H s → RelV x v → r x H Q →
    wpAny (model X.prog X.w) X.A (truthy v) (TP X pins σ Q) X.xe s

noncomputable def tOp (r : R2) (ta tb : TE) : TE := fun σ H Q => ta σ H fun x H1 => tb σ H1 fun y H2 => r x y H2 Q
noncomputable def tUn (r : V → Hp → VK → Prop) (ta : TE) : TE := fun σ H Q => ta σ H fun x H1 => r x H1 Q
noncomputable def rI (C : Int → Int → Prop) (g : Int → Int → V) : R2 := fun x y H Q => ∃ i j, x = .int i ∧ y = .int j ∧ C i j ∧ Q (g i j) H
noncomputable def rI0 (g : Int → Int → V) : R2 := fun x y H Q => ∃ i j, x = .int i ∧ y = .int j ∧ Q (g i j) H
noncomputable def rU (g : Int → V) : V → Hp → VK → Prop := fun x H Q => ∃ i, x = .int i ∧ Q (g i) H

section
variable {X : Cx} {a b c : Expr} {ta tb tc : TE} {pos : Pos}

theorem binT (ha : PE X a ta) (hb : PE X b tb) {pins : List (Addr × Obj)} {s : Shared} {σ : St} {H : Hp} {R : V → V → Hp → Prop} (I : Inv X pins σ H s)
    (h : ta σ H fun x H1 => tb σ H1 fun y H2 => R x y H2) {Q : Value → Shared → Prop} {f : Value → Value → Sem Value}
    (hf : ∀ v u s2 x y H2, Inv X pins σ H2 s2 → RelV x v → RelV y u → R x y H2 → wpAny (model X.prog X.w) X.A (f v u) Q X.xe s2) :
    wpAny (model X.prog X.w) X.A (eval a X.env) (fun v s₁ => wpAny (model X.prog X.w) X.A (eval b X.env) (fun u s₂ => wpAny (model X.prog X.w) X.A (f v u) Q X.xe s₂) X.xe s₁) X.xe s := by
  refine thn (ha pins s σ H _ I h) fun v s1 ⟨x, H1, I1, r1, q1⟩ => ?_
  refine thn (hb pins s1 σ H1 _ I1 q1) fun u s2 ⟨y, H2, I2, r2, q2⟩ => ?_
  exact hf v u s2 x y H2 I2 r1 r2 q2

theorem pe_op {op : Operator} {r : R2} (ho : OpR X (binaryOp op) r) (ha : PE X a ta) (hb : PE X b tb) : PE X (.BinOp a op b pos) (tOp r ta tb) := by
  intro pins s σ H Q I h
  exact wpAny_BinOp (binT ha hb I h fun v u s2 x y H2 I2 rx ry q => ho pins s2 σ H2 x y v u Q I2 rx ry q)
theorem pe_un {op : UnaryOp} {r : V → Hp → VK → Prop} (ho : UnR X (unaryOp op) r) (ha : PE X a ta) : PE X (.UnaryOp op a pos) (tUn r ta) := by
  intro pins s σ H Q I h
  exact UnaryOp_ (thn (ha pins s σ H _ I h) fun v s1 ⟨x, H1, I1, r1, q1⟩ => ho pins s1 σ H1 x v Q I1 r1 q1)
theorem opI {f : Value → Value → Sem Value} {C : Int → Int → Prop} {g : Int → Int → Int}
    (rule : ∀ (i j : Int) (t u : Tok) (s : Shared) (Q : Value → Shared → Prop) (E : Value → Shared → Prop), C i j → Q (.int (g i j) s.toks) { s with toks := s.toks + 1 } → wpAny (model X.prog X.w) X.A (f (.int i t) (.int j u)) Q E s) :
    OpR X f (rI C fun i j => .int (g i j)) := by
  intro pins s σ H x y v u Q I rx ry h
  obtain ⟨i, j, rfl, rfl, hc, q⟩ := h
  obtain ⟨t, rfl⟩ := rx
  obtain ⟨t', rfl⟩ := ry
  exact rule i j t t' s _ _ hc ⟨.int (g i j), H, I.tok _, ⟨_, rfl⟩, q⟩
theorem opI0 {f : Value → Value → Sem Value} {g : Int → Int → Int}
    (rule : ∀ (i j : Int) (t u : Tok) (s : Shared) (Q : Value → Shared → Prop) (E : Value → Shared → Prop), Q (.int (g i j) s.toks) { s with toks := s.toks + 1 } → wpAny (model X.prog X.w) X.A (f (.int i t) (.int j u)) Q E s) :
    OpR X f (rI0 fun i j => .int (g i j)) := by
  intro pins s σ H x y v u Q I rx ry h
  obtain ⟨i, j, rfl, rfl, q⟩ := h
  obtain ⟨t, rfl⟩ := rx
  obtain ⟨t', rfl⟩ := ry
  exact rule i j t t' s _ _ ⟨.int (g i j), H, I.tok _, ⟨_, rfl⟩, q⟩
theorem opB0 {f : Value → Value → Sem Value} {g : Int → Int → Bool}
    (rule : ∀ (i j : Int) (t u : Tok) (s : Shared) (Q : Value → Shared → Prop) (E : Value → Shared → Prop), Q (.bool (g i j)) s → wpAny (model X.prog X.w) X.A (f (.int i t) (.int j u)) Q E s) :
    OpR X f (rI0 fun i j => .bl (g i j)) := by
  intro pins s σ H x y v u Q I rx ry h
  obtain ⟨i, j, rfl, rfl, q⟩ := h
  obtain ⟨t, rfl⟩ := rx
  obtain ⟨t', rfl⟩ := ry
  exact rule i j t t' s _ _ ⟨.bl (g i j), H, I, rfl, q⟩

noncomputable def CDiv (i j : Int) : Prop := 0 < j ∧ j < 1073741824
noncomputable def CDivN (i j : Int) : Prop := j ≠ 0 ∧ j.natAbs < 1073741824
noncomputable def CPow (i j : Int) : Prop := 0 ≤ j ∧ j ≤ 1000000 ∧ i.natAbs < 2 ^ 64
noncomputable def CMul (i j : Int) : Prop := (-(2 ^ 64) < i ∧ i < 2 ^ 64) ∨ (-(2 ^ 64) < j ∧ j < 2 ^ 64)
theorem op_add : OpR X (binaryOp .Add) (rI0 fun i j => .int (i + j)) := opI0 fun _ _ _ _ _ _ _ q => add_int q
theorem op_sub : OpR X (binaryOp .Sub) (rI0 fun i j => .int (i - j)) := opI0 fun _ _ _ _ _ _ _ q => sub_int q
theorem op_fdiv : OpR X (binaryOp .FloorDiv) (rI CDiv fun i j => .int (i / j)) := opI fun i j _ _ _ _ _ hc q => by
  have h1 : (0 : Int) < j := hc.1
  have h2 : j < 1073741824 := hc.2
  exact floordiv_int (by omega) (by rw [Int.fdiv_eq_ediv_of_nonneg i (by omega)]; exact q) (.inl (PyProof.noPylong_small (by omega)))
theorem op_mod : OpR X (binaryOp .Mod) (rI (fun _ j => 0 < j) fun i j => .int (i % j)) := opI fun i j _ _ _ _ _ hc q => by
  have h1 : (0 : Int) < j := hc
  exact mod_int' (by omega) (by rw [Int.fmod_eq_emod_of_nonneg i (by omega)]; exact q)
theorem unI {f : Value → Sem Value} {g : Int → Int}
    (rule : ∀ (i : Int) (t : Tok) (s : Shared) (Q : Value → Shared → Prop) (E : Value → Shared → Prop), Q (.int (g i) s.toks) { s with toks := s.toks + 1 } → wpAny (model X.prog X.w) X.A (f (.int i t)) Q E s) :
    UnR X f (rU fun i => .int (g i)) := by
  intro pins s σ H x v Q I rx h
  obtain ⟨i, rfl, q⟩ := h
  obtain ⟨t, rfl⟩ := rx
  exact rule i t s _ _ ⟨.int (g i), H, I.tok _, ⟨_, rfl⟩, q⟩
theorem un_neg : UnR X (unaryOp .USub) (rU fun i => .int (-i)) := unI fun _ _ _ _ _ q => neg_int q
end

noncomputable def scal : V → V → Bool
  | .non, .non => true | .non, .int _ => true | .int _, .non => true | .non, .bl _ => true | .bl _, .non => true | .non, .str _ => true | .str _, .non => true
  | .int _, .int _ => true | .bl _, .bl _ => true | .str _, .str _ => true | .byt _, .byt _ => true
  | .int _, .str _ => true | .str _, .int _ => true | .bl _, .str _ => true | .str _, .bl _ => true
  | _, _ => false
noncomputable def rEq : R2 := fun x y H Q => scal x y = true ∧ Q (.bl (decide (x = y))) H
noncomputable def rNe : R2 := fun x y H Q => scal x y = true ∧ Q (.bl (!decide (x = y))) H

theorem dec_int {i j : Int} : decide (V.int i = V.int j) = (i == j) := by
  rw [Bool.eq_iff_iff]
  simp
theorem dec_bl {i j : Bool} : decide (V.bl i = V.bl j) = (i == j) := by
  rw [Bool.eq_iff_iff]
  simp
theorem dec_str {i j : Str} : decide (V.str i = V.str j) = (i == j) := by
  rw [Bool.eq_iff_iff]
  simp
theorem dec_byt {i j : Array UInt8} : decide (V.byt i = V.byt j) = (i.toList == j.toList) := by
  rw [Bool.eq_iff_iff]
  cases i
  cases j
  simp

section
variable {X : Cx} {a b c : Expr} {ta tb tc : TE} {pos : Pos}
theorem fin_bl {pins : List (Addr × Obj)} {σ : St} {H : Hp} {s : Shared} {Q : VK} {k k' : Bool} (I : Inv X pins σ H s) (q : Q (.bl k) H) (e : k = k') : EP X pins σ Q (.bool k') s := by
  subst e
  exact ⟨.bl k, H, I, rfl, q⟩
theorem op_eq : OpR X (compareOp .Eq) rEq := by
  intro pins s σ H x y v u Q I rx ry h
  obtain ⟨hs, q⟩ := h
  cases x with
  | non =>
    cases rx
    cases y with
    | non => cases ry; exact PySem.EqNone.eq_none_none (fin_bl I q (by simp))
    | bl j => cases ry; exact PySem.EqNone.eq_none_bool (fin_bl I q (by simp))
    | int j => obtain ⟨t', rfl⟩ := ry; exact PySem.EqNone.eq_none_int (fin_bl I q (by simp))
    | str j => obtain ⟨t', rfl⟩ := ry; exact PySem.EqNone.eq_none_str (fin_bl I q (by simp))
    | _ => exact absurd (show false = true from hs) Bool.false_ne_true
  | bl i =>
    cases rx
    cases y with
    | non => cases ry; exact PySem.EqNone.eq_bool_none (fin_bl I q (by simp))
    | bl j => cases ry; exact eq_bool (fin_bl I q dec_bl)
    | str j => obtain ⟨t', rfl⟩ := ry; exact PySem.EqMixed.eq_bool_str (fin_bl I q (by simp))
    | _ => exact absurd (show false = true from hs) Bool.false_ne_true
  | int i =>
    obtain ⟨t, rfl⟩ := rx
    cases y with
    | non => cases ry; exact PySem.EqNone.eq_int_none (fin_bl I q (by simp))
    | int j => obtain ⟨t', rfl⟩ := ry; exact eq_int (fin_bl I q dec_int)
    | str j => obtain ⟨t', rfl⟩ := ry; exact PySem.EqMixed.eq_int_str (fin_bl I q (by simp))
    | _ => exact absurd (show false = true from hs) Bool.false_ne_true
  | str i =>
    obtain ⟨t, rfl⟩ := rx
    cases y with
    | non => cases ry; exact PySem.EqNone.eq_str_none (fin_bl I q (by simp))
    | bl j => cases ry; exact PySem.EqMixed.eq_str_bool (fin_bl I q (by simp))
    | int j => obtain ⟨t', rfl⟩ := ry; exact PySem.EqMixed.eq_str_int (fin_bl I q (by simp))
    | str j => obtain ⟨t', rfl⟩ := ry; exact eq_str (fin_bl I q dec_str)
    | _ => exact absurd (show false = true from hs) Bool.false_ne_true
  | byt i =>
    obtain ⟨t, rfl⟩ := rx
    cases y with
    | byt j => obtain ⟨t', rfl⟩ := ry; exact PySem.W.eq_bytes (fin_bl I q dec_byt)
    | _ => exact absurd (show false = true from hs) Bool.false_ne_true
  | _ => cases y <;> exact absurd (show false = true from hs) Bool.false_ne_true
theorem op_ne : OpR X (compareOp .NotEq) rNe := by
  intro pins s σ H x y v u Q I rx ry h
  obtain ⟨hs, q⟩ := h
  cases x with
  | non =>
    cases rx
    cases y with
    | non => cases ry; exact PySem.EqNone.ne_none_none (fin_bl I q (by simp))
    | bl j => cases ry; exact PySem.EqNone.ne_none_bool (fin_bl I q (by simp))
    | int j => obtain ⟨t', rfl⟩ := ry; exact PySem.EqNone.ne_none_int (fin_bl I q (by simp))
    | str j => obtain ⟨t', rfl⟩ := ry; exact PySem.EqNone.ne_none_str (fin_bl I q (by simp))
    | _ => exact absurd (show false = true from hs) Bool.false_ne_true
  | bl i =>
    cases rx
    cases y with
    | non => cases ry; exact PySem.EqNone.ne_bool_none (fin_bl I q (by simp))
    | bl j => cases ry; exact ne_bool (fin_bl I q (congrArg not dec_bl))
    | str j => obtain ⟨t', rfl⟩ := ry; exact PySem.EqMixed.ne_bool_str (fin_bl I q (by simp))
    | _ => exact absurd (show false = true from hs) Bool.false_ne_true
  | int i =>
    obtain ⟨t, rfl⟩ := rx
    cases y with
    | non => cases ry; exact PySem.EqNone.ne_int_none (fin_bl I q (by simp))
    | int j => obtain ⟨t', rfl⟩ := ry; exact ne_int (fin_bl I q (congrArg not dec_int))
    | str j => obtain ⟨t', rfl⟩ := ry; exact PySem.EqMixed.ne_int_str (fin_bl I q (by simp))
    | _ => exact absurd (show false = true from hs) Bool.false_ne_true
  | str i =>
    obtain ⟨t, rfl⟩ := rx
    cases y with
    | non => cases ry; exact PySem.EqNone.ne_str_none (fin_bl I q (by simp))
    | bl j => cases ry; exact PySem.EqMixed.ne_str_bool (fin_bl I q (by simp))
    | int j => obtain ⟨t', rfl⟩ := ry; exact PySem.EqMixed.ne_str_int (fin_bl I q (by simp))
    | str j => obtain ⟨t', rfl⟩ := ry; exact ne_str (fin_bl I q (congrArg not dec_str))
    | _ => exact absurd (show false = true from hs) Bool.false_ne_true
  | byt i =>
    obtain ⟨t, rfl⟩ := rx
    cases y with
    | byt j => obtain ⟨t', rfl⟩ := ry; exact PySem.W.ne_bytes (fin_bl I q (congrArg not dec_byt))
    | _ => exact absurd (show false = true from hs) Bool.false_ne_true
  | _ => cases y <;> exact absurd (show false = true from hs) Bool.false_ne_true

theorem op_lt : OpR X (compareOp .Lt) (rI0 fun i j => .bl (decide (i < j))) := opB0 fun _ _ _ _ _ _ _ q => lt_int q
theorem op_le : OpR X (compareOp .LtE) (rI0 fun i j => .bl (decide (i ≤ j))) := opB0 fun _ _ _ _ _ _ _ q => le_int q
theorem op_gt : OpR X (compareOp .Gt) (rI0 fun i j => .bl (decide (j < i))) := opB0 fun _ _ _ _ _ _ _ q => gt_int q
theorem op_ge : OpR X (compareOp .GtE) (rI0 fun i j => .bl (decide (j ≤ i))) := opB0 fun _ _ _ _ _ _ _ q => ge_int q
noncomputable def isObj : HO → Bool
  | .lst _ => true
  | .ins _ _ _ => true
  | _ => false
theorem nomark (b : Expr) {op : CmpOp} (h : op ≠ .In := by decide) (h2 : op ≠ .NotIn := by decide) : behindInMarks op b = false := by
  have e1 : (op == CmpOp.In) = false := by cases op <;> first | rfl | exact absurd rfl h
  have e2 : (op == CmpOp.NotIn) = false := by cases op <;> first | rfl | exact absurd rfl h2
  cases b <;> simp [behindInMarks, e1, e2]
theorem pe_cmpR {op : CmpOp} {r : R2} (ho : OpR X (compareOp op) r) (ha : PE X a ta) (hb : PE X b tb) (hm : behindInMarks op b = false) : PE X (.Compare a [op] [b] pos) (tOp r ta tb) := by
  intro pins s σ H Q I h
  exact wpAny_Compare1 (binT ha hb I h fun v u s2 x y H2 I2 rx ry q => ho pins s2 σ H2 x y v u Q I2 rx ry q) hm
noncomputable def tTest (t : TE) : TT := fun σ H Q => t σ H fun x H' => ∃ k, x = .bl k ∧ Q k H'
theorem pt_cmpR {op : CmpOp} {r : R2} (ho : OpR X (compareOp op) r) (ha : PE X a ta) (hb : PE X b tb) (hm : behindInMarks op b = false) : PT X (.Compare a [op] [b] pos) (tTest (tOp r ta tb)) := by
  intro pins s σ H Q I h
  refine wpAny_isTrue_Compare1 (thn (ha pins s σ H _ I h) fun v s1 ⟨x, H1, I1, r1, q1⟩ => thn (hb pins s1 σ H1 _ I1 q1) fun u s2 ⟨y, H2, I2, r2, q2⟩ =>
    thn (ho pins s2 σ H2 x y v u _ I2 r1 r2 q2) fun c s3 ⟨z, H3, I3, r3, k, e, q3⟩ => ?_) hm
  subst e
  cases r3
  exact wpAny_truthy_bool ⟨H3, I3, q3⟩
noncomputable def tChain (r r' : R2) (ta tb tc : TE) : TE := fun σ H Q => ta σ H fun x H1 => tb σ H1 fun y H2 => r x y H2 fun z H3 => ∃ k, z = .bl k ∧
  (if k = true then tc σ H3 fun w' H4 => r' y w' H4 Q else Q (.bl false) H3)
theorem pe_chain {op op' : CmpOp} {r r' : R2} (ho : OpR X (compareOp op) r) (ho' : OpR X (compareOp op') r') (ha : PE X a ta) (hb : PE X b tb) (hc : PE X c tc)
    (hm : lastMarks [op, op'] [b, c] = false := by with_unfolding_all rfl) : PE X (.Compare a [op, op'] [b, c] pos) (tChain r r' ta tb tc) := by
  intro pins s σ H Q I h
  refine Compare_chain (thn (ha pins s σ H _ I h) fun v s1 ⟨x, H1, I1, r1, q1⟩ => chain_link (thn (hb pins s1 σ H1 _ I1 q1) fun u s2 ⟨y, H2, I2, r2, q2⟩ =>
    thn (ho pins s2 σ H2 x y v u _ I2 r1 r2 q2) fun d s3 ⟨z, H3, I3, r3, k, e, q3⟩ => ?_)) hm
  subst e
  cases r3
  refine wpAny_truthy_bool ?_
  cases k with
  | false => exact ite_ff ⟨.bl false, H3, I3, rfl, q3⟩
  | true => exact ite_tt (chain_last (thn (hc pins s3 σ H3 _ I3 q3) fun w' s4 ⟨z', H4, I4, r4, q4⟩ => ho' pins s4 σ H4 y z' u w' Q I4 r2 r4 q4))
noncomputable def TruV (K : PySem.W.Frag) (x : V) (H : Hp) (k : Bool) : Prop :=
  match x with
  | .non => k = false
  | .bl b => k = b
  | .int i => k = (i != 0)
  | .str y => y.length ≤ sizeLine ∧ k = ((y.length : Int) != 0)
  | .byt y => y.size ≤ sizeLine ∧ k = ((y.size : Int) != 0)
  | .ref p => (∃ xs, SqL K H p xs ∧ k = !xs.isEmpty) ∨ (∃ xs, SqT K H p xs ∧ k = !xs.isEmpty) ∨ ∃ kvs, H p = some (.dK kvs) ∧ k = !kvs.isEmpty
  | _ => False
theorem line63 : (sizeLine : Nat) < 2 ^ 63 := by rw [sizeLine_eq]; decide
noncomputable def PlainIxT (b : Expr) : Prop := ∀ o i, subscripted b false o i = operate [o, i] (getItem o i)
theorem vals1 {x : V} {us : List Value} (r : Vals [x] us) : ∃ u, us = [u] ∧ RelV x u := by
  cases r with
  | cons r1 r2 => cases r2; exact ⟨_, rfl, r1⟩
theorem vals2 {x y : V} {us : List Value} (r : Vals [x, y] us) : ∃ u w', us = [u, w'] ∧ RelV x u ∧ RelV y w' := by
  cases r with
  | cons r1 r2 =>
    cases r2 with
    | cons r3 r4 => cases r4; exact ⟨_, _, rfl, r1, r3⟩
theorem call_min2 (hc : X.calm = true) : CallR X (.builtin "min") (fun xs H Q => ∃ i j, xs = [.int i, .int j] ∧ Q (.int (if j < i then j else i)) H) := by
  intro pins s σ H xs us Q I r h
  obtain ⟨i, j, rfl, q⟩ := h
  obtain ⟨u, w', rfl, ⟨t, rfl⟩, ⟨t', rfl⟩⟩ := vals2 r
  refine min_two_ints (I.ok.hd hc) fun h' tk k => ⟨_, H, I.kept k, ?_, q⟩
  by_cases hj : j < i
  · rw [if_pos hj, if_pos hj]; exact ⟨_, rfl⟩
  · rw [if_neg hj, if_neg hj]; exact ⟨_, rfl⟩
noncomputable def LenV (K : PySem.W.Frag) (x : V) (H : Hp) (n : Nat) : Prop :=
  match x with
  | .str y => y.length ≤ sizeLine ∧ n = y.length
  | .byt y => y.size ≤ sizeLine ∧ n = y.size
  | .ref p => (∃ xs, SqL K H p xs ∧ n = xs.length) ∨ ∃ xs, SqT K H p xs ∧ n = xs.length
  | _ => False
end
end L2

namespace L2
open PySem PySem.Spec PyProof.Rows

structure ObjM (h : Heap) (x dx C : Addr) (mA : Str → Option Value) : Prop where
  obj : h.get? x = some (PySem.W.instObj C dx)
  ns : h.Ns1 dx mA
  ne : dx ≠ x

theorem lookIn_ns {h : Heap} {dx : Addr} {mA : Str → Option Value} (n : h.Ns1 dx mA) : ∃ od, h.get? dx = some od ∧ ∀ name, PySem.W.lookIn name od = some (mA name) := by
  obtain ⟨o, es, ep, ho, hd, hk, _, hm⟩ := n
  refine ⟨o, ho, fun name => ?_⟩
  have e := hm name
  unfold nsFind findBy at e
  rw [← Array.find?_toList] at e
  unfold PySem.W.lookIn
  rw [hd]
  dsimp only
  split
  · rename_i y q
    rw [q] at e
    exact congrArg some e
  · rename_i q
    rw [q] at e
    have a : es.toList.any (·.refKey) = false := by
      rw [List.any_eq_false]
      intro y hy
      obtain ⟨z, t, hkey⟩ := hk y (Array.mem_toList_iff.mp hy)
      simp [DictEntry.refKey, hkey]
    have a' : ¬ es.toList.any (·.refKey) = true := by rw [a]; exact Bool.false_ne_true
    rw [if_neg a']
    exact congrArg some e

theorem ObjM.look {h : Heap} {x dx C : Addr} {mA : Str → Option Value} (I : ObjM h x dx C mA) : ∃ od, PySem.W.InstAt h x (PySem.W.instObj C dx) C (some od) ∧ ∀ name, PySem.W.lookIn name od = some (mA name) :=
  let ⟨od, ho, hl⟩ := lookIn_ns I.ns
  ⟨od, ⟨I.obj, rfl, rfl, ho⟩, hl⟩

section
variable {prog : Program} {w : World} {A : Around} {E : Value → Shared → Prop} {s : Shared} {K : PySem.W.Frag} {x dx C f : Addr} {mA : Str → Option Value} {name : Str} {v : Value}

theorem get_map {expr : Bool} {Q : Value → Shared → Prop} (X : K.In s.heap) (I : ObjM s.heap x dx C mA) (hg : PySem.W.plainGet K C name = true) (hh : PySem.W.hasDictIn K C = true)
    (ha : PySem.W.findIn K (.ref C) name = some none) (hv : mA name = some v) (hv' : PySem.W.handedIn v = true) (h : Q v { s with toks := s.toks + 1 }) :
    wpAny (model prog w) A (getAttr (.ref x) name expr) Q E s := by
  obtain ⟨od, J, hl⟩ := I.look
  exact PySem.W.get_value X J (PySem.W.plainGet_of hg).1 (PySem.W.findObj_own hh ha rfl (by rw [hl, hv])) hv' h

theorem get_meth {pl : Sem Bool} {Q : Value × List Value → Shared → Prop} (X : K.In s.heap) (I : ObjM s.heap x dx C mA) (hg : PySem.W.plainGet K C name = true)
    (hf : PySem.W.findIn K (.ref C) name = some (some (.ref f))) (ht : PySem.W.isFn K (.ref f) = true) (hv : mA name = none) (h : Q (.ref f, [.ref x]) s) :
    wpAny (model prog w) A (getMethod (.ref x) name pl) Q E s := by
  obtain ⟨od, J, hl⟩ := I.look
  exact PySem.W.method_fn X J (PySem.W.plainGet_of hg).1 (PySem.W.plainGet_of hg).2 hf (beq_iff_eq.mp ht) (by show (PySem.W.lookIn name od).map (·.isSome) = some false; rw [hl, hv]; rfl) h

theorem set_map {ns : List Str} {Q : Unit → Shared → Prop} (X : K.In s.heap) (I : ObjM s.heap x dx C mA)
    (hs : PySem.W.findIn K (.ref C) "__setattr__" = some (some (.builtin "object.__setattr__"))) (hp : PySem.W.plainOver K C = true) (ht : PySem.W.takerIn K C name = some none) (hh : PySem.W.hasDictIn K C = true)
    (hw : PySem.Within mA ns) (hsz : ns.length ≤ sizeLine)
    (h : ∀ h', ObjM h' x dx C (fun y => if y = name then some v else mA y) → Heap.SameBut dx s.heap h' → Q () { s with heap := h', toks := s.toks + 2 }) :
    wpAny (model prog w) A (setAttr (.ref x) name v) Q E s := by
  obtain ⟨od, J, hl⟩ := I.look
  refine PySem.W.set_plain X J hs (PySem.W.osa_open (s := { s with toks := s.toks + 1 }) (r := none) X J hp ht fun b => ?_)
  obtain ⟨cd, hc, hd'⟩ := PySem.W.any_some hh
  have hx : s.heap.get? x = some ⟨.ref C, some dx, .plain, #[]⟩ := I.obj
  refine wpAny_bind (wpAny_pure (wpAny_bind (wpAny_bind (wpAny_loadPart hx (wpAny_bind (PySem.W.Looks.here (s := { s with toks := s.toks + 1 }) (PySem.W.looks_clsIn X hc) ?_))))))
  rw [hd']
  refine wpAny_pure (a := some dx) (wpAny_bind (wpAny_pure (wpAny_bind ?_)))
  refine wpAny_nsSet1 (s := { s with toks := s.toks + 1 }) I.ns fun h' hn2 hs2 => ?_
  obtain ⟨oD, esD, epD, hoD, hdD, hcD⟩ := hn2.count (PySem.Within.cons name v hw)
  refine wpAny_bind (wpAny_lookBehind hoD (by rw [hdD]; exact pastItsLine_dict (Nat.le_trans hcD (by rw [List.length_cons]; omega))) ?_)
  exact wpAny_pure (h _ ⟨(hs2.2 _ (Ne.symm I.ne)).trans I.obj, hn2, I.ne⟩ hs2)

theorem make_map {R : Result → Shared → Prop} {vs : List Value} {kw : List (Str × Value)} (X : K.In s.heap) (hm : PySem.W.makesIn K C = true)
    (hi : PySem.W.findIn K (.ref C) "__init__" = some (some (.ref f))) (hf : PySem.W.typeIn K (.ref f) = some (.type "function"))
    (h : codeAny (model prog w) (A.under (.builtin "type.__call__" ⟨.ref C :: vs, kw⟩)) (.call (.ref f) ⟨.ref (s.heap.objs.size + 1) :: vs, kw⟩) (PySem.W.InitBack (s.heap.objs.size + 1) R)
      { s with heap := (s.heap.push PySem.W.emptyDict).push (PySem.W.instObj C s.heap.objs.size) }) :
    codeAny (model prog w) A (.call (.ref C) ⟨vs, kw⟩) R s := by
  obtain ⟨hh, g, d, t, os⟩ := s
  exact PySem.W.make_core (PySem.W.makes_of X hm) (PySem.W.looks_findIn X hi) (fun self => PySem.W.bind_fn X self hf) (.inl rfl) h
end

noncomputable def putF (f : Str) (v : V) : List (Str × V) → List (Str × V)
  | [] => [(f, v)]
  | (g, x) :: r => if g = f then (g, v) :: r else (g, x) :: putF f v r
theorem lookup_putF (f g : Str) (v : V) : ∀ fs : List (Str × V), (putF f v fs).lookup g = if g = f then some v else fs.lookup g
  | [] => by
    show List.lookup g [(f, v)] = _
    by_cases h : g = f
    · have hb : (g == f) = true := beq_iff_eq.mpr h
      simp only [List.lookup, hb, if_pos h]
    · have hb : (g == f) = false := beq_eq_false_iff_ne.mpr h
      simp only [List.lookup, hb, if_neg h]
  | (k, x) :: r => by
    have ih := lookup_putF f g v r
    rw [show putF f v ((k, x) :: r) = (if k = f then (k, v) :: r else (k, x) :: putF f v r) from rfl]
    by_cases hk : k = f
    · rw [if_pos hk]
      by_cases h : g = k
      · have hb : (g == k) = true := beq_iff_eq.mpr h
        simp only [List.lookup, hb, if_pos (h.trans hk)]
      · have hb : (g == k) = false := beq_eq_false_iff_ne.mpr h
        simp only [List.lookup, hb, if_neg (fun e : g = f => h (e.trans hk.symm))]
    · rw [if_neg hk]
      by_cases h : g = k
      · have hb : (g == k) = true := beq_iff_eq.mpr h
        simp only [List.lookup, hb, if_neg (fun e : g = f => hk (h.symm.trans e))]
      · have hb : (g == k) = false := beq_eq_false_iff_ne.mpr h
        simp only [List.lookup, hb]
        exact ih
theorem keys_putF (f : Str) (v : V) : ∀ fs : List (Str × V), f ∈ (putF f v fs).map (·.1) ∧ ∀ g, g ∈ fs.map (·.1) → g ∈ (putF f v fs).map (·.1)
  | [] => ⟨by simp [putF], fun g h => by simp at h⟩
  | (k, x) :: r => by
    obtain ⟨i1, i2⟩ := keys_putF f v r
    rw [show putF f v ((k, x) :: r) = (if k = f then (k, v) :: r else (k, x) :: putF f v r) from rfl]
    by_cases hk : k = f
    · rw [if_pos hk]
      subst hk
      exact ⟨by simp, fun g h => by simpa using h⟩
    · rw [if_neg hk]
      refine ⟨?_, fun g h => ?_⟩
      · rw [List.map_cons]
        exact List.mem_cons_of_mem _ i1
      · rw [List.map_cons] at h ⊢
        rcases List.mem_cons.mp h with e | e
        · exact List.mem_cons.mpr (.inl e)
        · exact List.mem_cons_of_mem _ (i2 g e)
theorem length_putF (f : Str) (v : V) : ∀ fs : List (Str × V), (putF f v fs).length ≤ fs.length + 1
  | [] => by simp [putF]
  | (k, x) :: r => by
    have ih := length_putF f v r
    rw [show putF f v ((k, x) :: r) = (if k = f then (k, v) :: r else (k, x) :: putF f v r) from rfl]
    by_cases hk : k = f
    · rw [if_pos hk, List.length_cons, List.length_cons]; omega
    · rw [if_neg hk, List.length_cons, List.length_cons]; omega

theorem RelO.some_of {v : V} {o : Option Value} (r : RelO (some v) o) : ∃ u, o = some u ∧ RelV v u := by
  cases o with
  | none => exact (show False from r).elim
  | some u => exact ⟨u, rfl, r⟩
theorem RelO.none_of {o : Option Value} (r : RelO none o) : o = none := by
  cases o with
  | none => rfl
  | some u => exact (show False from r).elim
theorem handed_of {v : V} {u : Value} (r : RelV v u) : PySem.W.handedIn u = true := by
  cases v with
  | non => cases (show u = Value.none from r); rfl
  | bl b => cases (show u = Value.bool b from r); rfl
  | int i => obtain ⟨t, e⟩ := (show ∃ t, u = Value.int i t from r); cases e; rfl
  | str x => obtain ⟨t, e⟩ := (show ∃ t, u = Value.str x t from r); cases e; rfl
  | byt b => obtain ⟨t, e⟩ := (show ∃ t, u = Value.bytes b t from r); cases e; rfl
  | flt b => obtain ⟨t, e⟩ := (show ∃ t, u = Value.float b t from r); cases e; rfl
  | ref a => cases (show u = Value.ref a from r); rfl
  | ty n => cases (show u = Value.type n from r); rfl

section
variable {P : Program} {w : World} {H H' : Hp} {h h' : Heap} {a C dx : Addr} {fs fs' : List (Str × V)}
theorem ins_get (hok : HOk P w H h) (e : H a = some (.ins C dx fs)) : ∃ mA, ObjM h a dx C mA ∧ (∀ f, RelO (fs.lookup f) (mA f)) ∧ PySem.Within mA (fs.map (·.1)) ∧ fs.length ≤ 1000 ∧ H dx = some (.own a) := by
  obtain ⟨d, z, ne, ob, mA, n, r, q⟩ := (show ObjOk P w H h a (.ins C dx fs) from hok a _ e)
  exact ⟨mA, ⟨ob, n, ne⟩, r, q, z, d⟩
end

structure Cls (K : PySem.W.Frag) (C : Addr) : Prop where
  pg : PySem.W.plainGet K C Str.empty = true
  hd : PySem.W.hasDictIn K C = true
  po : PySem.W.plainOver K C = true
  sa : PySem.W.findIn K (.ref C) "__setattr__" = some (some (.builtin "object.__setattr__"))
theorem Cls.get {K : PySem.W.Frag} {C : Addr} (c : Cls K C) (f : Str) : PySem.W.plainGet K C f = true := c.pg
noncomputable def NoAttr (K : PySem.W.Frag) (C : Addr) (f : Str) : Prop := PySem.W.findIn K (.ref C) f = some none
theorem NoAttr.taker {K : PySem.W.Frag} {C : Addr} {f : Str} (n : NoAttr K C f) : PySem.W.takerIn K C f = some none := by
  unfold PySem.W.takerIn
  rw [show PySem.W.findIn K (.ref C) f = some none from n]
  rfl
structure Con (K : PySem.W.Frag) (C : Addr) (f : Str) (v : V) (u : Value) : Prop where
  at_ : PySem.W.findIn K (.ref C) f = some (some u)
  rel : RelV v u
  get : PySem.W.specialIn K u "__get__" = some none
  cp : PySem.W.copiedNames.contains f = false
structure Meth (K : PySem.W.Frag) (C : Addr) (m : Str) (f : Addr) : Prop where
  at_ : PySem.W.findIn K (.ref C) m = some (some (.ref f))
  fn : PySem.W.isFn K (.ref f) = true
  kp : PySem.W.keepIn K (.ref f) = true

section
variable {X : Cx} {pins : List (Addr × Obj)} {σ : St} {H : Hp} {s : Shared} {a C dx : Addr} {fs : List (Str × V)} {f : Str} {v : V} {A : Around} {E : Value → Shared → Prop}

theorem getattr_ok {b : Bool} {Q : Value → Shared → Prop} (I : Inv X pins σ H s) (e : H a = some (.ins C dx fs)) (c : Cls X.K C) (n : NoAttr X.K C f) (l : fs.lookup f = some v)
    (h : ∀ u s', Inv X pins σ H s' → RelV v u → Q u s') : wpAny (model X.prog X.w) A (getAttr (.ref a) f b) Q E s := by
  obtain ⟨mA, O, r, _, _, _⟩ := ins_get I.hok e
  obtain ⟨u, hu, ru⟩ := RelO.some_of (v := v) (o := mA f) (by rw [← l]; exact r f)
  exact get_map I.kIn O (c.get f) c.hd n hu (handed_of ru) (h u _ (I.tok _) ru)

theorem getmeth_ok {m : Str} {g : Addr} {pl : Sem Bool} {Q : Value × List Value → Shared → Prop} (I : Inv X pins σ H s) (e : H a = some (.ins C dx fs)) (c : Cls X.K C) (k : Meth X.K C m g) (l : fs.lookup m = none)
    (h : Q (.ref g, [.ref a]) s) : wpAny (model X.prog X.w) A (getMethod (.ref a) m pl) Q E s := by
  obtain ⟨mA, O, r, _, _, _⟩ := ins_get I.hok e
  have hn : mA m = none := RelO.none_of (by rw [← l]; exact r m)
  exact get_meth I.kIn O (c.get m) k.at_ k.fn hn h

theorem setattr_ok {y : V} {u : Value} {Q : Unit → Shared → Prop} (I : Inv X pins σ H s) (e : H a = some (.ins C dx fs)) (c : Cls X.K C) (n : NoAttr X.K C f) (hl : fs.length < 1000) (ry : RelV y u)
    (h : ∀ s', Inv X pins σ (upd H a (.ins C dx (putF f y fs))) s' → Q () s') : wpAny (model X.prog X.w) A (setAttr (.ref a) f u) Q E s := by
  obtain ⟨mA, O, r, wi, _, ho⟩ := ins_get I.hok e
  have hz : (fs.map (·.1)).length ≤ sizeLine := by rw [List.length_map, sizeLine_eq]; omega
  refine set_map I.kIn O c.sa c.po n.taker c.hd wi hz fun h' O' sb => h _ ?_
  have hd : ∃ o, h'.get? dx = some o := let ⟨o, _, _, e', _⟩ := O'.ns; ⟨o, e'⟩
  refine I.write (x := a) (e := dx) (by rw [e]; exact True.intro) (.inr ho) (fun b q hb z => (sb.2 b hb).trans z) hd ?_
  refine ⟨by rw [upd_ne O.ne]; exact ho, ?_, O.ne, O'.obj, _, O'.ns, fun g => ?_, fun g hg => ?_⟩
  · have := length_putF f y fs; omega
  · show RelO ((putF f y fs).lookup g) (if g = f then some u else mA g)
    rw [lookup_putF]
    by_cases q : g = f
    · rw [if_pos q, if_pos q]; exact ry
    · rw [if_neg q, if_neg q]; exact r g
  · by_cases q : g = f
    · rw [q]; exact (keys_putF f y fs).1
    · refine (keys_putF f y fs).2 g (wi g fun z => hg ?_)
      show (if g = f then some u else mA g) = none
      rw [if_neg q]; exact z

theorem Inv.made (I : Inv X pins σ H s) : Inv X pins σ (upd (upd H s.heap.objs.size (.own (s.heap.objs.size + 1))) (s.heap.objs.size + 1) (.ins C s.heap.objs.size []))
    { s with heap := (s.heap.push PySem.W.emptyDict).push (PySem.W.instObj C s.heap.objs.size) } := by
  have e1 : (s.heap.push PySem.W.emptyDict).get? s.heap.objs.size = some PySem.W.emptyDict := Heap.get?_push_size s.heap rfl
  have e2 : ((s.heap.push PySem.W.emptyDict).push (PySem.W.instObj C s.heap.objs.size)).get? (s.heap.objs.size + 1) = some (PySem.W.instObj C s.heap.objs.size) := by
    have := Heap.get?_push_size (s.heap.push PySem.W.emptyDict) (o := PySem.W.instObj C s.heap.objs.size) rfl
    rwa [Heap.size_push] at this
  have e3 : (s.heap.push PySem.W.emptyDict).Ns s.heap.objs.size (fun _ => none) := ⟨PySem.W.emptyDict, #[], _, e1, rfl, (fun e he => absurd he (by simp)), fun _ => rfl⟩
  have I1 := I.laid (a := s.heap.objs.size) (o := .own (s.heap.objs.size + 1)) (h' := s.heap.push PySem.W.emptyDict) (t' := s.toks) (fun b u q => Heap.get?_push_of_some _ q) (Nat.le_refl _) ⟨_, e1⟩
  refine I1.laid (a := s.heap.objs.size + 1) (o := .ins C s.heap.objs.size []) (t' := s.toks) (fun b u q => Heap.get?_push_of_some _ q) (Nat.le_of_eq (Heap.size_push _ _)) ?_
  have ne : s.heap.objs.size ≠ s.heap.objs.size + 1 := Nat.ne_of_lt (Nat.lt_succ_self _)
  refine ⟨by rw [upd_ne ne, upd_same], Nat.zero_le _, ne, e2, fun _ => none, (Heap.Ns1.of_empty e3).at fun o q => Heap.get?_push_of_some _ q, fun _ => True.intro, fun y hy => absurd rfl hy⟩

theorem attr_of {prog : Program} {w : World} {env : Env} {e : Expr} {f : Str} {pos : Pos} {s : Shared} {Q : Value → Shared → Prop} (hb : attributeBase e f env (eval e env) = eval e env)
    (h : wpAny (model prog w) A (eval e env) (fun o s₁ => wpAny (model prog w) A (getAttr o f true) Q E s₁) E s) : wpAny (model prog w) A (eval (.Attribute e f pos) env) Q E s :=
  Attribute_any_ h (by rw [arm_eval_Attribute, hb])
end

noncomputable def tFld (K : PySem.W.Frag) (ta : TE) (f : Str) : TE := fun σ H Q => ta σ H fun x H1 => ∃ a C dx fs v, x = .ref a ∧ H1 a = some (.ins C dx fs) ∧ Cls K C ∧ NoAttr K C f ∧ fs.lookup f = some v ∧ Q v H1
noncomputable def tCon (K : PySem.W.Frag) (ta : TE) (f : Str) : TE := fun σ H Q => ta σ H fun x H1 => ∃ a C dx fs v u, x = .ref a ∧ H1 a = some (.ins C dx fs) ∧ Cls K C ∧ Con K C f v u ∧ fs.lookup f = none ∧ Q v H1
noncomputable def sFld (K : PySem.W.Frag) (ta tv : TE) (f : Str) : TS := fun D σ H => tv σ H fun y H1 => ta σ H1 fun x H2 => ∃ a C dx fs, x = .ref a ∧ H2 a = some (.ins C dx fs) ∧ Cls K C ∧ NoAttr K C f ∧ fs.length < 1000 ∧
  D.nx σ (upd H2 a (.ins C dx (putF f y fs)))
noncomputable def InOp (X : Cx) (op : Operator) (rd : V → V → Hp → VK → Prop) : Prop :=
  ∀ (pins : List (Addr × Obj)) (s : Shared) (σ : St) (H : Hp) (x y : V) (u v : Value) (Q : VK), Inv X pins σ H s → RelV x u → RelV y v → rd x y H Q → wpAny (model X.prog X.w) X.A (inplaceOp op u v) (EP X pins σ Q) X.xe s
noncomputable def sFldAug (K : PySem.W.Frag) (ta tv : TE) (rd : V → V → Hp → VK → Prop) (f : Str) : TS := fun D σ H => ta σ H fun x H1 => ∃ a C dx fs v, x = .ref a ∧ H1 a = some (.ins C dx fs) ∧ Cls K C ∧ NoAttr K C f ∧ fs.lookup f = some v ∧
  tv σ H1 fun y H2 => rd v y H2 fun z H3 => ∃ dx' fs', H3 a = some (.ins C dx' fs') ∧ fs'.length < 1000 ∧ D.nx σ (upd H3 a (.ins C dx' (putF f z fs')))

section
variable {X : Cx} {o e value : Expr} {f : Str} {pos pos' tpos : Pos} {ta tv : TE}
theorem pe_fld (he : PE X e ta) (hb : attributeBase e f X.env (eval e X.env) = eval e X.env) : PE X (.Attribute e f pos) (tFld X.K ta f) := by
  intro pins s σ H Q I h
  refine attr_of hb (thn (he pins s σ H _ I h) fun u s1 ⟨x, H1, I1, rx, a, C, dx, fs, v, ex, ea, c, n, l, q⟩ => ?_)
  subst ex
  obtain rfl : u = Value.ref a := rx
  exact getattr_ok I1 ea c n l fun u' s2 I2 ru => ⟨v, H1, I2, ru, q⟩
theorem ps_fld (ha : PE X o ta) (hv : PE X value tv) (hs : swapsWith value (some (.Attribute o f pos')) pos.line X.env = pure false) : PS X (.Assign [.Attribute o f pos'] value pos) (sFld X.K ta tv f) := by
  intro pins s σ H D I h
  refine plainObj_wpAny_Assign_Attribute (thn (hv pins s σ H _ I h) fun u s1 ⟨y, H1, I1, ry, q⟩ => thn (ha pins s1 σ H1 _ I1 q) fun ov s2 ⟨x, H2, I2, rx, a, C, dx, fs, ex, ea, c, n, l, q2⟩ => ?_) hs
  subst ex
  obtain rfl : ov = Value.ref a := rx
  exact setattr_ok I2 ea c n l ry fun s3 I3 => ⟨σ, _, I3, q2⟩
theorem ps_fldaug {op : Operator} {rd : V → V → Hp → VK → Prop} (ha : PE X o ta) (hv : PE X value tv) (hop : InOp X op rd) : PS X (.AugAssign (.Attribute o f tpos) op value pos) (sFldAug X.K ta tv rd f) := by
  intro pins s σ H D I h
  refine wpAny_AugAssign_AttributeAny (thn (ha pins s σ H _ I h) fun ov s1 ⟨x, H1, I1, rx, a, C, dx, fs, v, ex, ea, c, n, l, q⟩ => ?_)
  subst ex
  obtain rfl : ov = Value.ref a := rx
  refine getattr_ok I1 ea c n l fun u s2 I2 ru => thn (hv pins s2 σ H1 _ I2 q) fun w3 s3 ⟨y, H2, I3, ry, q3⟩ => thn (hop pins s3 σ H2 v y u w3 _ I3 ru ry q3) fun w4 s4 ⟨z, H3, I4, rz, dx', fs', ea', l', q4⟩ => ?_
  exact setattr_ok I4 ea' c n l' rz fun s5 I5 => ⟨σ, _, I5, q4⟩
noncomputable def rAdd : V → V → Hp → VK → Prop := fun x y H Q => ∃ i j, x = .int i ∧ y = .int j ∧ Q (.int (i + j)) H
noncomputable def rSub : V → V → Hp → VK → Prop := fun x y H Q => ∃ i j, x = .int i ∧ y = .int j ∧ Q (.int (i - j)) H
theorem in_add : InOp X .Add rAdd := by
  rintro pins s σ H x y u v Q I rx ry ⟨i, j, rfl, rfl, q⟩
  obtain ⟨t, rfl⟩ := (show ∃ t, u = Value.int i t from rx)
  obtain ⟨t', rfl⟩ := (show ∃ t', v = Value.int j t' from ry)
  exact PyProof.Rows.iadd_int ⟨.int (i + j), H, I.tok _, ⟨_, rfl⟩, q⟩
theorem methcall_of {pl : Sem Bool} {m : Str} {apos : Pos} {args : List Expr} {pins : List (Addr × Obj)} {s : Shared} {σ : St} {H : Hp} {Q : Value → Shared → Prop} {te : TE} (he : PE X e te) (I : Inv X pins σ H s)
    (h : te σ H fun x H1 => ∃ a C dx fs g, x = .ref a ∧ H1 a = some (.ins C dx fs) ∧ Cls X.K C ∧ Meth X.K C m g ∧ fs.lookup m = none ∧
      ∀ s1, Inv X pins σ H1 s1 → wpAny (model X.prog X.w) X.A (callWith pos (.ref g) [.ref a] (backTo pos (starEach args X.env)) (backToKw pos (keywordEach [] X.env))) Q X.xe s1)
    (ht : eval (.Call (.Attribute e m apos) args [] pos) X.env = (do
      let ov ← eval e X.env
      standAt apos.atName
      let (f, first) ← holding [ov] (getMethod ov m pl)
      callWith pos f first (backTo pos (starEach args X.env)) (backToKw pos (keywordEach [] X.env)))) :
    wpAny (model X.prog X.w) X.A (eval (.Call (.Attribute e m apos) args [] pos) X.env) Q X.xe s := by
  refine PySem.W.methodCall_KW (pl := pl) (thn (he pins s σ H _ I h) fun u s1 ⟨x, H1, I1, rx, a, C, dx, fs, g, ex, ea, c, k, l, q⟩ => ?_) ht
  subst ex
  obtain rfl : u = Value.ref a := rx
  exact getmeth_ok I1 ea c k l (q s1 I1)
end

section
variable {X : Cx} {pins : List (Addr × Obj)} {σ : St} {H : Hp} {s : Shared} {A : Around} {E : Value → Shared → Prop} {Q : Value → Shared → Prop} {c : Value} {b : Bool}
inductive TyOf (K : PySem.W.Frag) (H : Hp) : V → Value → Prop where
  | non : TyOf K H .non (.type "NoneType")
  | bl (x : Bool) : TyOf K H (.bl x) (.type "bool")
  | int (i : Int) : TyOf K H (.int i) (.type "int")
  | str (x : Str) : TyOf K H (.str x) (.type "str")
  | flt (x : UInt64) : TyOf K H (.flt x) (.type "float")
  | lst {a : Addr} {xs : List V} (e : H a = some (.lst xs)) : TyOf K H (.ref a) (.type "list")
  | frz {a : Addr} {o : Obj} {xs : List V} (e : H a = some (.frz o (.lst xs))) : TyOf K H (.ref a) (.type "list")
  | tup {a : Addr} {xs : List V} (e : H a = some (.tup xs)) : TyOf K H (.ref a) (.type "tuple")
  | dK {a : Addr} {kvs : List (Key × V)} (e : H a = some (.dK kvs)) : TyOf K H (.ref a) (.type "dict")
  | dT {a : Addr} {kvs : List (List Key × V)} (e : H a = some (.dT kvs)) : TyOf K H (.ref a) (.type "dict")
  | ins {a C dx : Addr} {fs : List (Str × V)} (e : H a = some (.ins C dx fs)) (cl : Cls K C) (ha : PySem.W.findIn K (.ref C) "__class__" = some (some (.builtin "object.__class__")))
      (hn : PySem.W.specialIn K (.builtin "object.__class__") "__get__" = some (some (.builtin "getset_descriptor.__get__"))) (htk : PySem.W.takesIn K (.builtin "object.__class__") = some true)
      (hm : PySem.W.mroIn K C (.type "object") = some true) : TyOf K H (.ref a) (.ref C)
end
end L2

namespace L2
open PySem PySem.Spec PyProof.Rows

structure Room (k : Nat) (A : Around) : Prop where
  hd : A.handled = none
  dp : A.depth + 3 * k + 5 < recursionLimit
  un : A.units + 16 * k + 200 < cLine
theorem Room.mono {j k : Nat} {A : Around} (r : Room k A) (h : j ≤ k) : Room j A := ⟨r.hd, by have := r.dp; omega, by have := r.un; omega⟩
theorem Room.deeper {k : Nat} {A : Around} (r : Room (k + 1) A) (env : Env) : Room k (A.deeper env) :=
  ⟨r.hd, by have := r.dp; show A.depth + 1 + 3 * k + 5 < _; omega, by have := r.un; show A.units + 3 + 16 * k + 200 < _; omega⟩
theorem make_depth {A : Around} {C : Addr} {us : List Value} {kw : List (Str × Value)} : (A.under (.builtin "type.__call__" ⟨.ref C :: us, kw⟩)).depth = A.depth + 1 := by
  first | rfl | simp [Around.under, Code.weight, Code.isCreation, Code.isGuard, Code.isCaller, Code.frames, Code.isFrame, guardIds]
theorem make_units {A : Around} {C : Addr} {us : List Value} {kw : List (Str × Value)} : (A.under (.builtin "type.__call__" ⟨.ref C :: us, kw⟩)).units = A.units + 1 := by
  first | rfl | simp [Around.under, Code.cUnits, Code.frames, Code.isFrame]
theorem Room.make {k : Nat} {A : Around} (r : Room (k + 1) A) (C : Addr) (us : List Value) (kw : List (Str × Value)) : Room k (A.under (.builtin "type.__call__" ⟨.ref C :: us, kw⟩)) :=
  ⟨r.hd, by have := r.dp; rw [make_depth]; omega, by have := r.un; rw [make_units]; omega⟩
theorem Room.depth {k : Nat} {A : Around} (r : Room k A) : A.depth < recursionLimit := by have := r.dp; omega
theorem Room.units {k : Nat} {A : Around} (r : Room k A) : A.units + 64 < cLine := by have := r.un; omega
noncomputable def tNil : TA := fun _ H Q => Q [] H
noncomputable def tCons (ta : TE) (tr : TA) : TA := fun σ H Q => ta σ H fun x H1 => tr σ H1 fun xs H2 => Q (x :: xs) H2
section
variable {X : Cx} {e : Expr} {es : List Expr} {te : TE} {t : TA} {pos : Pos}
theorem pa_nil : PA X [] tNil := fun _ _ _ _ H Q I h => Calls.spliced_nil ⟨[], H, I, .nil, h⟩
theorem pa_cons (ha : PE X e te) (hr : PA X es t) (hs : starEach (e :: es) X.env = (false, eval e X.env) :: starEach es X.env := by rfl) : PA X (e :: es) (tCons te t) := by
  intro pos pins s σ H Q I h
  rw [hs]
  show wpAny _ _ (spliced ((false, eval e X.env) :: backTo pos (starEach es X.env))) _ _ s
  refine Calls.spliced_cons (thn (ha pins s σ H _ I h) fun u s1 ⟨x, H1, I1, r1, q1⟩ => ?_)
  exact thn (hr pos pins s1 σ H1 _ I1 q1) fun us s2 ⟨xs, H2, I2, r2, q2⟩ => ⟨x :: xs, H2, I2, .cons r1 r2, q2⟩

noncomputable def tTup (t : TA) : TE := fun σ H Q => t σ H fun xs H1 => xs.length ≤ sizeLine ∧ ∀ p, H1 p = none → Q (.ref p) (upd H1 p (.tup xs))
noncomputable def tLst (t : TA) : TE := fun σ H Q => t σ H fun xs H1 => xs.length ≤ sizeLine ∧ ∀ p, H1 p = none → Q (.ref p) (upd H1 p (.lst xs))
theorem pe_tup {x1} (h : PA X es t) : PE X (.Tuple es x1 pos) (tTup t) := by
  intro pins s σ H Q I hq
  refine wpAny_Tuple_spliced (thn (h pos pins s σ H _ I hq) fun us s1 ⟨xs, H1, I1, r, z, q⟩ => ⟨by rw [← r.length]; exact z, ?_⟩)
  have hf : H1 s1.heap.objs.size = none := I1.hok.fresh (Nat.le_refl _)
  refine ⟨.ref s1.heap.objs.size, upd H1 s1.heap.objs.size (.tup xs), I1.laid (t' := s1.toks) (fun b u e => Heap.get?_push_of_some _ e) (Nat.le_refl _) ?_, rfl, q _ hf⟩
  exact ⟨z, us, r, ⟨_, Heap.get?_push_size _ rfl, rfl, _, rfl⟩⟩
theorem pe_lst (h : PA X es t) : PE X (.List es pos) (tLst t) := by
  intro pins s σ H Q I hq
  refine wpAny_List_spliced (thn (h pos pins s σ H _ I hq) fun us s1 ⟨xs, H1, I1, r, z, q⟩ => ⟨by rw [← r.length]; exact z, ?_⟩)
  have hf : H1 s1.heap.objs.size = none := I1.hok.fresh (Nat.le_refl _)
  refine ⟨.ref s1.heap.objs.size, upd H1 s1.heap.objs.size (.lst xs), I1.laid (t' := s1.toks) (fun b u e => Heap.get?_push_of_some _ e) (Nat.le_refl _) ?_, rfl, q _ hf⟩
  exact ⟨z, us, 0, r, Heap.get?_push_size _ rfl⟩
end

noncomputable abbrev Sp := List V → Hp → VK → XK → Prop
noncomputable abbrev CXT := List Env → Hp → Shared → XK → Value → Shared → Prop

structure Env0 (P : Program) (w : World) (K : PySem.W.Frag) (mg : Str → Option Value) (base : Heap) (A : Around) (outer : List Env) (s : Shared) (H : Hp) : Prop where
  frames : A.frames = some outer
  mod : Mod K mg base
  bs : ∀ b o, base.get? b = some o → s.heap.get? b = some o ∧ H b = none
  bsz : base.objs.size ≤ s.heap.objs.size
  funs : s.heap.FunFrames base outer
  frf : ∀ b ∈ frs outer, H b = none
  hok : HOk P w H s.heap
  bare : AllBare s.gens
noncomputable def CE (outer : List Env) (P : Program) (w : World) (H : Hp) (s : Shared) (Q : VK) (u : Value) (s' : Shared) : Prop :=
  ∃ v H', s'.os = s.os ∧ AllBare s'.gens ∧ Un (frs outer) [] H H' s.heap s'.heap ∧ HOk P w H' s'.heap ∧ RelV v u ∧ Q v H'
noncomputable def CR (CX : CXT) (outer : List Env) (P : Program) (w : World) (H : Hp) (s : Shared) (Q : VK) (E : XK) (r : Result) (s' : Shared) : Prop :=
  match r with
  | .ok (.ret u) => CE outer P w H s Q u s'
  | .ok _ => False
  | .error e => CX outer H s E e s'
structure FnOk (P : Program) (w : World) (K : PySem.W.Frag) (mg : Str → Option Value) (base : Heap) (CX : CXT) (k : Nat) (f : Addr) (fd : FuncData) (ps : List Str) (sp : Sp) : Prop where
  len : ∀ vs H Q E, sp vs H Q E → vs.length = ps.length
  run : ∀ (A : Around) (outer : List Env) (s : Shared) (H : Hp) (args : Args) (us : List Value) (vs : List V) (Q : VK) (E : XK), Room k A → Env0 P w K mg base A outer s H → BindsTo s fd args (ps.zip us) → Vals vs us → sp vs H Q E →
    codeAny (model P w) A (.call (.ref f) args) (CR CX outer P w H s Q E) s
theorem FnOk.imp {P : Program} {w : World} {K : PySem.W.Frag} {mg : Str → Option Value} {base : Heap} {CX : CXT} {k : Nat} {f : Addr} {fd : FuncData} {ps : List Str} {sp sp' : Sp} (F : FnOk P w K mg base CX k f fd ps sp)
    (h : ∀ vs H Q E, sp' vs H Q E → sp vs H Q E) : FnOk P w K mg base CX k f fd ps sp' :=
  ⟨fun vs H Q E q => F.len vs H Q E (h _ _ _ _ q), fun A outer s H args us vs Q E hr he hb hv hs => F.run A outer s H args us vs Q E hr he hb hv (h _ _ _ _ hs)⟩

theorem Env0.make {P : Program} {w : World} {K : PySem.W.Frag} {mg : Str → Option Value} {base : Heap} {A : Around} {outer : List Env} {s : Shared} {H : Hp} (e : Env0 P w K mg base A outer s H) (C : Addr) (us : List Value) (kw : List (Str × Value)) :
    Env0 P w K mg base (A.under (.builtin "type.__call__" ⟨.ref C :: us, kw⟩)) outer s H := ⟨by first | exact e.frames | (simpa [Around.under, Code.envs, Code.isFrame, pushEnvs] using e.frames), e.mod, e.bs, e.bsz, e.funs, e.frf, e.hok, e.bare⟩
section
variable {X : Cx} {pins : List (Addr × Obj)} {σ : St} {H : Hp} {s s' : Shared}
theorem Inv.env0 (I : Inv X pins σ H s) : Env0 X.prog X.w X.K X.mg X.base X.A X.stack s H :=
  ⟨I.ok.frames, I.ok.mod, I.bs, Nat.le_trans I.ok.bsz I.sz, I.stack, I.stkFree, I.hok, I.bare⟩
theorem Inv.after {Q : VK} {u : Value} (I : Inv X pins σ H s) (h : CE X.stack X.prog X.w H s Q u s') : EP X pins σ Q u s' := by
  obtain ⟨v, H', os, bare, un, hok, r, q⟩ := h
  obtain ⟨hh, g, d, t, os'⟩ := s'
  obtain rfl : os' = s.os := os
  exact ⟨v, H', I.call (h' := hh) (g' := g) (d' := d) (t' := t) (ch := []) un hok bare (fun b z => absurd z (by simp)), r, q⟩
end

noncomputable def tCall (sp : Sp) (dvs : List V) (E : XK) (t : TA) : TE := fun σ H Q => t σ H fun vs H1 => sp (vs ++ dvs) H1 Q E
noncomputable def tMeth (C : Addr) (m : Str) (sp : Sp) (dvs : List V) (E : XK) (ta : TE) (t : TA) : TE := fun σ H Q => ta σ H fun x H1 => ∃ a dx fs, x = .ref a ∧ H1 a = some (.ins C dx fs) ∧ fs.lookup m = none ∧
  t σ H1 fun vs H2 => sp (x :: (vs ++ dvs)) H2 Q E
noncomputable def tMake (C : Addr) (sp : Sp) (dvs : List V) (E : XK) (t : TA) : TE := fun σ H Q => t σ H fun vs H1 => ∀ x dx, H1 x = none → H1 dx = none → dx ≠ x →
  sp (.ref x :: (vs ++ dvs)) (upd (upd H1 dx (.own x)) x (.ins C dx [])) (fun v H2 => v = .non ∧ Q (.ref x) H2) E

noncomputable def Binds (K : PySem.W.Frag) (fd : FuncData) (ps : List Str) (ds : List Value) : Prop :=
  ∀ (s : Shared) (us : List Value), K.In s.heap → (us ++ ds).length = ps.length → BindsTo s fd ⟨us, []⟩ (ps.zip (us ++ ds))
theorem Binds.all {K : PySem.W.Frag} {fd : FuncData} {ps : List Str} (h : ∀ us : List Value, us.length = ps.length → bindArgs fd ⟨us, []⟩ = pure (ps.zip us)) : Binds K fd ps [] := fun s us _ hl => by
  rw [List.append_nil] at hl ⊢
  exact .of_eq (h us hl)

noncomputable def Passes (CX : CXT) (X : Cx) (E : XK) : Prop := ∀ (pins : List (Addr × Obj)) (σ : St) (H : Hp) (s : Shared) (e : Value) (s' : Shared), Inv X pins σ H s → CX X.stack H s E e s' → X.xe e s'

section
variable {X : Cx} {CX : CXT} {k : Nat} {f C : Addr} {fd : FuncData} {ps : List Str} {sp : Sp} {dvs : List V} {ds : List Value} {E : XK} {x m : Str} {p pos apos : Pos} {e o : Expr} {es : List Expr} {ta : TE} {t : TA}

theorem run_fn {pins : List (Addr × Obj)} {σ : St} {H : Hp} {s : Shared} {Q : VK} {us : List Value} {vs : List V} (F : FnOk X.prog X.w X.K X.mg X.base CX k f fd ps sp) (hr : Room k X.A) (hb : Binds X.K fd ps ds) (hd : Vals dvs ds) (hx : Passes CX X E)
    (I : Inv X pins σ H s) (r : Vals vs us) (h : sp (vs ++ dvs) H Q E) : wpAny (model X.prog X.w) X.A (call (.ref f) us) (EP X pins σ Q) X.xe s := by
  have r2 : Vals (vs ++ dvs) (us ++ ds) := r.append hd
  have hl : (us ++ ds).length = ps.length := by rw [← r2.length]; exact F.len _ _ _ _ h
  refine wpAny_call (codeAny_mono (F.run X.A X.stack s H ⟨us, []⟩ (us ++ ds) (vs ++ dvs) Q E hr I.env0 (hb s us I.kIn hl) r2 h) fun r s' hq => ?_)
  cases r with
  | error e => exact hx pins σ H s e s' I hq
  | ok fl =>
    cases fl with
    | ret u => exact I.after hq
    | next => exact False.elim hq
    | brk => exact False.elim hq
    | cont => exact False.elim hq

theorem pe_call (F : FnOk X.prog X.w X.K X.mg X.base CX k f fd ps sp) (hr : Room k X.A) (hg : Gl X x) (hm : X.mg x = some (.ref f)) (hk : PySem.W.keepIn X.K (.ref f) = true) (hb : Binds X.K fd ps ds) (hd : Vals dvs ds) (hx : Passes CX X E)
    (ha : PA X (e :: es) t) (hdb : (x == ("__debug__" : Str)) = false := by decide) (he : starEach (e :: es) X.env = (false, eval e X.env) :: starEach es X.env := by rfl) (hpl : (backTo pos (starEach es X.env)).any (·.1) = false := by rfl) :
    PE X (.Call (.Name x p) (e :: es) [] pos) (tCall sp dvs E t) := by
  intro pins s σ H Q I h
  refine wpAny_Call_Name_kw (ld_glob I hg hm ?_ hdb)
  refine PySem.W.callWith_K (h₀ := X.base) I.ok.mod.kin hk (thn (ha pos pins s σ H _ I h) fun us s1 ⟨vs, H1, I1, r, q⟩ => ⟨I1.kIn, ?_⟩) he hpl
  exact run_fn F hr hb hd hx I1 r q
theorem pe_meth {pl : Sem Bool} (he : PE X o ta) (c : Cls X.K C) (hm : Meth X.K C m f) (F : FnOk X.prog X.w X.K X.mg X.base CX k f fd ps sp) (hr : Room k X.A) (hb : Binds X.K fd ps ds) (hd : Vals dvs ds) (hx : Passes CX X E) (ha : PA X (e :: es) t)
    (hst : starEach (e :: es) X.env = (false, eval e X.env) :: starEach es X.env := by rfl) (hpl : (backTo pos (starEach es X.env)).any (·.1) = false := by rfl)
    (ht : eval (.Call (.Attribute o m apos) (e :: es) [] pos) X.env = (do
      let ov ← eval o X.env
      standAt apos.atName
      let (f, first) ← holding [ov] (getMethod ov m pl)
      callWith pos f first (backTo pos (starEach (e :: es) X.env)) (backToKw pos (keywordEach [] X.env))) := by rfl) :
    PE X (.Call (.Attribute o m apos) (e :: es) [] pos) (tMeth C m sp dvs E ta t) := by
  intro pins s σ H Q I h
  refine PySem.W.methodCall_KW (pl := pl) (thn (he pins s σ H _ I h) fun u s1 ⟨x, H1, I1, rx, a, dx, fs, ex, ea, l, q⟩ => ?_) ht
  subst ex
  obtain rfl : u = Value.ref a := rx
  refine getmeth_ok I1 ea c hm l ?_
  refine PySem.W.callWith_K (first := [.ref a]) (h₀ := X.base) I.ok.mod.kin hm.kp (thn (ha pos pins s1 σ H1 _ I1 q) fun us s2 ⟨vs, H2, I2, r, q2⟩ => ⟨I2.kIn, ?_⟩) hst hpl
  exact run_fn (us := .ref a :: us) (vs := .ref a :: vs) F hr hb hd hx I2 (.cons rfl r) q2
theorem pe_meth0 {pl : Sem Bool} (he : PE X o ta) (c : Cls X.K C) (hm : Meth X.K C m f) (F : FnOk X.prog X.w X.K X.mg X.base CX k f fd ps sp) (hr : Room k X.A) (hb : Binds X.K fd ps ds) (hd : Vals dvs ds) (hx : Passes CX X E)
    (ht : eval (.Call (.Attribute o m apos) [] [] pos) X.env = (do
      let ov ← eval o X.env
      standAt apos.atName
      let (f, first) ← holding [ov] (getMethod ov m pl)
      callWith pos f first (backTo pos (starEach [] X.env)) (backToKw pos (keywordEach [] X.env))) := by rfl) :
    PE X (.Call (.Attribute o m apos) [] [] pos) (tMeth C m sp dvs E ta tNil) := by
  intro pins s σ H Q I h
  refine PySem.W.methodCall_KW (pl := pl) (thn (he pins s σ H _ I h) fun u s1 ⟨x, H1, I1, rx, a, dx, fs, ex, ea, l, q⟩ => ?_) ht
  subst ex
  obtain rfl : u = Value.ref a := rx
  refine getmeth_ok I1 ea c hm l ?_
  exact PySem.W.callWith_K0 (first := [.ref a]) I1.kIn hm.kp (run_fn (us := [.ref a]) (vs := [.ref a]) F hr hb hd hx I1 (.cons rfl .nil) q)

structure Mk (K : PySem.W.Frag) (C f : Addr) : Prop where
  makes : PySem.W.makesIn K C = true
  init : PySem.W.findIn K (.ref C) "__init__" = some (some (.ref f))
  fn : PySem.W.isFn K (.ref f) = true
  kp : PySem.W.keepIn K (.ref C) = true

theorem run_make {pins : List (Addr × Obj)} {σ : St} {H : Hp} {s : Shared} {Q : VK} {us : List Value} {vs : List V} (M : Mk X.K C f) (F : FnOk X.prog X.w X.K X.mg X.base CX k f fd ps sp) (hr : Room (k + 1) X.A) (hb : Binds X.K fd ps ds) (hd : Vals dvs ds)
    (hx : Passes CX X E) (I : Inv X pins σ H s) (r : Vals vs us)
    (h : ∀ x dx, H x = none → H dx = none → dx ≠ x → sp (.ref x :: (vs ++ dvs)) (upd (upd H dx (.own x)) x (.ins C dx [])) (fun v H2 => v = .non ∧ Q (.ref x) H2) E) :
    wpAny (model X.prog X.w) X.A (call (.ref C) us) (EP X pins σ Q) X.xe s := by
  have hq := h (s.heap.objs.size + 1) s.heap.objs.size (I.hok.fresh (Nat.le_succ _)) (I.hok.fresh (Nat.le_refl _)) (Nat.ne_of_lt (Nat.lt_succ_self _))
  have I2 := Inv.made (C := C) I
  have r2 : Vals (V.ref (s.heap.objs.size + 1) :: (vs ++ dvs)) (Value.ref (s.heap.objs.size + 1) :: (us ++ ds)) := .cons rfl (r.append hd)
  have hl : (Value.ref (s.heap.objs.size + 1) :: us ++ ds).length = ps.length := by
    have e := r2.length
    rw [F.len _ _ _ _ hq] at e
    exact e.symm
  refine wpAny_call (make_map (f := f) I.kIn M.makes M.init (beq_iff_eq.mp M.fn) (codeAny_mono (F.run _ X.stack _ _ ⟨Value.ref (s.heap.objs.size + 1) :: us, []⟩ (Value.ref (s.heap.objs.size + 1) :: (us ++ ds)) _ _ E (hr.make C us [])
    (I2.env0.make C us []) (hb _ (Value.ref (s.heap.objs.size + 1) :: us) I2.kIn hl) r2 hq) fun r s' hq' => ?_))
  cases r with
  | error e => exact hx pins σ _ _ e s' I2 hq'
  | ok fl =>
    cases fl with
    | ret u =>
      obtain ⟨v, H', I3, rv, ev, q3⟩ := I2.after hq'
      subst ev
      exact ⟨rv, ⟨V.ref (s.heap.objs.size + 1), H', I3, rfl, q3⟩⟩
    | next => exact False.elim hq'
    | brk => exact False.elim hq'
    | cont => exact False.elim hq'
theorem pe_make (M : Mk X.K C f) (F : FnOk X.prog X.w X.K X.mg X.base CX k f fd ps sp) (hr : Room (k + 1) X.A) (hg : Gl X x) (hm : X.mg x = some (.ref C)) (hb : Binds X.K fd ps ds) (hd : Vals dvs ds) (hx : Passes CX X E)
    (ha : PA X (e :: es) t) (hdb : (x == ("__debug__" : Str)) = false := by decide) (he : starEach (e :: es) X.env = (false, eval e X.env) :: starEach es X.env := by rfl) (hpl : (backTo pos (starEach es X.env)).any (·.1) = false := by rfl) :
    PE X (.Call (.Name x p) (e :: es) [] pos) (tMake C sp dvs E t) := by
  intro pins s σ H Q I h
  refine wpAny_Call_Name_kw (ld_glob I hg hm ?_ hdb)
  refine PySem.W.callWith_K (h₀ := X.base) I.ok.mod.kin M.kp (thn (ha pos pins s σ H _ I h) fun us s1 ⟨vs, H1, I1, r, q⟩ => ⟨I1.kIn, ?_⟩) he hpl
  exact run_make M F hr hb hd hx I1 r q
theorem pe_make0 (M : Mk X.K C f) (F : FnOk X.prog X.w X.K X.mg X.base CX k f fd ps sp) (hr : Room (k + 1) X.A) (hg : Gl X x) (hm : X.mg x = some (.ref C)) (hb : Binds X.K fd ps ds) (hd : Vals dvs ds) (hx : Passes CX X E)
    (hdb : (x == ("__debug__" : Str)) = false := by decide) : PE X (.Call (.Name x p) [] [] pos) (tMake C sp dvs E tNil) := by
  intro pins s σ H Q I h
  refine wpAny_Call_Name_kw (ld_glob I hg hm ?_ hdb)
  exact PySem.W.callWith_K0 I.kIn M.kp (run_make (us := []) M F hr hb hd hx I .nil h)
end

noncomputable def PK (X : Cx) (kws : List Keyword) (t : TA) : Prop :=
  ∀ (pos : Pos) (pins : List (Addr × Obj)) (s : Shared) (σ : St) (H : Hp) (Q : List V → Hp → Prop), Inv X pins σ H s → t σ H Q → wpAny (model X.prog X.w) X.A (evalAll ((backToKw pos (keywordEach kws X.env)).map (·.2))) (AP X pins σ Q) X.xe s
section
variable {X : Cx} {CX : CXT} {k : Nat} {f C : Addr} {fd : FuncData} {ps ks : List Str} {sp : Sp} {E : XK} {x m : Str} {p pos apos kpos : Pos} {e o : Expr} {es : List Expr} {kws : List Keyword} {te ta : TE} {t tk : TA} {nm : Option Str}
structure KBinds (K : PySem.W.Frag) (fd : FuncData) (ps ks : List Str) (g : List Value → List Value → List Value) (gV : List V → List V → List V) : Prop where
  to : ∀ (s : Shared) (us ws : List Value), K.In s.heap → (g us ws).length = ps.length → BindsTo s fd ⟨us, ks.zip ws⟩ (ps.zip (g us ws))
  rel : ∀ {vs : List V} {us : List Value} {zs : List V} {ws : List Value}, Vals vs us → Vals zs ws → Vals (gV vs zs) (g us ws)
noncomputable def tCallK (sp : Sp) (gV : List V → List V → List V) (E : XK) (t tk : TA) : TE := fun σ H Q => t σ H fun vs H1 => tk σ H1 fun zs H2 => sp (gV vs zs) H2 Q E
variable {g : List Value → List Value → List Value} {gV : List V → List V → List V}
end

structure FnScope (N P : List Str) (sc : Scope) : Prop where
  kind : sc.kind = .function
  co : sc.isCoroutine = false
  gen : sc.isGenerator = false
  nd : N.Nodup
  pre : N.take P.length = P
  par : ∀ x ∈ P, sc.names.lookup x = some .local ∨ sc.names.lookup x = some .cell
  nofree : ∀ y ∈ sc.names, y.2 ≠ .free

theorem bindL_out {kindOf : Str → Option NameKind} {x : Str} : ∀ {binds : List (Str × Value)} {m : Str → Option Value}, (∀ v, (x, v) ∉ binds) → bindL kindOf binds m x = m x
  | [], _, _ => rfl
  | (n, v) :: r, m, h => by
    unfold bindL
    rw [bindL_out fun w hw => h w (List.mem_cons_of_mem _ hw)]
    split
    · have : x ≠ n := by rintro rfl; exact h v List.mem_cons_self
      simp [this]
    · rfl
theorem bindC_out {kindOf : Str → Option NameKind} {x : Str} : ∀ {binds : List (Str × Value)} {m : Str → Option Value}, (∀ v, (x, v) ∉ binds) → bindC kindOf binds m x = m x
  | [], _, _ => rfl
  | (n, v) :: r, m, h => by
    unfold bindC
    rw [bindC_out fun w hw => h w (List.mem_cons_of_mem _ hw)]
    split
    · rfl
    · have : x ≠ n := by rintro rfl; exact h v List.mem_cons_self
      simp [this]
theorem bindL_get {kindOf : Str → Option NameKind} {x : Str} {v : Value} : ∀ {P : List Str} {vs : List Value} {i : Nat} {m : Str → Option Value}, P.Nodup → P[i]? = some x → vs[i]? = some v → kindOf x = some .local →
    bindL kindOf (P.zip vs) m x = some v
  | [], _, _, _, _, h, _, _ => by simp at h
  | _ :: _, [], _, _, _, _, h, _ => by simp at h
  | p :: P, w :: vs, 0, m, nd, h1, h2, hk => by
    simp at h1 h2; subst h1; subst h2
    show bindL kindOf ((p, w) :: P.zip vs) m p = _
    unfold bindL
    rw [bindL_out fun v hv => (List.nodup_cons.mp nd).1 (List.of_mem_zip hv).1, if_pos hk]
    simp
  | p :: P, w :: vs, i + 1, m, nd, h1, h2, hk => by
    show bindL kindOf ((p, w) :: P.zip vs) m x = _
    unfold bindL
    exact bindL_get (i := i) (List.nodup_cons.mp nd).2 (by simpa using h1) (by simpa using h2) hk
theorem bindC_get {kindOf : Str → Option NameKind} {x : Str} {v : Value} : ∀ {P : List Str} {vs : List Value} {i : Nat} {m : Str → Option Value}, P.Nodup → P[i]? = some x → vs[i]? = some v → kindOf x ≠ some .local →
    bindC kindOf (P.zip vs) m x = some v
  | [], _, _, _, _, h, _, _ => by simp at h
  | _ :: _, [], _, _, _, _, h, _ => by simp at h
  | p :: P, w :: vs, 0, m, nd, h1, h2, hk => by
    simp at h1 h2; subst h1; subst h2
    show bindC kindOf ((p, w) :: P.zip vs) m p = _
    unfold bindC
    rw [bindC_out fun v hv => (List.nodup_cons.mp nd).1 (List.of_mem_zip hv).1, if_neg hk]
    simp
  | p :: P, w :: vs, i + 1, m, nd, h1, h2, hk => by
    show bindC kindOf ((p, w) :: P.zip vs) m x = _
    unfold bindC
    exact bindC_get (i := i) (List.nodup_cons.mp nd).2 (by simpa using h1) (by simpa using h2) hk

noncomputable def start (N : List Str) (vs : List V) : St := vs.map some ++ List.replicate (N.length - vs.length) none

noncomputable def cxOf (CX : CXT) (P : Program) (w : World) (K : PySem.W.Frag) (mg : Str → Option Value) (base : Heap) (N : List Str) (qual : Str) (scope : Scope) (f : Addr) (cd : Value) (A : Around) (outer : List Env) (s : Shared) (H : Hp) (E : XK) : Cx where
  prog := P
  w := w
  K := K
  mg := mg
  base := base
  A := A.deeper (envOfC qual scope s.heap.objs.size f cd)
  N := N
  s_0 := s
  H_0 := H
  env := envOfC qual scope s.heap.objs.size f cd
  outer := outer
  stack := envOfC qual scope s.heap.objs.size f cd :: outer
  ex := []
  calm := true
  fn := fun _ => true
  pn := []
  xe := fun e s' => wpAny (model P w) (A.deeper (envOfC qual scope s.heap.objs.size f cd)) (leaving (envOfC qual scope s.heap.objs.size f cd) e) (fun _ s'' => CX outer H s E e s'') (fun e' s'' => CX outer H s E e' s'') s'

theorem cell_has {sc : Scope} {n : Nat} {x : Str} (h : sc.names.lookup x = some .cell) : ∃ c, (cellsFrom n sc.names []).lookup x = some c := by
  have q := PySem.W.cellsFrom_some sc.names n [] (.inl h)
  exact Option.isSome_iff_exists.mp q

theorem inv_start {CX : CXT} {P : Program} {w : World} {K : PySem.W.Frag} {mg : Str → Option Value} {base : Heap} {N ps : List Str} {qual : Str} {scope : Scope} {f : Addr} {cd : Value} {A : Around} {outer : List Env} {s s1 : Shared} {H : Hp} {E : XK} {us : List Value} {vs : List V}
    (S : FnScope N ps scope) (hd : A.handled = none) (e0 : Env0 P w K mg base A outer s H) (hl : vs.length = ps.length) (r : Vals vs us)
    (x : InCallC s s.heap.objs.size (bindL (envOfC qual scope s.heap.objs.size f cd).kindOf (ps.zip us) fun _ => none) (cellsFrom (s.heap.objs.size + 1) scope.names []) (bindC (envOfC qual scope s.heap.objs.size f cd).kindOf (ps.zip us) fun _ => none) s1) :
    Inv (cxOf CX P w K mg base N qual scope f cd A outer s H E) [] (start N vs) H s1 := by
  have hpl : ps.length ≤ N.length := by have := congrArg List.length S.pre; rw [List.length_take] at this; omega
  obtain ⟨h1, tk, rfl, hk⟩ := x.done
  have noA : ∀ b : Addr, b ∉ (cxOf CX P w K mg base N qual scope f cd A outer s H E).ex := fun b z => absurd (show b ∈ ([] : List Addr) from z) (by simp)
  refine ⟨⟨e0.mod, S.kind, rfl, rfl, Nat.le_refl _, fun y z c h1 h2 => ?_, fun y hy => ?_, fun y c _ h => ?_, fun _ => hd, Around.frames_deeper e0.frames, .inr ⟨rfl, rfl⟩, fun b z => absurd z (noA b), e0.bs, e0.bsz, fun b _ _ => noA b, fun b z => absurd z (noA b), e0.funs, e0.frf⟩,
    rfl, e0.bare, Un.kept hk, ⟨_, x.toInCall.ns, fun i y v h1 h2 h3 => ?_⟩, fun y c h => ⟨_, x.cell y c h⟩, e0.hok.fresh (Nat.le_refl _), fun y c h => ?_, fun p hp => absurd (show p ∈ ([] : List (Addr × Obj)) from hp) (by simp), e0.hok.kept hk, ?_⟩
  · exact name_of_addr x.apart (PySem.mem_of_lookup h1) (PySem.mem_of_lookup h2)
  · have hy : scope.names.lookup y = some .cell ∨ scope.names.lookup y = some .free := hy
    rcases hy with hy | hy
    · exact cell_has hy
    · exact absurd rfl (S.nofree _ (PySem.mem_of_lookup hy))
  · exact Nat.le_of_lt (x.above y c (PySem.mem_of_lookup h))
  · have hi : i < vs.length := by
      unfold start at h2
      by_cases hi : i < vs.length
      · exact hi
      · rw [List.getElem?_append_right (by simpa using hi)] at h2
        rw [List.getElem?_replicate] at h2
        split at h2 <;> cases h2
    have ha : vs[i]? = some v := by
      unfold start at h2
      rw [List.getElem?_append_left (by simpa using hi), List.getElem?_map] at h2
      cases e : vs[i]? with
      | none => rw [e] at h2; cases h2
      | some a => rw [e] at h2; cases h2; rfl
    obtain ⟨u, hu, rv⟩ := r.get ha
    have hp : ps[i]? = some y := by
      rw [← S.pre, List.getElem?_take_of_lt (by omega)]; exact h1
    have ndP : ps.Nodup := by rw [← S.pre]; exact S.nd.sublist (List.take_sublist _ _)
    refine ⟨u, rv, ?_⟩
    rcases S.par y (List.mem_of_getElem? hp) with k | k
    · exact .inl ⟨k, bindL_get ndP hp hu k⟩
    · obtain ⟨c, e⟩ := cell_has (n := s.heap.objs.size + 1) k
      refine .inr ⟨.inl k, c, e, ?_⟩
      have q := x.cell y c e
      rw [bindC_get ndP hp hu (by show scope.names.lookup y ≠ _; rw [k]; decide)] at q
      exact q
  · exact e0.hok.fresh (Nat.le_of_lt (x.above y c (PySem.mem_of_lookup h)))
  · unfold start
    show _ = N.length
    rw [List.length_append, List.length_map, List.length_replicate]
    omega

theorem fn_of {CX : CXT} {P : Program} {w : World} {K : PySem.W.Frag} {mg : Str → Option Value} {base : Heap} {k : Nat} {f : Addr} {name qual : Str} {params : Arguments} {body : List Stmt} {scope : Scope} {dV kV doc pm cdv ct oc : Value} {an od : Option Addr}
    {osl : Array (Option Value)} {N ps : List Str} {sp : Sp} (lk : K.lookup f = some ⟨oc, od, .func (PySem.W.fnOf name qual params body scope dV kV doc pm an cdv ct), osl⟩) (hcd : PySem.W.codeIn K cdv qual = true) (S : FnScope N ps scope)
    (len : ∀ vs H Q E, sp vs H Q E → vs.length = ps.length)
    (hbody : ∀ (A : Around) (outer : List Env) (s : Shared) (H : Hp) (vs : List V) (Q : VK) (E : XK), Room k (A.deeper (envOfC qual scope s.heap.objs.size f cdv)) → sp vs H Q E →
      ∃ t, PSs (cxOf CX P w K mg base N qual scope f cdv A outer s H E) body t ∧ t { nx := fun _ H' => Q .non H', rt := Q } (start N vs) H) :
    FnOk P w K mg base CX (k + 1) f (PySem.W.fnOf name qual params body scope dV kV doc pm an cdv ct) ps sp := by
  refine ⟨len, fun A outer s H args us vs Q E hr e0 hb r hsp => ?_⟩
  have hl := len _ _ _ _ hsp
  have KX : K.In s.heap := e0.mod.kin.keeps fun b o e => (e0.bs b o e).1
  have lim : s.heap.NoLimit := e0.mod.nolimit.keeps fun b o e => (e0.bs b o e).1
  have hkind : ∀ y ∈ ps.zip us, scope.names.lookup y.1 = some .local ∨ (scope.names.lookup y.1 = some .cell ∧ ((cellsFrom (s.heap.objs.size + 1) scope.names []).lookup y.1).isSome = true) := fun ⟨n, v⟩ hy => by
    rcases S.par n (List.of_mem_zip hy).1 with q | q
    · exact .inl q
    · exact .inr ⟨q, PySem.W.cellsFrom_some _ _ _ (.inl q)⟩
  refine codeAny_call_function hr.depth (KX _ _ lk) rfl S.co S.gen rfl (PySem.W.codeRec_of KX hcd) (hb _ _ _ _ ?_)
  refine wpAny_newFunctionEnv_cells S.kind hkind fun env he s1 x => ?_
  subst he
  refine ⟨lim.keeps x.toInCall.keep, codeAny_func ?_⟩
  obtain ⟨t, ht, hq⟩ := hbody A outer s H vs Q E (hr.deeper _) hsp
  have I : Inv (cxOf CX P w K mg base N qual scope f cdv A outer s H E) [] (start N vs) H s1 := inv_start S hr.hd e0 hl r x
  refine wpAny_mono (ht [] s1 (start N vs) H _ I hq) (fun fl s' hs => ?_) fun e s' hs => hs
  have fin : ∀ {σ' : St} {H' : Hp} {v : V} {u : Value}, Inv (cxOf CX P w K mg base N qual scope f cdv A outer s H E) [] σ' H' s' → RelV v u → Q v H' → CE outer P w H s Q u s' :=
    fun {σ' H' v u} J rv q => ⟨v, H', J.os, J.bare, J.base, J.hok, rv, q⟩
  cases fl with
  | ret u =>
    obtain ⟨v, σ', H', J, rv, q⟩ := hs
    exact fin J rv q
  | next =>
    obtain ⟨σ', H', J, q⟩ := hs
    exact fin (v := V.non) (u := Value.none) J rfl q
  | brk =>
    obtain ⟨_, _, _, q⟩ := hs
    exact False.elim q
  | cont =>
    obtain ⟨_, _, _, q⟩ := hs
    exact False.elim q
end L2

namespace L2
open PySem PySem.Spec PyProof.Rows
section
variable {X : Cx} {x : Str} {p pos : Pos} {e : Expr} {es : List Expr} {t : TA} {id T : String} {r : List V → Hp → VK → Prop}

noncomputable def tCB (r : List V → Hp → VK → Prop) (t : TA) : TE := fun σ H Q => t σ H fun vs H1 => r vs H1 Q
theorem pe_callB (hc : CallR X (.builtin id) r) (hg : Gl X x) (hm : X.mg x = none) (hv : bootBuiltins x = some (.builtin id)) (ha : PA X (e :: es) t) (hn : x ≠ "__name__" := by decide) (hdb : (x == ("__debug__" : Str)) = false := by decide)
    (he : starEach (e :: es) X.env = (false, eval e X.env) :: starEach es X.env := by rfl) (hpl : (backTo pos (starEach es X.env)).any (·.1) = false := by rfl) : PE X (.Call (.Name x p) (e :: es) [] pos) (tCB r t) := by
  intro pins s σ H Q I h
  refine wpAny_Call_Name_kw (ld_blt I hg hm hv ?_ hn hdb)
  exact PyProof.Rows.callWith_builtin1 (thn (ha pos pins s σ H _ I h) fun us s1 ⟨vs, H1, I1, r1, q1⟩ => hc pins s1 σ H1 vs us Q I1 r1 q1) he hpl
theorem pe_callTy (hc : CallR X (.type T) r) (hg : Gl X x) (hm : X.mg x = none) (hv : bootBuiltins x = some (.type T)) (ha : PA X (e :: es) t) (hn : x ≠ "__name__" := by decide) (hdb : (x == ("__debug__" : Str)) = false := by decide)
    (he : starEach (e :: es) X.env = (false, eval e X.env) :: starEach es X.env := by rfl) (hpl : (backTo pos (starEach es X.env)).any (·.1) = false := by rfl) : PE X (.Call (.Name x p) (e :: es) [] pos) (tCB r t) := by
  intro pins s σ H Q I h
  refine wpAny_Call_Name_kw (ld_blt I hg hm hv ?_ hn hdb)
  exact PyProof.Rows.callWith_type1 (thn (ha pos pins s σ H _ I h) fun us s1 ⟨vs, H1, I1, r1, q1⟩ => hc pins s1 σ H1 vs us Q I1 r1 q1) he hpl
end
end L2

namespace HT
open PySem PyProof.Rows

noncomputable def lexLt : List Int → List Int → Bool
  | [], [] => false
  | [], _ :: _ => true
  | _ :: _, [] => false
  | x :: xs, y :: ys => if x = y then lexLt xs ys else decide (x < y)
theorem rcLt_int (A : Around) (s : Shared) (a : Int) (t : Tok) (c : Int) (u : Tok) (prog : Program) (w : World) (E : Value → Shared → Prop) (Q : Value → Shared → Prop) (h : Q (.bool (decide (a < c))) s) :
    wpAny (model prog w) A (richCompare .Lt (.int a t) (.int c u)) Q E s :=
  (PyProof.Rows.lt_int h : wpAny (model prog w) A (compareOp .Lt (.int a t) (.int c u)) Q E s)

section
open PySem.SeqAt
open PySem.AutoSeq1 (wpAny_loadPart')
open PySem.MeetsSeq PySem.MeetsSeq2 PySem.MeetsSeq3

end

section
variable {prog : Program} {w : World} {A : Around} {E : Value → Shared → Prop} {s : Shared}

noncomputable def sIx (n d : Nat) : Option Int → Nat
  | none => d
  | some v => if v < 0 then (v + (n : Int)).toNat else min v.toNat n
theorem sIx_none (n d : Nat) : sIx n d none = d := rfl
theorem sIx_nat (n d k : Nat) : sIx n d (some (k : Int)) = min k n := by
  show (if (k : Int) < 0 then ((k : Int) + (n : Int)).toNat else min (k : Int).toNat n) = min k n
  rw [if_neg (by omega), Int.toNat_natCast]
end
end HT

namespace L2
open PySem PySem.Spec PyProof.Rows

noncomputable abbrev TO := St → Hp → (Option Int → Hp → Prop) → Prop
noncomputable def PO (X : Cx) (e : Option Expr) (t : TO) : Prop :=
  ∀ (pins : List (Addr × Obj)) (s : Shared) (σ : St) (H : Hp) (Q : Option Int → Hp → Prop), Inv X pins σ H s → t σ H Q →
    wpAny (model X.prog X.w) X.A (evalPart e X.env) (fun u s' => ∃ o H', Inv X pins σ H' s' ∧ IsPart u o ∧ Q o H') X.xe s
noncomputable def tNoPart : TO := fun _ H Q => Q none H
noncomputable def tPart (t : TE) : TO := fun σ H Q => t σ H fun x H1 => ∃ i, x = .int i ∧ Q (some i) H1

theorem intsAre_of {ns : List Int} : ∀ {us : List Value}, Vals (ns.map V.int) us → IntsAre us ns := by
  induction ns with
  | nil => intro us r; rw [List.map_nil] at r; cases r; exact .nil
  | cons n ns ih =>
    intro us r
    rw [List.map_cons] at r
    cases r with
    | cons r1 r2 =>
      obtain ⟨t, e⟩ := r1
      subst e
      exact .cons n t (ih r2)

section
variable {X : Cx} {e : Expr} {te : TE} {lo hi : Option Expr} {tl th : TO} {pos p2 : Pos}

theorem po_none : PO X none tNoPart := by
  intro pins s σ H Q I h
  rw [evalPart_none]
  exact wpAny_pure ⟨none, H, I, .none, h⟩
theorem po_some (h : PE X e te) : PO X (some e) (tPart te) := by
  intro pins s σ H Q I hw
  rw [evalPart_some]
  refine thn (h pins s σ H _ I hw) fun u s1 ⟨x, H1, I1, r1, q1⟩ => ?_
  obtain ⟨i, rfl, q⟩ := q1
  obtain ⟨t, rfl⟩ := r1
  exact ⟨some i, H1, I1, .int i t, q⟩

noncomputable def SlR (X : Cx) (r : V → Option Int → Option Int → Hp → VK → Prop) : Prop :=
  ∀ (pins : List (Addr × Obj)) (s : Shared) (σ : St) (H : Hp) (x : V) (v vl vu : Value) (lo hi : Option Int) (sl : Addr) (Q : VK), Inv X pins σ H s → RelV x v → s.heap.IsSliceOf sl vl vu .none → IsPart vl lo → IsPart vu hi → r x lo hi H Q →
    ∃ T id, typeLookup (.type T) "__getitem__" = pure (some (.builtin id)) ∧ s.TypeIs v T ∧ wpAny (model X.prog X.w) X.A (getItem v (.ref sl)) (EP X pins σ Q) X.xe s
noncomputable def tSl (r : V → Option Int → Option Int → Hp → VK → Prop) (te : TE) (tl th : TO) : TE := fun σ H Q => te σ H fun x H1 => tl σ H1 fun l H2 => th σ H2 fun u H3 => r x l u H3 Q
theorem pe_slice {r : V → Option Int → Option Int → Hp → VK → Prop} (hr : SlR X r) (he : PE X e te) (hl : PO X lo tl) (hu : PO X hi th) : PE X (.Subscript e (.Slice lo hi none p2) pos) (tSl r te tl th) := by
  intro pins s σ H Q I h
  refine Subscript_ (thn (he pins s σ H _ I h) fun v s1 ⟨x, H1, I1, r1, q1⟩ => ?_)
  refine wpAny_Slice (thn (hl pins s1 σ H1 _ I1 q1) fun vl s2 ⟨l, H2, I2, pl, q2⟩ => thn (hu pins s2 σ H2 _ I2 q2) fun vu s3 ⟨u, H3, I3, pu, q3⟩ => ?_)
  rw [evalPart_none]
  refine wpAny_pure ?_
  have I4 : Inv X pins σ H3 { s3 with heap := s3.heap.push { cls := .type "slice", data := .fields #[vl, vu, .none] } } := I3.kept (t' := s3.toks) fun b ob q => Heap.get?_push_of_some _ q
  obtain ⟨T, id, hT, ht, hg⟩ := hr pins { s3 with heap := s3.heap.push { cls := .type "slice", data := .fields #[vl, vu, .none] } } σ H3 x v vl vu l u s3.heap.objs.size Q I4 r1 (Heap.IsSliceOf.new ..) pl pu q3
  show wpAny (model X.prog X.w) X.A (subscriptTail e (.Slice lo hi none p2) v (.ref s3.heap.objs.size)) (EP X pins σ Q) X.xe { s3 with heap := s3.heap.push { cls := .type "slice", data := .fields #[vl, vu, .none] } }
  exact tail_any (ops := [.ref s3.heap.objs.size, v]) ht hT hg (by with_unfolding_all rfl)

noncomputable def cutV (xs : List V) (lo hi : Option Int) : List V := (xs.drop (HT.sIx xs.length 0 lo)).take (HT.sIx xs.length xs.length hi - HT.sIx xs.length 0 lo)
theorem cutV_length (xs : List V) (lo hi : Option Int) : (cutV xs lo hi).length ≤ xs.length := by
  unfold cutV
  rw [List.length_take, List.length_drop]
  omega
noncomputable def rSlT (K : PySem.W.Frag) : V → Option Int → Option Int → Hp → VK → Prop := fun x lo hi H Q => ∃ a xs, x = .ref a ∧ SqT K H a xs ∧
  ¬ (HT.sIx xs.length 0 lo = 0 ∧ HT.sIx xs.length xs.length hi = xs.length) ∧ ∀ p, H p = none → Q (.ref p) (upd H p (.tup (cutV xs lo hi)))
noncomputable def rLtT (K : PySem.W.Frag) : R2 := fun x y H Q => ∃ a b ns ms, x = .ref a ∧ y = .ref b ∧ SqT K H a (ns.map V.int) ∧ SqT K H b (ms.map V.int) ∧ Q (.bl (HT.lexLt ns ms)) H
noncomputable def rCatT (K : PySem.W.Frag) : R2 := fun x y H Q => ∃ a b xs ys, x = .ref a ∧ y = .ref b ∧ SqT K H a xs ∧ SqT K H b ys ∧ xs ≠ [] ∧ xs.length + ys.length ≤ sizeLine ∧
  (ys = [] → Q (.ref a) H) ∧ (ys ≠ [] → ∀ p, H p = none → Q (.ref p) (upd H p (.tup (xs ++ ys))))
end
end L2

namespace L2
open PySem PySem.Spec PyProof.Rows

noncomputable def ixN (n : Nat) (i : Int) : Option Nat := if 0 ≤ i then (if i < n then some i.toNat else none) else if -(n : Int) ≤ i then some (i + n).toNat else none
noncomputable def atI {α : Type} (xs : List α) (i : Int) : Option α := (ixN xs.length i).bind fun j => xs[j]?
theorem ixN_seq {n : Nat} {i : Int} {j : Nat} (h : ixN n i = some j) : seqIndex? i n = some j ∧ j < n ∧ -(n : Int) ≤ i ∧ i < n := by
  unfold ixN at h
  by_cases h0 : 0 ≤ i
  · rw [if_pos h0] at h
    by_cases h1 : i < n
    · rw [if_pos h1] at h
      have e : i.toNat = j := Option.some.inj h
      exact ⟨by rw [seqIndex_of h0 h1, e], by omega, by omega, h1⟩
    · rw [if_neg h1] at h; cases h
  · rw [if_neg h0] at h
    by_cases h1 : -(n : Int) ≤ i
    · rw [if_pos h1] at h
      have e : (i + n).toNat = j := Option.some.inj h
      exact ⟨by rw [seqIndex_neg (by omega) h1, e], by omega, h1, by omega⟩
    · rw [if_neg h1] at h; cases h
theorem atI_get {α : Type} {xs : List α} {i : Int} {v : α} (h : atI xs i = some v) : ∃ j, seqIndex? i xs.length = some j ∧ xs[j]? = some v ∧ j < xs.length ∧ -(xs.length : Int) ≤ i ∧ i < xs.length := by
  unfold atI at h
  cases e : ixN xs.length i with
  | none => rw [e] at h; cases h
  | some j =>
    rw [e] at h
    obtain ⟨h1, h2, h3, h4⟩ := ixN_seq e
    exact ⟨j, h1, h, h2, h3, h4⟩
theorem atI_nat {α : Type} {xs : List α} {j : Nat} {v : α} (h : xs[j]? = some v) : atI xs (j : Int) = some v := by
  have hj : j < xs.length := (List.getElem?_eq_some_iff.mp h).1
  have e : ixN xs.length (j : Int) = some j := by
    unfold ixN
    rw [if_pos (by omega), if_pos (by omega)]; simp
  unfold atI; rw [e]; exact h
theorem atI_last {α : Type} (xs : List α) (v : α) : atI (xs ++ [v]) (-1) = some v := by
  have hl : (xs ++ [v]).length = xs.length + 1 := by simp
  have e : ixN (xs ++ [v]).length (-1) = some xs.length := by
    unfold ixN
    rw [hl, if_neg (by decide), if_pos (by omega)]
    congr 1
    omega
  unfold atI
  rw [e]
  show (xs ++ [v])[xs.length]? = some v
  simp

noncomputable def PlainIx (b : Expr) : Prop := ∀ o i, subscripted b false o i = operate [o, i] (getItem o i)
noncomputable def IxR (X : Cx) (r : R2) : Prop :=
  ∀ (value slice : Expr) (pins : List (Addr × Obj)) (s : Shared) (σ : St) (H : Hp) (x y : V) (v u : Value) (Q : VK), Inv X pins σ H s → RelV x v → RelV y u → r x y H Q →
    subscripted slice false v u = operate [v, u] (getItem v u) → wpAny (model X.prog X.w) X.A (subscriptTail value slice v u) (EP X pins σ Q) X.xe s
noncomputable def MtR (X : Cx) (id : String) (r : V → List V → Hp → VK → Prop) : Prop :=
  ∀ (pins : List (Addr × Obj)) (s : Shared) (σ : St) (H : Hp) (x : V) (xs : List V) (v : Value) (us : List Value) (Q : VK), Inv X pins σ H s → RelV x v → Vals xs us → r x xs H Q →
    wpAny (model X.prog X.w) X.A (call (.builtin id) (v :: us)) (EP X pins σ Q) X.xe s
section
variable {X : Cx} {a b : Expr} {ta tb : TE} {pos : Pos}
theorem pe_ix {r : R2} (hr : IxR X r) (ha : PE X a ta) (hb : PE X b tb) (hs : PlainIx b) : PE X (.Subscript a b pos) (tOp r ta tb) := by
  intro pins s σ H Q I h
  exact Subscript_ (binT ha hb I h fun v u s2 x y H2 I2 rx ry q => hr a b pins s2 σ H2 x y v u Q I2 rx ry q (hs _ _))

noncomputable def rIxL (K : PySem.W.Frag) : R2 := fun x y H Q => ∃ p xs i v, x = .ref p ∧ y = .int i ∧ SqL K H p xs ∧ atI xs i = some v ∧ Q v H
noncomputable def rIxT (K : PySem.W.Frag) : R2 := fun x y H Q => ∃ p xs i v, x = .ref p ∧ y = .int i ∧ SqT K H p xs ∧ atI xs i = some v ∧ Q v H
noncomputable def rIxS : R2 := fun x y H Q => ∃ z i c, x = .str z ∧ y = .int i ∧ z.length ≤ sizeLine ∧ atI z.cps.toList i = some c ∧ Q (.str ⟨#[c]⟩) H
theorem ix_list : IxR X (rIxL X.K) := by
  intro value slice pins s σ H x y v u Q I rx ry h hs
  obtain ⟨p, xs, i, z, rfl, rfl, hq, he, q⟩ := h
  cases rx
  obtain ⟨t, rfl⟩ := ry
  obtain ⟨its, r, pl, hz⟩ := I.list hq
  obtain ⟨j, h1, h2, h3, h4, h5⟩ := atI_get he
  obtain ⟨w, ew, rw'⟩ := r.get h2
  have hl := r.length
  have hn := line63
  have fin : EP X pins σ Q w s := ⟨z, H, I, rw', q⟩
  by_cases h0 : 0 ≤ i
  · have hj : i.toNat = j := by
      rw [seqIndex_of h0 h5] at h1
      exact Option.some.inj h1
    exact item_listR pl.isList h0 (by omega) (by rw [hj]; simpa using ew) fin hs
  · have hj : (i + (its.toArray.size : Int)).toNat = j := by
      rw [seqIndex_neg (by omega) h4] at h1
      rw [List.size_toArray, ← hl]
      exact Option.some.inj h1
    exact subscriptTail_builtinR (x := w) pl.isList.typeIs slot_list_getitem.lookup
      (wpAny_getItem_list_neg (Q := fun r s' => r = w ∧ EP X pins σ Q r s') pl.isList (by omega) (by rw [List.size_toArray] <;> omega) (by omega) (by rw [hj]; simpa using ew) ⟨rfl, fin⟩) hs
theorem ix_tup : IxR X (rIxT X.K) := by
  intro value slice pins s σ H x y v u Q I rx ry h hs
  obtain ⟨p, xs, i, z, rfl, rfl, hq, he, q⟩ := h
  cases rx
  obtain ⟨t, rfl⟩ := ry
  obtain ⟨its, r, pl, hz⟩ := I.tuple hq
  obtain ⟨j, h1, h2, h3, h4, h5⟩ := atI_get he
  obtain ⟨w, ew, rw'⟩ := r.get h2
  have hl := r.length
  have hn := line63
  have fin : EP X pins σ Q w s := ⟨z, H, I, rw', q⟩
  exact subscriptTail_builtinR (x := w) pl.typeIs slot_tuple_getitem.lookup
    (getItem_tuple (j := j) (Q := fun r s' => r = w ∧ EP X pins σ Q r s') pl (by omega) (by omega) (by rw [List.size_toArray, ← hl]; exact h1) (by simpa using ew) ⟨rfl, fin⟩) hs
noncomputable def rIx (K : PySem.W.Frag) : R2 := fun x y H Q => rIxL K x y H Q ∨ rIxT K x y H Q ∨ rIxS x y H Q
theorem mapSeq_set (its : List Value) (n j : Nat) (u : Value) : Obj.mapSeq (·.setIfInBounds j u) { cls := .type "list", data := .seq its.toArray n } = { cls := .type "list", data := .seq (its.set j u).toArray n } := by
  simp [Obj.mapSeq]
theorem Inv.lst {pins : List (Addr × Obj)} {σ : St} {H : Hp} {s : Shared} {p : Addr} {xs : List V} (I : Inv X pins σ H s) (h : H p = some (.lst xs)) :
    ∃ (its : List Value) (n : Nat), Vals xs its ∧ s.heap.get? p = some { cls := .type "list", data := .seq its.toArray n } ∧ xs.length ≤ sizeLine := by
  obtain ⟨z, its, n, r, e⟩ := I.hok p _ h
  exact ⟨its, n, r, e, z⟩
theorem Inv.lstUpd {pins : List (Addr × Obj)} {σ : St} {H : Hp} {s : Shared} {p : Addr} {xs ys : List V} {its its' : List Value} {n n' : Nat} {f : Obj → Obj} (I : Inv X pins σ H s) (h : H p = some (.lst xs))
    (ho : s.heap.get? p = some { cls := .type "list", data := .seq its.toArray n }) (hf : f { cls := .type "list", data := .seq its.toArray n } = { cls := .type "list", data := .seq its'.toArray n' }) (r : Vals ys its') (hz : ys.length ≤ sizeLine) (t : Nat) :
    Inv X pins σ (upd H p (.lst ys)) { s with heap := s.heap.update p f, toks := t } := by
  have e : (s.heap.update p f).get? p = some { cls := .type "list", data := .seq its'.toArray n' } := by
    rw [Heap.get?_update_self f ho (by rw [hf] <;> rfl), hf]
  refine I.write (x := p) (e := p) (by rw [h]; trivial) (.inl rfl) (fun b u hb q => (Heap.get?_update_other _ _ (Ne.symm hb)).trans q) ⟨_, e⟩ ?_
  exact ⟨hz, its', n', r, e⟩
noncomputable def rSetL : V → V → V → Hp → (Hp → Prop) → Prop := fun o i v H Q => ∃ p xs k j, o = .ref p ∧ i = .int k ∧ H p = some (.lst xs) ∧ ixN xs.length k = some j ∧ Q (upd H p (.lst (xs.set j v)))
theorem set_list : PSet X rSetL := by
  intro pins s σ H o i v ov iv u Q I ro ri rv h
  obtain ⟨p, xs, k, j, rfl, rfl, hp, hj, q⟩ := h
  cases ro
  obtain ⟨t, rfl⟩ := ri
  obtain ⟨its, n, r, ho, hz⟩ := I.lst hp
  obtain ⟨h1, h2, h3, h4⟩ := ixN_seq hj
  have hl := r.length
  have hn := line63
  have I' : Inv X pins σ (upd H p (.lst (xs.set j v))) { s with heap := s.heap.update p (Obj.mapSeq (·.setIfInBounds j u)) } :=
    I.lstUpd hp ho (mapSeq_set its n j u) (r.set rv j) (by rw [List.length_set]; exact hz) s.toks
  by_cases h0 : 0 ≤ k
  · have hk : k.toNat = j := by
      rw [seqIndex_of h0 h4] at h1
      exact Option.some.inj h1
    exact PySem.W.ki_setAt ho h0 (by omega) (by rw [List.size_toArray, ← hl]; exact h4) (by rw [hk]; exact ⟨_, I', q⟩)
  · have hk : (k + (its.toArray.size : Int)).toNat = j := by
      rw [seqIndex_neg (by omega) h3] at h1
      rw [List.size_toArray, ← hl]
      exact Option.some.inj h1
    exact PySem.W.ki_setBack ho (by omega) (by rw [List.size_toArray, ← hl]; exact h3) (by omega) (by rw [hk]; exact ⟨_, I', q⟩)

theorem slice_bounds (lo hi : Option Int) (n : Nat) : (sliceBounds lo hi none n).1 = ((HT.sIx n 0 lo : Nat) : Int) ∧ (sliceBounds lo hi none n).2.1 = ((HT.sIx n n hi : Nat) : Int) ∧ (sliceBounds lo hi none n).2.2 = 1 := by
  refine ⟨?_, ?_, rfl⟩
  · cases lo with
    | none => simp [sliceBounds, HT.sIx]
    | some i =>
      simp only [sliceBounds, HT.sIx, Option.getD_none, show (1 : Int) > 0 by decide, if_true]
      by_cases h : i < 0
      · simp only [h, if_true] <;> omega
      · simp only [h, if_false] <;> omega
  · cases hi with
    | none => simp [sliceBounds, HT.sIx]
    | some i =>
      simp only [sliceBounds, HT.sIx, Option.getD_none, show (1 : Int) > 0 by decide, if_true]
      by_cases h : i < 0
      · simp only [h, if_true] <;> omega
      · simp only [h, if_false] <;> omega
theorem slicePick_cut (its : List Value) (lo hi : Option Int) : slicePick its.toArray lo hi none = ((its.drop (HT.sIx its.length 0 lo)).take (HT.sIx its.length its.length hi - HT.sIx its.length 0 lo)).toArray := by
  obtain ⟨h1, h2, h3⟩ := slice_bounds lo hi its.toArray.size
  unfold slicePick
  rw [h1, h2, h3]
  simp only [sliceRange_one, pick_run, List.size_toArray] <;> rfl
noncomputable def rSlL (K : PySem.W.Frag) : V → Option Int → Option Int → Hp → VK → Prop := fun x lo hi H Q => ∃ a xs, x = .ref a ∧ SqL K H a xs ∧ ∀ p, H p = none → Q (.ref p) (upd H p (.lst (cutV xs lo hi)))
theorem sl_list : SlR X (rSlL X.K) := by
  intro pins s σ H x v vl vu lo hi sl Q I rx hs pl pu h
  obtain ⟨a, xs, rfl, hx, q⟩ := h
  cases rx
  obtain ⟨its, r, ht, hz⟩ := I.list hx
  have hlen := r.length
  refine ⟨"list", _, slot_list_getitem.lookup, ht.isList.typeIs, ?_⟩
  refine wpAny_getItem_list_slice ht.isList hs pl pu .none (by simp) ?_ (by rw [List.size_toArray] <;> omega)
  rw [slicePick_cut, ← hlen]
  refine ⟨.ref s.heap.objs.size, _, I.laid (t' := s.toks) (o := .lst (cutV xs lo hi)) (fun b ob q => Heap.get?_push_of_some _ q) (Nat.le_refl _) ?_, rfl, q _ (I.hok.fresh (Nat.le_refl _))⟩
  exact ⟨Nat.le_trans (cutV_length xs lo hi) hz, _, 0, (r.drop (HT.sIx xs.length 0 lo)).take (HT.sIx xs.length xs.length hi - HT.sIx xs.length 0 lo), Heap.get?_push_size _ rfl⟩

noncomputable def flatV : V → Bool
  | .non => true
  | .bl _ => true
  | .int _ => true
  | .str _ => true
  | _ => false
noncomputable def eqV : V → V → Bool
  | .non, .non => true
  | .bl a, .bl b => a == b
  | .bl a, .int b => (if a then 1 else 0) == b
  | .int a, .bl b => a == (if b then 1 else 0)
  | .int a, .int b => a == b
  | .str a, .str b => a == b
  | _, _ => false
noncomputable def eqU (x : V) (u : Value) : Bool := match u with
  | .none => eqV .non x
  | .bool b => eqV (.bl b) x
  | .int i _ => eqV (.int i) x
  | .str z _ => eqV (.str z) x
  | _ => false
noncomputable def inV (x : V) (xs : List V) : Bool := xs.any fun y => eqV y x
noncomputable def rIn (K : PySem.W.Frag) (neg : Bool) : R2 := fun x y H Q => ∃ p xs, y = .ref p ∧ (SqL K H p xs ∨ SqT K H p xs) ∧ flatV x = true ∧ xs.all flatV = true ∧ Q (.bl (if neg then !inV x xs else inV x xs)) H
theorem call_len_seq : CallR X (.builtin "len") (fun xs H Q => ∃ p ys, xs = [.ref p] ∧ (SqL X.K H p ys ∨ SqT X.K H p ys) ∧ Q (.int ys.length) H) := by
  intro pins s σ H xs us Q I r h
  obtain ⟨p, ys, rfl, hq, q⟩ := h
  obtain ⟨u, rfl, rx⟩ := vals1 r
  cases rx
  have hn := line63
  rcases hq with hq | hq
  · obtain ⟨its, r', pl, hz⟩ := I.list hq
    have hlen := r'.length
    exact Calls.call_len_list pl.isList (by simp only [List.size_toArray] <;> omega) ⟨.int ys.length, H, I.tok _, ⟨s.toks + 1, by rw [List.size_toArray, hlen]⟩, q⟩
  · obtain ⟨its, r', pl, hz⟩ := I.tuple hq
    have hlen := r'.length
    exact len_tuple pl (by simp only [List.size_toArray] <;> omega) ⟨.int ys.length, H, I.tok _, ⟨s.toks + 1, by rw [List.size_toArray, hlen]⟩, q⟩
theorem call_tuple_of : CallR X (.type "tuple") (fun xs H Q => ∃ p ys, xs = [.ref p] ∧ ((SqL X.K H p ys ∧ ∀ l, H l = none → Q (.ref l) (upd H l (.tup ys))) ∨ (SqT X.K H p ys ∧ Q (.ref p) H))) := by
  intro pins s σ H xs us Q I r h
  obtain ⟨p, ys, rfl, h⟩ := h
  obtain ⟨u, rfl, rx⟩ := vals1 r
  cases rx
  rcases h with ⟨hq, q⟩ | ⟨hq, q⟩
  · obtain ⟨its, r', pl, hz⟩ := I.list hq
    have hlen := r'.length
    refine call_tuple_list pl.isList (fun h' kp => ?_) (by simp only [List.size_toArray] <;> omega)
    have I1 : Inv X pins σ H { s with heap := h' } := I.kept (t' := s.toks) kp
    have I2 : Inv X pins σ (upd H h'.objs.size (.tup ys)) { s with heap := h'.push { cls := .type "tuple", data := .seq its.toArray } } :=
      I1.laid (t' := s.toks) (fun b o e => Heap.get?_push_of_some _ e) (Nat.le_refl _) (show ObjOk X.prog X.w _ _ _ (.tup ys) from ⟨hz, its, r', IsTup.new _ _⟩)
    exact ⟨.ref h'.objs.size, _, I2, rfl, q _ (I1.hok.fresh (Nat.le_refl _))⟩
  · obtain ⟨its, r', pl, hz⟩ := I.tuple hq
    exact call_tuple_same pl ⟨.ref p, H, I, rfl, q⟩

noncomputable def tyV (K : PySem.W.Frag) (T : String) (x : V) (H : Hp) : Prop := match x with
  | .str _ => T = "str"
  | .int _ => T = "int"
  | .ref p => (T = "list" ∧ ∃ xs, SqL K H p xs) ∨ (T = "tuple" ∧ ∃ o, K.lookup p = some o ∧ o.cls = .type "tuple" ∧ o.dict = none) ∨
      (T = "dict" ∧ ((∃ kvs, H p = some (.dK kvs)) ∨ ∃ kvs, H p = some (.dT kvs))) ∨ (T = "set" ∧ ∃ S n, H p = some (.set S n))
  | _ => False
theorem tyV_is {pins : List (Addr × Obj)} {σ : St} {H : Hp} {s : Shared} {T : String} {x : V} {v : Value} (I : Inv X pins σ H s) (r : RelV x v) (ty : tyV X.K T x H) :
    s.TypeIs v T ∧ ∀ a, v = .ref a → ∃ ob, s.heap.get? a = some ob ∧ ob.dict = none := by
  cases x with
  | str z =>
    obtain ⟨t, rfl⟩ := r
    cases (show T = "str" from ty)
    exact ⟨typeIs_str s z t, fun _ e => nomatch e⟩
  | int i =>
    obtain ⟨t, rfl⟩ := r
    cases (show T = "int" from ty)
    exact ⟨typeIs_int s i t, fun _ e => nomatch e⟩
  | ref p =>
    cases r
    rcases ty with ⟨rfl, xs, hq⟩ | ⟨rfl, o, hk, hc, hd⟩ | ⟨rfl, hk⟩ | ⟨rfl, S, n, hk⟩
    · obtain ⟨its, _, pl, _⟩ := I.list hq
      refine ⟨pl.isList.typeIs, fun a e => ?_⟩
      cases e
      obtain ⟨o, n, e, c, hd, _⟩ := pl
      exact ⟨o, e, hd⟩
    · refine ⟨⟨o, I.kIn p o hk, hc⟩, fun a e => ?_⟩
      cases e
      exact ⟨o, I.kIn _ o hk, hd⟩
    · have z : ∃ o, s.heap.get? p = some o ∧ o.ExactDict := by
        rcases hk with ⟨kvs, hk⟩ | ⟨kvs, hk⟩
        · obtain ⟨_, _, _, _, o, _, _, e, ex, _⟩ := I.hok p _ hk
          exact ⟨o, e, ex⟩
        · obtain ⟨_, _, _, _, o, _, _, e, ex, _⟩ := I.hok p _ hk
          exact ⟨o, e, ex⟩
      obtain ⟨o, e, ex⟩ := z
      refine ⟨⟨o, e, ex.1⟩, fun a e2 => ?_⟩
      cases e2
      exact ⟨o, e, ex.2.1⟩
    · obtain ⟨o, _, _, _, e, ex, _⟩ := I.hok p _ hk
      refine ⟨⟨o, e, ex.1⟩, fun a e2 => ?_⟩
      cases e2
      exact ⟨o, e, ex.2.1⟩
  | _ => exact False.elim ty
noncomputable def tBM0 (K : PySem.W.Frag) (T : String) (r : V → List V → Hp → VK → Prop) (to : TE) : TE := fun σ H Q => to σ H fun x H1 => tyV K T x H1 ∧ r x [] H1 Q
noncomputable def tBM (K : PySem.W.Frag) (T : String) (r : V → List V → Hp → VK → Prop) (to : TE) (t : TA) : TE := fun σ H Q => to σ H fun x H1 => tyV K T x H1 ∧ t σ H1 fun xs H2 => r x xs H2 Q
variable {o e : Expr} {es : List Expr} {to : TE} {t : TA} {name : Str} {apos cpos : Pos} {T id : String} {r : V → List V → Hp → VK → Prop}
theorem pe_bm (pa : PlainAttrs T) (slot : Slot T name id) (hty : typeOf (.builtin id) = pure (.type "method_descriptor")) (hm : MtR X id r) (ho : PE X o to) (ha : PA X (e :: es) t)
    (hbase : attributeBase o name X.env (eval o X.env) = eval o X.env := by rfl)
    (hfew : ((backTo cpos (starEach (e :: es) X.env)).all (fun x => !x.1) && (backToKw cpos (keywordEach [] X.env)).all (fun x => x.1.isSome)
      && decide ((e :: es).length + ([] : List Keyword).length + (if ([] : List Keyword).isEmpty then 0 else 1) < 30)) = true := by rfl)
    (hline : (apos.endLine == cpos.line) = true := by rfl) (hs : starEach (e :: es) X.env = (false, eval e X.env) :: starEach es X.env := by rfl) (hplain : (backTo cpos (starEach es X.env)).any (·.1) = false := by rfl) :
    PE X (.Call (.Attribute o name apos) (e :: es) [] cpos) (tBM X.K T r to t) := by
  intro pins s σ H Q I h
  refine wpAny_Call_method_late hbase hfew hline rfl (thn (ho pins s σ H _ I h) fun v s1 ⟨x, H1, I1, r1, ty, q1⟩ => ?_)
  obtain ⟨h1, h2⟩ := tyV_is I1 r1 ty
  refine ⟨T, id, pa, slot, hty, h1, h2, ?_⟩
  have hA := ha cpos pins s1 σ H1 _ I1 q1
  rw [hs] at hA ⊢
  refine Calls.callWith_builtin (by show (false || (backTo cpos (starEach es X.env)).any (·.1)) = false; rw [hplain] <;> rfl) (Calls.evalArgs_plain ?_)
  exact thn hA fun us s2 ⟨vs, H2, I2, r2, q2⟩ => hm pins s2 σ H2 x vs v us Q I2 r1 r2 q2
/- xs.append(e), list.index on a module's tuple .. are MtR facts of 06m -/
end
end L2

namespace L2
open PySem PySem.Spec PyProof.Rows

noncomputable def MtM (X : Cx) (id : String) (r : V → List V → Hp → VK → Prop) : Prop :=
  ∀ (pins : List (Addr × Obj)) (s : Shared) (σ : St) (H : Hp) (x : V) (xs : List V) (v : Value) (us : List Value) (Q : VK), Inv X pins σ H s → RelV x v → Vals xs us → r x xs H Q →
    wpAny (model X.prog X.w) X.A (call (.builtin id) (v :: us)) (EP X pins σ Q) X.xe s

theorem Vals.one : ∀ {x : V} {us : List Value}, Vals [x] us → ∃ u, us = [u] ∧ RelV x u
  | _, _, .cons r .nil => ⟨_, rfl, r⟩
section
variable {X : Cx} {pins : List (Addr × Obj)} {σ : St} {H : Hp} {s : Shared} {l b : Addr} {xs ys zs : List V}

theorem Inv.lset {its its' : List Value} {n : Nat} {f : Array Value → Array Value} {t' : Nat} (I : Inv X pins σ H s) (hH : H l = some (.lst xs))
    (e : s.heap.get? l = some { cls := .type "list", data := .seq its.toArray n }) (hf : f its.toArray = its'.toArray) (hv : Vals ys its') (hz : ys.length ≤ sizeLine) :
    Inv X pins σ (upd H l (.lst ys)) { s with heap := s.heap.update l (Obj.mapSeq f), toks := t' } := by
  have q := PySem.IsL.update e f
  rw [hf] at q
  refine I.write (x := l) (e := l) (by rw [hH]; exact trivial) (.inl rfl) (fun b' u hb hu => (Heap.get?_update_other s.heap (Obj.mapSeq f) (Ne.symm hb)).trans hu) ⟨_, q⟩ ?_
  exact ⟨hz, its', _, hv, q⟩
theorem Inv.lnew {its : List Value} {t' : Nat} (I : Inv X pins σ H s) (hv : Vals ys its) (hz : ys.length ≤ sizeLine) :
    Inv X pins σ (upd H s.heap.objs.size (.lst ys)) { s with heap := s.heap.push { cls := .type "list", data := .seq its.toArray }, toks := t' } :=
  I.laid (fun _ _ q => Heap.get?_push_of_some _ q) (Nat.le_refl _) ⟨hz, its, 0, hv, Heap.get?_push_size _ rfl⟩
theorem Inv.fresh (I : Inv X pins σ H s) : H s.heap.objs.size = none := I.hok.fresh (Nat.le_refl _)
theorem Inv.lstM (I : Inv X pins σ H s) (hH : H l = some (.lst xs)) : xs.length ≤ sizeLine ∧ ∃ (its : List Value) (n : Nat), Vals xs its ∧ xs.length = its.length ∧ s.heap.get? l = some { cls := .type "list", data := .seq its.toArray n } := by
  obtain ⟨z, its, n, r, e⟩ := I.hok l _ hH
  exact ⟨z, its, n, r, r.length, e⟩

theorem notLongL {n : Nat} (h : n ≤ sizeLine) : Builtin.List.listTooLong n = false := by
  unfold Builtin.List.listTooLong
  exact decide_eq_false (by omega)
end

section
variable {X : Cx}

noncomputable def rAppend : V → List V → Hp → VK → Prop := fun x vs H Q => ∃ l xs y, x = .ref l ∧ vs = [y] ∧ H l = some (.lst xs) ∧ xs.length < sizeLine ∧ Q .non (upd H l (.lst (xs ++ [y])))
theorem mt_append : MtM X "list.append" rAppend := by
  intro pins s σ H x vs v us Q I rx rv h
  obtain ⟨l, xs, y, rfl, rfl, hH, hz, q⟩ := h
  cases rx
  obtain ⟨u, rfl, ru⟩ := rv.one
  obtain ⟨z, its, n, r, hl, e⟩ := I.lstM hH
  refine call_meets F.slot_list_append ⟨_, e, rfl⟩ F.entry_list_append (F.args_list_append_2 _ _) (PySem.list_append l its.toArray n u (by rw [List.size_toArray]; omega)) ⟨e, ?_⟩
  refine ⟨.non, _, I.lset (its' := its ++ [u]) hH e (by simp) (r.append (.cons ru .nil)) ?_, rfl, q⟩
  rw [List.length_append, List.length_singleton]
  omega

noncomputable def rExtend : V → List V → Hp → VK → Prop := fun x vs H Q => ∃ l b xs zs, x = .ref l ∧ vs = [.ref b] ∧ H l = some (.lst xs) ∧ H b = some (.lst zs) ∧ xs.length + zs.length ≤ sizeLine ∧ Q .non (upd H l (.lst (xs ++ zs)))
theorem mt_extend : MtM X "list.extend" rExtend := by
  intro pins s σ H x vs v us Q I rx rv h
  obtain ⟨l, b, xs, zs, rfl, rfl, hH, hB, hz, q⟩ := h
  cases rx
  obtain ⟨u, rfl, ru⟩ := rv.one
  cases ru
  obtain ⟨z, its, n, r, hl, e⟩ := I.lstM hH
  obtain ⟨z2, its2, n2, r2, hl2, e2⟩ := I.lstM hB
  have hsz : its.toArray.size + its2.toArray.size ≤ sizeLine := by rw [List.size_toArray, List.size_toArray]; omega
  have hlong : ¬ (!its.toArray.isEmpty && Builtin.List.listTooLong (its.toArray.size + its2.toArray.size)) = true := by
    rw [notLongL hsz, Bool.and_false]
    exact Bool.false_ne_true
  refine call_meets F.slot_list_extend ⟨_, e, rfl⟩ F.entry_list_extend (F.args_list_extend_2 _ _)
    (AutoSeq1.list_extend_list_list_0 l its.toArray n b its2.toArray n2 hlong (by rw [List.size_toArray]; omega) (by omega)) ⟨e, e2, ?_⟩
  refine ⟨.non, _, I.lset (its' := its ++ its2) hH e (by simp) (r.append r2) ?_, rfl, q⟩
  rw [List.length_append]
  omega

noncomputable def rPop : V → List V → Hp → VK → Prop := fun x vs H Q => ∃ l xs y, x = .ref l ∧ vs = [] ∧ H l = some (.lst xs) ∧ xs[xs.length - 1]? = some y ∧ Q y (upd H l (.lst xs.dropLast))
noncomputable def rPopAt : V → List V → Hp → VK → Prop := fun x vs H Q => ∃ l xs i k y, x = .ref l ∧ vs = [.int i] ∧ H l = some (.lst xs) ∧ -(2 ^ 63) ≤ i ∧ i < 2 ^ 63 ∧ seqIndex? i xs.length = some k ∧ xs[k]? = some y ∧ Q y (upd H l (.lst (xs.eraseIdx k)))
noncomputable def rReverse : V → List V → Hp → VK → Prop := fun x vs H Q => ∃ l xs, x = .ref l ∧ vs = [] ∧ H l = some (.lst xs) ∧ Q .non (upd H l (.lst xs.reverse))
noncomputable def rClear : V → List V → Hp → VK → Prop := fun x vs H Q => ∃ l xs, x = .ref l ∧ vs = [] ∧ H l = some (.lst xs) ∧ Q .non (upd H l (.lst []))
noncomputable def rCat : R2 := fun x y H Q => ∃ l b xs zs, x = .ref l ∧ y = .ref b ∧ H l = some (.lst xs) ∧ H b = some (.lst zs) ∧ xs.length + zs.length ≤ sizeLine ∧ ∀ p, H p = none → Q (.ref p) (upd H p (.lst (xs ++ zs)))
theorem op_cat : OpR X (binaryOp .Add) rCat := by
  intro pins s σ H x y v u Q I rx ry h
  obtain ⟨l, b, xs, zs, rfl, rfl, hH, hB, hz, q⟩ := h
  cases rx
  cases ry
  obtain ⟨z, its, n, r, hl, e⟩ := I.lstM hH
  obtain ⟨z2, its2, n2, r2, hl2, e2⟩ := I.lstM hB
  refine PySem.P.add_list e e2 ?_ (by rw [List.size_toArray, List.size_toArray]; omega)
  have ea : its.toArray ++ its2.toArray = (its ++ its2).toArray := by simp
  rw [ea]
  exact ⟨.ref _, _, I.lnew (t' := s.toks) (r.append r2) (by rw [List.length_append]; omega), rfl, q _ I.fresh⟩
noncomputable def rRep : R2 := fun x y H Q => ∃ l k xs, x = .ref l ∧ y = .int k ∧ H l = some (.lst xs) ∧ -(2 ^ 63) ≤ k ∧ k < 2 ^ 63 ∧ xs.length * k.toNat ≤ sizeLine ∧
  ∀ p, H p = none → Q (.ref p) (upd H p (.lst (List.replicate k.toNat xs).flatten))
end

section
variable {prog : Program} {w : World} {A : Around} {E : Value → Shared → Prop} {s : Shared}
set_option maxRecDepth 100000 in
end

section
variable {X : Cx}
end
end L2

namespace L2
open PySem PySem.Spec PyProof.Rows

theorem Vals.bls : ∀ {bs : List Bool} {us : List Value}, Vals (bs.map V.bl) us → us = bs.map Value.bool
  | [], us, h => by
    rw [List.map_nil] at h
    cases h
    rfl
  | b :: bs, us, h => by
    rw [List.map_cons] at h
    cases h with
    | cons r t =>
      cases r
      rw [Vals.bls t, List.map_cons]
theorem Vals.ref1 {a : Addr} {us : List Value} (r : Vals [V.ref a] us) : us = [Value.ref a] := by
  cases r with
  | cons r t =>
    cases t
    cases r
    rfl
section
variable {prog : Program} {w : World} {A : Around} {E : Value → Shared → Prop} {s : Shared} {l : Addr} {its : List Value} {ns : List Int} {Q : Value → Shared → Prop}
end

section
variable {X : Cx}
noncomputable def rSum (K : PySem.W.Frag) : List V → Hp → VK → Prop := fun vs H Q => ∃ (a : Addr) (ns : List Int), vs = [V.ref a] ∧ SqL K H a (ns.map V.int) ∧ Q (.int ns.sum) H
noncomputable def rMax (K : PySem.W.Frag) : List V → Hp → VK → Prop := fun vs H Q => ∃ (a : Addr) (ns : List Int), vs = [V.ref a] ∧ SqL K H a (ns.map V.int) ∧ 0 < ns.length ∧ ∀ m, m ∈ ns → (∀ y, y ∈ ns → y ≤ m) → Q (.int m) H
noncomputable def rMin (K : PySem.W.Frag) : List V → Hp → VK → Prop := fun vs H Q => ∃ (a : Addr) (ns : List Int), vs = [V.ref a] ∧ SqL K H a (ns.map V.int) ∧ 0 < ns.length ∧ ∀ m, m ∈ ns → (∀ y, y ∈ ns → m ≤ y) → Q (.int m) H
noncomputable def rSorted (K : PySem.W.Frag) : List V → Hp → VK → Prop := fun vs H Q => ∃ (a : Addr) (ns : List Int), vs = [V.ref a] ∧ SqL K H a (ns.map V.int) ∧ ns.length < 64 ∧
  ∀ (ns' : List Int) (p : Addr), ns'.Perm ns → ns'.Pairwise (· ≤ ·) → H p = none → Q (.ref p) (upd H p (.lst (ns'.map V.int)))
noncomputable def rSortedS (K : PySem.W.Frag) : List V → Hp → VK → Prop := fun vs H Q => ∃ (a : Addr) (xs : List Str), vs = [V.ref a] ∧ SqL K H a (xs.map V.str) ∧ xs.length < 64 ∧
  ∀ (ys : List Str) (p : Addr), ys.Perm xs → sortedS ys = true → H p = none → Q (.ref p) (upd H p (.lst (ys.map V.str)))
noncomputable def rSort : V → List V → Hp → VK → Prop := fun x xs H Q => ∃ (a : Addr) (ns : List Int), x = V.ref a ∧ xs = [] ∧ H a = some (.lst (ns.map V.int)) ∧ ns.length < 64 ∧
  ∀ ns' : List Int, ns'.Perm ns → ns'.Pairwise (· ≤ ·) → Q .non (upd H a (.lst (ns'.map V.int)))
end

section
variable {X : Cx}
noncomputable def rIndex (K : PySem.W.Frag) : V → List V → Hp → VK → Prop := fun x xs H Q => ∃ (a : Addr) (ys : List V) (y : V) (j : Nat) (z : V), x = V.ref a ∧ xs = [y] ∧ SqL K H a ys ∧ flatV y = true ∧ ys.all flatV = true ∧ ys[j]? = some z ∧ eqV z y = true ∧
  (∀ (m : Nat) (z' : V), m < j → ys[m]? = some z' → eqV z' y = false) ∧ Q (.int (j : Nat)) H
end

section
variable {X : Cx}
end

theorem iter_any {prog : Program} {w : World} {A : Around} {E : Value → Shared → Prop} {s : Shared} {l : Addr} {items : Array Value} {Q : Value → Shared → Prop} (hl : s.heap.IsList l items)
    (h : ∀ s₂ : Shared, s₂ = { s with heap := s.heap.push { cls := .type "list_iterator", data := .fields #[.ref l, .int 0 0] } } →
      (s₂.heap.IsListIter s.heap.objs.size l 0 ∧ s₂.heap.IsList l items) → l ≠ s.heap.objs.size → Q (.ref s.heap.objs.size) s₂) : wpAny (model prog w) A (pyIter (.ref l)) Q E s := by
  have hlt : l < s.heap.objs.size := by obtain ⟨_, e, _⟩ := hl; exact Heap.lt_size e
  exact wpAny_pyIter_list hl (h _ rfl ⟨⟨_, Heap.get?_push_size _ rfl, rfl, rfl⟩, hl.push _⟩ (Nat.ne_of_lt hlt))
theorem truth_bools {prog : Program} {w : World} {A : Around} {bs : List Bool} {its : List Value} (e : its = bs.map Value.bool) :
    TruthOf prog w A (fun i v => its.toArray[i]? = some v) (fun i => bs.getD i false) := fun i v s Q E hv hq => by
  have hv' : its[i]? = some v := by simpa using hv
  rw [e, List.getElem?_map] at hv'
  obtain ⟨b, hb, rfl⟩ := Option.map_eq_some_iff.mp hv'
  have hg : bs.getD i false = b := by rw [List.getD_eq_getElem?_getD, hb] <;> rfl
  have hq' : Q (bs.getD i false) s := hq
  rw [hg] at hq'
  exact wpAny_truthy_bool hq'
theorem any_range : ∀ bs : List Bool, (List.range bs.length).any (fun i => bs.getD i false) = bs.any id
  | [] => rfl
  | b :: bs => by
    rw [List.length_cons, List.range_succ_eq_map, List.any_cons, List.any_map, List.any_cons, ← any_range bs]
    all_goals rfl
theorem all_range : ∀ bs : List Bool, (List.range bs.length).all (fun i => bs.getD i false) = bs.all id
  | [] => rfl
  | b :: bs => by
    rw [List.length_cons, List.range_succ_eq_map, List.all_cons, List.all_map, List.all_cons, ← all_range bs]
    all_goals rfl
section
variable {X : Cx}
noncomputable def rAny (K : PySem.W.Frag) : List V → Hp → VK → Prop := fun vs H Q => ∃ (a : Addr) (bs : List Bool), vs = [V.ref a] ∧ SqL K H a (bs.map V.bl) ∧ Q (.bl (bs.any id)) H
noncomputable def rAll (K : PySem.W.Frag) : List V → Hp → VK → Prop := fun vs H Q => ∃ (a : Addr) (bs : List Bool), vs = [V.ref a] ∧ SqL K H a (bs.map V.bl) ∧ Q (.bl (bs.all id)) H
theorem cr_all (hc : X.calm = true) : CallR X (.builtin "all") (rAll X.K) := by
  intro pins s σ H vs us Q I r h
  obtain ⟨a, bs, rfl, hs, q⟩ := h
  obtain ⟨its, rv, hl, _⟩ := I.list hs
  rw [Vals.ref1 r]
  have hb := rv.bls
  refine call_all_walk (iter_any hl.isList fun s₂ e2 st hne => ?_)
  subst e2
  refine ⟨_, _, _, _, _, _, _, rfl, Walks.list (A := X.A.in1) (I.ok.hd hc) _ a hne its.toArray, st, truth_bools hb, fun h' tk hk => ?_⟩
  refine ⟨.bl _, H, I.kept fun b o eo => hk b o (fun hmem => ?_) (Heap.get?_push_of_some _ eo), ?_, q⟩
  · rcases List.mem_cons.mp hmem with e1 | hmem
    · exact absurd (e1 ▸ Heap.lt_size eo) (Nat.lt_irrefl _)
    · cases hmem
  · show Value.bool _ = Value.bool _
    rw [← all_range, hb, List.size_toArray, List.length_map]
end

section
variable {X : Cx} {pins : List (Addr × Obj)} {σ : St} {H : Hp} {s : Shared}
end
section
variable {X : Cx}
end
end L2

namespace L2
open PySem PySem.Spec PyProof.Rows
noncomputable abbrev CellAt (h : Heap) (c : Addr) (v : Option Value) : Prop := h.IsCell c v
noncomputable def relS (scope sc : Scope) : Scope :=
  { scope with names := scope.names.map fun (n, k) => if (k == .free && sc.kind == .function && sc.names.lookup n == some .cell) then (n, .cell) else (n, k) }

noncomputable def cloFrom (cells : List (Str × Addr)) : List (Str × NameKind) → List (Str × Addr) → List (Str × Addr)
  | [], acc => acc
  | (n, k) :: r, acc => if k == .free then cloFrom cells r ((n, (cells.lookup n).getD 0) :: acc) else cloFrom cells r acc

theorem closure_loop (env : Env) (f : Str × NameKind → List (Str × Addr) → Sem (ForInStep (List (Str × Addr))))
    (hf : ∀ n k c, f (n, k) c = if k == .free then (do let a ← cellOf env n; pure (.yield ((n, a) :: c))) else pure (.yield c)) :
    ∀ (names : List (Str × NameKind)) (acc : List (Str × Addr)), (∀ y ∈ names, y.2 = .free → ∃ c, env.cells.lookup y.1 = some c) → forIn names acc f = pure (cloFrom env.cells names acc)
  | [], acc, _ => by rw [List.forIn_nil]; rfl
  | (n, k) :: r, acc, h => by
    rw [List.forIn_cons, hf]
    have ih := fun acc => closure_loop env f hf r acc fun y hy => h y (List.mem_cons_of_mem _ hy)
    unfold cloFrom
    by_cases hk : (k == NameKind.free) = true
    · rw [if_pos hk, if_pos hk]
      obtain ⟨c, hc⟩ := h (n, k) List.mem_cons_self (by simpa using hk)
      have e : cellOf env n = pure c := by unfold cellOf; rw [hc]
      rw [e]
      have e2 : (env.cells.lookup n).getD 0 = c := by rw [hc]; rfl
      rw [e2]
      exact ih _
    · rw [if_neg hk, if_neg hk]
      exact ih _
theorem closure_ok {scope : Scope} {env : Env} (h : ∀ y ∈ scope.names, y.2 = .free → ∃ c, env.cells.lookup y.1 = some c) : closureFor scope env = pure (cloFrom env.cells scope.names []) := by
  simp only [closureFor]
  rw [closure_loop env _ (fun n k c => rfl) scope.names [] h]
  rfl

theorem mem_lookup {α : Type} : ∀ {l : List (Str × α)} {n : Str} {c : α}, (n, c) ∈ l → ∃ c', l.lookup n = some c'
  | (k, v) :: r, n, c, h => by
    rw [List.lookup_cons]
    cases hb : n == k with
    | true => exact ⟨_, rfl⟩
    | false =>
      rcases List.mem_cons.mp h with e | h
      · cases e; simp at hb
      · exact mem_lookup h

theorem cloFrom_mem {cells : List (Str × Addr)} : ∀ {names : List (Str × NameKind)} {acc : List (Str × Addr)} {n : Str} {c : Addr}, (n, c) ∈ cloFrom cells names acc → (n, c) ∈ acc ∨ ((n, .free) ∈ names ∧ c = (cells.lookup n).getD 0)
  | [], _, _, _, h => .inl h
  | (m, k) :: r, acc, n, c, h => by
    unfold cloFrom at h
    split at h
    · rename_i hk
      have hk : k = .free := by simpa using hk
      rcases cloFrom_mem h with h | ⟨h1, h2⟩
      · rcases List.mem_cons.mp h with e | h
        · cases e; exact .inr ⟨hk ▸ List.mem_cons_self, rfl⟩
        · exact .inl h
      · exact .inr ⟨List.mem_cons_of_mem _ h1, h2⟩
    · rcases cloFrom_mem h with h | ⟨h1, h2⟩
      · exact .inl h
      · exact .inr ⟨List.mem_cons_of_mem _ h1, h2⟩
theorem cloFrom_acc {cells : List (Str × Addr)} : ∀ {names : List (Str × NameKind)} {acc : List (Str × Addr)} {p : Str × Addr}, p ∈ acc → p ∈ cloFrom cells names acc
  | [], _, _, h => h
  | (m, k) :: r, acc, p, h => by
    unfold cloFrom
    split
    · exact cloFrom_acc (List.mem_cons_of_mem _ h)
    · exact cloFrom_acc h
theorem cloFrom_has {cells : List (Str × Addr)} : ∀ {names : List (Str × NameKind)} {acc : List (Str × Addr)} {n : Str}, (n, .free) ∈ names → (n, (cells.lookup n).getD 0) ∈ cloFrom cells names acc
  | (m, k) :: r, acc, n, h => by
    unfold cloFrom
    rcases List.mem_cons.mp h with e | h
    · cases e
      exact cloFrom_acc List.mem_cons_self
    · split
      · exact cloFrom_has h
      · exact cloFrom_has h

theorem cells_mem : ∀ {names : List (Str × NameKind)} {h : Heap} {acc : List (Str × Addr)} {x : Str} {c : Addr}, (x, c) ∈ cellsFrom h.objs.size names acc →
    (x, c) ∈ acc ∨ ((x, .cell) ∈ names ∧ h.objs.size ≤ c ∧ CellAt (pushCells h names) c none)
  | [], _, _, _, _, h => .inl h
  | (n, k) :: r, h, acc, x, c, hm => by
    unfold cellsFrom at hm
    unfold pushCells
    split at hm
    · rename_i hk
      rw [if_pos hk]
      have hk : k = .cell := by simpa using hk
      rw [← Heap.size_push h { cls := .type "cell", data := .cell none }] at hm
      rcases cells_mem hm with hm | ⟨h1, h2, h3⟩
      · rcases List.mem_cons.mp hm with e | hm
        · cases e
          exact .inr ⟨hk ▸ List.mem_cons_self, Nat.le_refl _, _, pushCells_keeps r _ _ _ (Heap.get?_push_size _ rfl), rfl⟩
        · exact .inl hm
      · rw [Heap.size_push] at h2
        exact .inr ⟨List.mem_cons_of_mem _ h1, Nat.le_of_succ_le h2, h3⟩
    · rename_i hk
      rw [if_neg hk]
      rcases cells_mem hm with hm | ⟨h1, h2, h3⟩
      · exact .inl hm
      · exact .inr ⟨List.mem_cons_of_mem _ h1, h2, h3⟩
theorem cells_acc : ∀ {names : List (Str × NameKind)} {n : Nat} {acc : List (Str × Addr)} {p : Str × Addr}, p ∈ acc → p ∈ cellsFrom n names acc
  | [], _, _, _, h => h
  | (m, k) :: r, n, acc, p, h => by
    unfold cellsFrom
    split
    · exact cells_acc (List.mem_cons_of_mem _ h)
    · exact cells_acc h
theorem cells_has : ∀ {names : List (Str × NameKind)} {n : Nat} {acc : List (Str × Addr)} {x : Str}, (x, .cell) ∈ names → ∃ c, (x, c) ∈ cellsFrom n names acc
  | (m, k) :: r, n, acc, x, h => by
    unfold cellsFrom
    rcases List.mem_cons.mp h with e | h
    · cases e
      exact ⟨n, cells_acc List.mem_cons_self⟩
    · split
      · exact cells_has h
      · exact cells_has h
theorem cells_inj : ∀ {names : List (Str × NameKind)} {h : Heap} {acc : List (Str × Addr)} {x y : Str} {c : Addr}, (∀ p ∈ acc, p.2 < h.objs.size) → (∀ x y c, (x, c) ∈ acc → (y, c) ∈ acc → x = y) →
    (x, c) ∈ cellsFrom h.objs.size names acc → (y, c) ∈ cellsFrom h.objs.size names acc → x = y
  | [], _, _, _, _, _, _, hi, h1, h2 => hi _ _ _ h1 h2
  | (n, k) :: r, h, acc, x, y, c, hl, hi, h1, h2 => by
    unfold cellsFrom at h1 h2
    split at h1
    · rename_i hk
      rw [if_pos hk] at h2
      rw [← Heap.size_push h { cls := .type "cell", data := .cell none }] at h1 h2
      refine cells_inj (h := h.push _) (fun p hp => ?_) (fun x y c a b => ?_) h1 h2
      · rw [Heap.size_push]
        rcases List.mem_cons.mp hp with rfl | hp
        · exact Nat.lt_succ_self _
        · exact Nat.lt_succ_of_lt (hl p hp)
      · rcases List.mem_cons.mp a with e | a <;> rcases List.mem_cons.mp b with e' | b
        · cases e; cases e'; rfl
        · cases e; exact absurd (hl _ b) (Nat.lt_irrefl _)
        · cases e'; exact absurd (hl _ a) (Nat.lt_irrefl _)
        · exact hi _ _ _ a b
    · rename_i hk
      rw [if_neg hk] at h2
      exact cells_inj hl hi h1 h2

theorem newEnv_comp {M : Model} {A : Around} {E : Value → Shared → Prop} {s : Shared} {scope : Scope} {globals : Addr} {closure : List (Str × Addr)} {qual : Str} {func : Option Addr} {code : Value} {around : Env} {builtins : Addr} {Q : Env → Shared → Prop}
    (h : Q (newEnv scope s.heap.objs.size globals (cellsFrom (s.heap.objs.size + 1) scope.names closure) qual func code (some around) builtins)
      { s with heap := pushCells (s.heap.push { cls := .type "dict", data := .dict #[] }) scope.names }) :
    wpAny M A (newFunctionEnv scope globals closure [] qual func code (some around) builtins) Q E s := by
  simp only [newFunctionEnv, Option.isSome_some, if_true]
  refine wpAny_bind (wpAny_alloc ?_)
  refine wpAny_bind (wpAny_layCells _ (fun n k c => rfl) scope.names closure _ _ ?_)
  rw [show ({ s with heap := s.heap.push { cls := .type "dict", data := .dict #[] } } : Shared).heap.objs.size = s.heap.objs.size + 1 from Heap.size_push ..]
  rw [List.forIn_nil]
  exact wpAny_bind (wpAny_pure (wpAny_pure h))

theorem lookup_relS {sc : Scope} : ∀ {names : List (Str × NameKind)} {x : Str} {k : NameKind},
    (names.map fun (n, k) => if (k == NameKind.free && sc.kind == .function && sc.names.lookup n == some .cell) then (n, NameKind.cell) else (n, k)).lookup x = some k →
    ∃ k', names.lookup x = some k' ∧ (k = k' ∨ (k' = .free ∧ k = .cell))
  | [], _, _, h => by simp at h
  | (n, k₀) :: r, x, k, h => by
    have ih := @lookup_relS sc r x k
    have h' : List.lookup x ((if (k₀ == NameKind.free && sc.kind == .function && sc.names.lookup n == some .cell) = true then (n, NameKind.cell) else (n, k₀)) :: (r.map _)) = some k := h
    cases hx : x == n with
    | true =>
      simp only [List.lookup_cons, hx]
      by_cases hc : (k₀ == NameKind.free && sc.kind == .function && sc.names.lookup n == some .cell) = true
      · rw [if_pos hc] at h'
        simp only [List.lookup_cons, hx] at h'
        cases h'
        simp only [Bool.and_eq_true, beq_iff_eq] at hc
        exact ⟨k₀, rfl, .inr ⟨hc.1.1, rfl⟩⟩
      · rw [if_neg hc] at h'
        simp only [List.lookup_cons, hx] at h'
        cases h'
        exact ⟨_, rfl, .inl rfl⟩
    | false =>
      simp only [List.lookup_cons, hx]
      by_cases hc : (k₀ == NameKind.free && sc.kind == .function && sc.names.lookup n == some .cell) = true
      · rw [if_pos hc] at h'
        simp only [List.lookup_cons, hx] at h'
        exact ih h'
      · rw [if_neg hc] at h'
        simp only [List.lookup_cons, hx] at h'
        exact ih h'
structure BlkOk (N : List Str) (sc scope : Scope) (own : List (Str × Nat)) : Prop where
  kind : scope.kind = .function
  uniq : ∀ y ∈ scope.names, scope.names.lookup y.1 = some y.2
  ix : ∀ p ∈ own, N[p.2]? = some p.1
  free : ∀ y ∈ scope.names, y.2 = .free → sc.names.lookup y.1 = some .cell ∨ sc.names.lookup y.1 = some .free
  own : ∀ y ∈ scope.names, y.2 = .local ∨ y.2 = .cell → y.1 ∈ own.map (·.1) ∨ y.1 ∉ N
noncomputable def wipe (σ : St) : List Nat → St
  | [] => σ
  | v :: vs => (wipe σ vs).set v none
theorem wipe_length (σ : St) : ∀ vs : List Nat, (wipe σ vs).length = σ.length
  | [] => rfl
  | v :: vs => by unfold wipe; rw [List.length_set, wipe_length σ vs]
theorem wipe_some {σ : St} {i : Nat} {x : V} : ∀ {vs : List Nat}, (wipe σ vs)[i]? = some (some x) → σ[i]? = some (some x) ∧ i ∉ vs
  | [], h => ⟨h, by simp⟩
  | v :: vs, h => by
    unfold wipe at h
    by_cases hi : v = i
    · subst hi
      by_cases hv : v < (wipe σ vs).length
      · rw [List.getElem?_set_self hv] at h; cases h
      · rw [List.getElem?_eq_none (by simpa using hv)] at h; cases h
    · rw [List.getElem?_set_ne hi] at h
      obtain ⟨h1, h2⟩ := wipe_some h
      exact ⟨h1, by simp only [List.mem_cons, not_or]; exact ⟨fun e => hi e.symm, h2⟩⟩

noncomputable abbrev Cx.blk (X : Cx) (s : Shared) (H : Hp) (scope : Scope) (cenv : Env) (fp : List Addr) : Cx := { X with s_0 := s, H_0 := H, env := cenv, outer := X.stack, ex := fp, fn := fun x => scope.names.lookup x == some .cell, pn := [], xe := fun _ _ => False }
section
variable {X : Cx} {pins : List (Addr × Obj)} {σ : St} {H : Hp} {s : Shared}
theorem block_start {scope : Scope} {own : List (Str × Nat)} {fp : List Addr} (I : Inv X pins σ H s) (ok : BlkOk X.N X.env.scope scope own) (hN : X.N.Nodup) (hfp : ∀ b ∈ fp, FpOk X pins H b ∧ b < s.heap.objs.size) :
    Inv (X.blk s H scope (compEnvC scope (cellsFrom (s.heap.objs.size + 1) scope.names (cloFrom X.env.cells scope.names [])) s.heap.objs.size X.env) fp) [] (wipe σ (own.map (·.2))) H { s with heap := pushCells (s.heap.push { cls := .type "dict", data := .dict #[] }) scope.names } := by
  have hfree : ∀ y ∈ scope.names, y.2 = .free → ∃ c, X.env.cells.lookup y.1 = some c := fun y hy e => by
    rcases ok.free y hy e with k | k
    · exact I.ok.has _ (.inl k)
    · exact I.ok.has _ (.inr k)
  generalize hcenv : compEnvC scope (cellsFrom (s.heap.objs.size + 1) scope.names (cloFrom X.env.cells scope.names [])) s.heap.objs.size X.env = cenv
  have kp : ∀ b o, s.heap.get? b = some o → (pushCells (s.heap.push { cls := .type "dict", data := .dict #[] }) scope.names).get? b = some o := fun b o e => pushCells_keeps _ _ _ _ (Heap.get?_push_of_some _ e)
  have hL : cenv.locals = s.heap.objs.size := by rw [← hcenv]; rfl
  have hcl : cenv.cells = cellsFrom (s.heap.objs.size + 1) scope.names (cloFrom X.env.cells scope.names []) := by rw [← hcenv]; rfl
  have hsc : cenv.scope = relS scope X.env.scope := by rw [← hcenv]; rfl
  rw [← Heap.size_push s.heap { cls := .type "dict", data := .dict #[] }] at hcl
  have cm : ∀ {y c}, (y, c) ∈ cloFrom X.env.cells scope.names [] → X.env.cells.lookup y = some c ∧ c < s.heap.objs.size := fun {y c} hm => by
    rcases cloFrom_mem hm with hm | ⟨h1, rfl⟩
    · cases hm
    · obtain ⟨c, hc⟩ := hfree _ h1 rfl
      rw [hc]
      obtain ⟨w, z⟩ := I.cell _ _ hc
      exact ⟨rfl, z.lt⟩
  have mem : ∀ {y c}, cenv.cells.lookup y = some c → (X.env.cells.lookup y = some c ∧ c < s.heap.objs.size) ∨ (s.heap.objs.size + 1 ≤ c ∧ CellAt (pushCells (s.heap.push { cls := .type "dict", data := .dict #[] }) scope.names) c none) := fun {y c} e => by
    rw [hcl] at e
    rcases cells_mem (PySem.mem_of_lookup e) with hm | ⟨_, h2, h3⟩
    · exact .inl (cm hm)
    · rw [Heap.size_push] at h2; exact .inr ⟨h2, h3⟩
  have look : ∀ {y}, scope.names.lookup y = some .free → ∃ c, cenv.cells.lookup y = some c ∧ X.env.cells.lookup y = some c := fun {y} hl => by
    have hy : (y, NameKind.free) ∈ scope.names := PySem.mem_of_lookup hl
    obtain ⟨c', e'⟩ := mem_lookup (cells_acc (names := scope.names) (n := (s.heap.push { cls := .type "dict", data := .dict #[] }).objs.size) (cloFrom_has (cells := X.env.cells) (acc := []) hy))
    rw [← hcl] at e'
    refine ⟨c', e', ?_⟩
    rw [hcl] at e'
    rcases cells_mem (PySem.mem_of_lookup e') with hm | ⟨h1, _, _⟩
    · exact (cm hm).1
    · have := ok.uniq _ h1
      rw [hl] at this; cases this
  have okB : (X.blk s H scope cenv fp).Ok := by
    refine ⟨I.ok.mod, by show cenv.scope.kind = _; rw [hsc]; exact ok.kind, by show cenv.globals = _; rw [← hcenv]; exact I.ok.glob, by show cenv.builtins = _; rw [← hcenv]; exact I.ok.blt, by show s.heap.objs.size ≤ cenv.locals; rw [hL]; exact Nat.le_refl _,
      fun y z c e1 e2 => ?_, fun y hy => ?_, fun y c z e => ?_, I.ok.hd, I.ok.frames, .inl rfl, fun b hb => ⟨?_, fun y c e z => ?_⟩, I.bs, Nat.le_trans I.ok.bsz I.sz, fun b o e hb => ?_, fun b hb z => ?_, I.stack, I.stkFree⟩
    · have e1 : cenv.cells.lookup y = some c := e1
      have e2 : cenv.cells.lookup z = some c := e2
      rw [hcl] at e1 e2
      refine cells_inj (fun p hp => ?_) (fun y z c a b => I.ok.inj y z c (cm a).1 (cm b).1) (PySem.mem_of_lookup e1) (PySem.mem_of_lookup e2)
      rw [Heap.size_push]
      exact Nat.lt_succ_of_lt (cm (y := p.1) (c := p.2) hp).2
    · show ∃ c, cenv.cells.lookup y = some c
      have key : ∀ k, cenv.kindOf y = some k → (k = .cell ∨ k = .free) → ∃ c, cenv.cells.lookup y = some c := fun k hk hk' => by
        unfold Env.kindOf at hk
        rw [hsc] at hk
        obtain ⟨k', e, r⟩ := lookup_relS hk
        have : k' = .cell ∨ k' = .free := by
          rcases r with rfl | ⟨rfl, _⟩
          · exact hk'
          · exact .inr rfl
        rcases this with rfl | rfl
        · obtain ⟨c, hm⟩ := cells_has (n := (s.heap.push { cls := .type "dict", data := .dict #[] }).objs.size) (acc := cloFrom X.env.cells scope.names []) (PySem.mem_of_lookup e)
          obtain ⟨c', e'⟩ := mem_lookup hm
          exact ⟨c', by rw [hcl]; exact e'⟩
        · obtain ⟨c, h1, _⟩ := look e
          exact ⟨c, h1⟩
      rcases hy with hy | hy
      · exact key _ hy (.inl rfl)
      · exact key _ hy (.inr rfl)
    · have z : (scope.names.lookup y == some NameKind.cell) = true := z
      have z : scope.names.lookup y = some .cell := by simpa using z
      have e : cenv.cells.lookup y = some c := e
      rw [hcl] at e
      rcases cells_mem (PySem.mem_of_lookup e) with hm | ⟨_, h2, _⟩
      · rcases cloFrom_mem hm with hm | ⟨h1, _⟩
        · cases hm
        · have q := ok.uniq _ h1
          rw [z] at q; cases q
      · rw [Heap.size_push] at h2
        exact Nat.le_of_succ_le h2
    · show b ≠ cenv.locals
      rw [hL]; exact Nat.ne_of_lt (hfp b hb).2
    · have e : cenv.cells.lookup y = some c := e
      rcases mem e with ⟨h1, _⟩ | ⟨h1, _⟩
      · exact (hfp b hb).1.2.2.2.2.1 y c h1 z
      · have h2 : s.heap.objs.size + 1 ≤ b := by rw [← z]; exact h1
        exact absurd (Nat.lt_of_lt_of_le (hfp b hb).2 (Nat.le_of_succ_le h2)) (Nat.lt_irrefl _)
    · rcases (hfp b hb).1.2.2.2.1 with z | z
      · exact I.ok.noex b o e z
      · exact absurd (Nat.lt_of_lt_of_le (Heap.lt_size e) (Nat.le_trans I.ok.bsz z)) (Nat.lt_irrefl _)
    · rcases List.mem_cons.mp (I.stkSub b z) with z | z
      · exact (hfp b hb).1.2.1 z
      · exact (hfp b hb).1.2.2.1 z
  refine ⟨okB, rfl, I.bare, Un.kept kp, ⟨fun _ => none, ?_, fun i y av e1 e2 e3 => ?_⟩, fun y c e => ?_, ?_, fun y c e => ?_, fun p hp => ?_, I.hok.kept kp, by rw [wipe_length]; exact I.len⟩
  · show Heap.Ns _ cenv.locals _
    rw [hL]
    exact Heap.Ns.keeps (Heap.Ns.new ..) fun b o e => pushCells_keeps _ _ _ _ e
  · obtain ⟨e2, hne⟩ := wipe_some e2
    have hfr : scope.names.lookup y = some .free ∧ (cenv.kindOf y = some .cell ∨ cenv.kindOf y = some .free) := by
      have key : ∀ k, cenv.scope.names.lookup y = some k → k = .local ∨ k = .cell ∨ k = .free → scope.names.lookup y = some .free ∧ (cenv.kindOf y = some .cell ∨ cenv.kindOf y = some .free) := fun k hk hk' => by
        have hk0 := hk
        rw [hsc] at hk
        obtain ⟨k', e, r⟩ := lookup_relS hk
        have no : ¬ (k' = .local ∨ k' = .cell) := fun hh => by
          rcases ok.own _ (PySem.mem_of_lookup e) hh with e' | e'
          · obtain ⟨p, hp, hpy⟩ := List.mem_map.mp e'
            have e3 := ok.ix p hp
            have : p.1 = y := hpy
            rw [this] at e3
            exact hne (List.mem_map.mpr ⟨p, hp, nodup_ix hN e3 e1⟩)
          · exact e' (List.mem_of_getElem? e1)
        rcases r with rfl | ⟨rfl, rfl⟩
        · rcases hk' with rfl | rfl | rfl
          · exact absurd (.inl rfl) no
          · exact absurd (.inr rfl) no
          · exact ⟨e, .inr hk0⟩
        · exact ⟨e, .inl hk0⟩
      have e3 : Vis cenv.scope y := e3
      rcases e3 with e3 | e3 | e3
      · exact key _ e3 (.inl rfl)
      · exact key _ e3 (.inr (.inl rfl))
      · exact key _ e3 (.inr (.inr rfl))
    obtain ⟨m, hn, hl⟩ := I.loc
    have hvis : Vis X.env.scope y := (ok.free _ (PySem.mem_of_lookup hfr.1) rfl).elim (fun k => .inr (.inl k)) (fun k => .inr (.inr k))
    obtain ⟨w, r, q⟩ := hl i y av e1 e2 hvis
    refine ⟨w, r, .inr ⟨hfr.2, ?_⟩⟩
    obtain ⟨c, h1, h2⟩ := look hfr.1
    rcases q with ⟨k, _⟩ | ⟨_, c', e', z⟩
    · have k : X.env.scope.names.lookup y = some .local := k
      rcases ok.free _ (PySem.mem_of_lookup hfr.1) rfl with k' | k' <;> rw [show X.env.scope.names.lookup y = _ from k'] at k <;> cases k
    · rw [h2] at e'; cases e'
      exact ⟨c, h1, z.keeps kp⟩
  · have e : cenv.cells.lookup y = some c := e
    rcases mem e with ⟨h1, _⟩ | ⟨_, z⟩
    · obtain ⟨w, z⟩ := I.cell y c h1
      exact ⟨w, z.keeps kp⟩
    · exact ⟨_, z⟩
  · show H cenv.locals = none
    rw [hL]; exact I.hok.fresh (Nat.le_refl _)
  · have e : cenv.cells.lookup y = some c := e
    rcases mem e with ⟨h1, _⟩ | ⟨h1, _⟩
    · exact I.freeC y c h1
    · exact I.hok.fresh (Nat.le_of_succ_le h1)
  · exact absurd (show p ∈ ([] : List (Addr × Obj)) ++ [] from hp) (by simp)

theorem app_ok {E : Value → Shared → Prop} {D : Addr} {xs : List V} {y : V} {v : Value} {Q : Value → Shared → Prop} (I : Inv X pins σ H s) (hD : H D = some (.lst xs)) (hz : xs.length < sizeLine) (r : RelV y v)
    (h : ∀ s', Inv X pins σ (upd H D (.lst (xs ++ [y]))) s' → Q .none s') : wpAny (model X.prog X.w) X.A (call (.builtin "list.append") [.ref D, v]) Q E s := by
  obtain ⟨hz', its, n, ri, e⟩ := I.hok D _ hD
  have hl := ri.length
  refine append_at (hsz := by rw [List.size_toArray]; omega) e fun h' sb ho' => ?_
  refine h { s with heap := h' } (I.write (t' := s.toks) (by rw [hD]; trivial) (.inl rfl) (fun b u hb q => (sb.2 b hb).trans q) ⟨_, ho'⟩ ⟨by rw [List.length_append]; exact hz, its ++ [v], n + 1, ri.append (.cons r .nil), ?_⟩)
  rw [ho']
  simp

noncomputable def PTs (X : Cx) (ifs : List Expr) (t : TT) : Prop :=
  ∀ (pins : List (Addr × Obj)) (s : Shared) (σ : St) (H : Hp) (Q : Bool → Hp → Prop), Inv X pins σ H s → t σ H Q →
    wpAny (model X.prog X.w) X.A (forIn ifs true fun c r => if r = true then do let ok ← isTrue c X.env (eval c X.env); pure (ForInStep.yield ok) else pure (ForInStep.yield r)) (TP X pins σ Q) X.xe s
noncomputable def tYes : TT := fun _ H Q => Q true H
theorem pts_nil : PTs X [] tYes := fun _ _ _ H _ I h => wpAny_tests_nil ⟨H, I, h⟩
theorem pts_one {c : Expr} {t : TT} (h : PT X c t) : PTs X [c] t := fun pins s σ H Q I hw => wpAny_tests_one (h pins s σ H Q I hw)
end

theorem thnF {α : Type} {t : Sem α} {Q Q' : α → Shared → Prop} {M : Model} {A : Around} {E : Value → Shared → Prop} {s : Shared} (h : wpAny M A t Q (fun _ _ => False) s) (hQ : ∀ a s, Q a s → Q' a s) : wpAny M A t Q' E s := wpAny_mono h hQ fun _ _ z => False.elim z

theorem compLoop_any {prog : Program} {w : World} {A : Around} {R : Result → Shared → Prop} {s : Shared} {elt target iter : Expr} {ifs : List Expr} {scope : Scope} {pos : Pos} {it acc : Value} {env : Env} (I : Nat → Shared → Prop)
    (turn : ∀ n s, I n s → wpAny (model prog w) A (pyNext it) (fun r s₁ => match r with
      | none => R (.ok .next) s₁
      | some v => wpAny (model prog w) A (letOwnedTupleGo target it v) (fun _ s₁' => wpAny (model prog w) A (assign target env v) (fun _ s₂ =>
          wpAny (model prog w) A (forIn ifs true fun c r => if r = true then do let ok ← isTrue c env (eval c env); pure (ForInStep.yield ok) else pure (ForInStep.yield r)) (fun ok s₃ =>
            if ok = true then wpAny (model prog w) A (eval elt env) (fun x s₄ =>
              wpAny (model prog w) A (call (.builtin "list.append") [acc, x]) (fun _ s₅ => ∃ m, m < n ∧ I m s₅) (notedBy (model prog w) A env fun e s' => R (.error e) s') s₄) (notedBy (model prog w) A env fun e s' => R (.error e) s') s₃
            else ∃ m, m < n ∧ I m s₃) (notedBy (model prog w) A env fun e s' => R (.error e) s') s₂) (notedBy (model prog w) A env fun e s' => R (.error e) s') s₁') (notedBy (model prog w) A env fun e s' => R (.error e) s') s₁) (notedBy (model prog w) A env fun e s' => R (.error e) s') s)
    (n : Nat) (h : I n s) :
    codeAny (model prog w) A (.compLoop (.ListComp elt [⟨target, iter, ifs, 0⟩] scope pos) 0 it acc env) R s := by
  refine codeAny_loop rfl I (fun n s hI => ?_) n h
  show wpAny _ A ((compTurn (.ListComp elt [⟨target, iter, ifs, 0⟩] scope pos) 0 it acc env).onRaise (fun x => do noteFrame x env; theTreesLotGoes x)) _ _ s
  refine wpAny_noted ?_
  rw [compTurn_list]
  refine wpAny_bind (wpAny_standAt (wpAny_bind (wpAny_mono (turn n s hI) (fun r s₁ h₁ => ?_) fun _ _ h' => h')))
  cases r with
  | none => exact wpAny_pure h₁
  | some v =>
    refine wpAny_bind (wpAny_mono h₁ (fun _ s₁' h₁' => ?_) fun _ _ h' => h')
    refine wpAny_bind (wpAny_mono h₁' (fun _ s₂ h₂ => wpAny_bind (wpAny_mono h₂ (fun ok s₃ h₃ => ?_) fun _ _ h' => h')) fun _ _ h' => h')
    cases ok with
    | false => exact wpAny_pure ⟨rfl, h₃⟩
    | true =>
      exact wpAny_bind (wpAny_bind (wpAny_mono h₃ (fun x s₄ h₄ => wpAny_bind (wpAny_mono h₄ (fun _ s₅ h₅ => wpAny_pure (wpAny_pure ⟨rfl, h₅⟩)) fun _ _ h' => h')) fun _ _ h' => h'))

section
variable {X : Cx}
noncomputable def tLc (wi : TI) (g : TG) (tt : TT) (te : TE) (vs : List Nat) : TE := fun σ H Q => wi σ H fun J H1 => ∀ D, H1 D = none → ∃ W : Nat → Nat → Hp → Prop, (∃ m, W 0 m (upd H1 D (.lst []))) ∧ ∀ i m H, W i m H →
  (J.stop i H ∧ Q (.ref D) H) ∨ (J.go i H ∧ ∃ Nx : Hp → Prop, (∀ H', Nx H' → ∃ m', m' < m ∧ W (i + 1) m' H') ∧ ∀ x H', J.yld i H x H' → g x (wipe σ vs) H' fun σ2 H2 => wipe σ2 vs = wipe σ vs ∧ tt σ2 H2 fun b H3 =>
    if b = true then te σ2 H3 fun y H4 => ∃ acc, H4 D = some (.lst acc) ∧ acc.length < sizeLine ∧ Nx (upd H4 D (.lst (acc ++ [y]))) else Nx H3)
theorem lc_core {pins : List (Addr × Obj)} {s : Shared} {σ : St} {H : Hp} {Q : VK} {elt tg iter : Expr} {ifs : List Expr} {scope : Scope} {own : List (Str × Nat)} {pos pos' : Pos} {wi : TI} {g : TG} {tt : TT} {te : TE} {use : Option (Value → Sem Unit)} {Qf : Value → Shared → Prop}
    (hc : X.calm = true) (hN : X.N.Nodup) (I : Inv X pins σ H s) (hi : PI X tg iter wi) (ok : BlkOk X.N X.env.scope scope own)
    (hg : ∀ (s : Shared) (H : Hp) (C : Addr) (cl : List (Str × Addr)) (fp : List Addr), PG (X.blk s H scope (compEnvC scope cl C X.env) fp) tg g) (ht : ∀ (s : Shared) (H : Hp) (C : Addr) (cl : List (Str × Addr)) (fp : List Addr), PTs (X.blk s H scope (compEnvC scope cl C X.env) fp) ifs tt)
    (he : ∀ (s : Shared) (H : Hp) (C : Addr) (cl : List (Str × Addr)) (fp : List Addr), PE (X.blk s H scope (compEnvC scope cl C X.env) fp) elt te) (hs : ∀ x, foldedSetIterable iter X.env x = pure x)
    (h : tLc wi g tt te (own.map (·.2)) σ H Q)
    (hRR : ∀ D C s' m H', Inv X pins σ H' s' → Q (.ref D) H' → s'.heap.Ns C m → FpOk X pins H' C → compPost (model X.prog X.w) X.A X.xe use Qf (.ref D) C (.ok .next) s') :
    wpAny (model X.prog X.w) X.A (comprehension (.ListComp elt [⟨tg, iter, ifs, 0⟩] scope pos) scope X.env pos' (newList []) false (eval iter X.env) use) Qf X.xe s := by
  have hfree : ∀ y ∈ scope.names, y.2 = .free → ∃ c, X.env.cells.lookup y.1 = some c := fun y hy e => by
    rcases ok.free y hy e with k | k
    · exact I.ok.has _ (.inl k)
    · exact I.ok.has _ (.inr k)
  refine wpAny_comprehension_free (use := use) rfl hs (closure_ok hfree) ok.kind (fun y hy e => by rw [ok.uniq y hy, e])
    (thn (hi pins s σ H _ I h) fun xv s1 hx => thn hx fun itv s2 h2 => ?_)
  obtain ⟨it, fp, tn, J, H2, e, I2, T, st2, f2, q⟩ := h2
  subst e
  refine wpAny_newObj_type (newEnv_comp ?_) (by show 0 ≤ sizeLine; decide)
  generalize hD : s2.heap.objs.size = D
  have hDn : H2 D = none := I2.hok.fresh (Nat.le_of_eq hD)
  obtain ⟨W, ⟨m0, w0⟩, turn⟩ := q D hDn
  generalize hs3 : ({ s2 with heap := s2.heap.push { cls := .type "list", data := .seq ([] : List Value).toArray } } : Shared) = s3
  have I3 : Inv X pins σ (upd H2 D (.lst [])) s3 := by
    rw [← hs3]
    refine I2.laid (t' := s2.toks) (fun b o e => Heap.get?_push_of_some _ e) (Nat.le_of_eq hD) ⟨Nat.zero_le _, [], 0, .nil, ?_⟩
    rw [← hD]
    exact Heap.get?_push_size _ rfl
  have h3 : s3.heap = s2.heap.push { cls := .type "list", data := .seq ([] : List Value).toArray } := by rw [← hs3]
  have sz : ∀ b ∈ fp, b < s2.heap.objs.size := fun b hb => by
    obtain ⟨o, e, _⟩ := T.obj _ _ st2 b hb
    exact Heap.lt_size e
  have f3 : ∀ b ∈ fp, FpOk X pins (upd H2 D (.lst [])) b ∧ b < s3.heap.objs.size := fun b hb => by
    have hlt := sz b hb
    refine ⟨⟨?_, (f2 b hb).2⟩, by rw [h3, Heap.size_push]; exact Nat.lt_succ_of_lt hlt⟩
    rw [upd_ne (by rw [← hD]; exact Nat.ne_of_lt hlt)]
    exact (f2 b hb).1
  have st3 : tn 0 s3.heap := T.keep _ _ _ st2 fun b _ o e => by rw [h3]; exact Heap.get?_push_of_some _ e
  have I4 := block_start I3 ok hN f3
  have pg := hg s3 (upd H2 D (.lst [])) s3.heap.objs.size (cellsFrom (s3.heap.objs.size + 1) scope.names (cloFrom X.env.cells scope.names [])) fp
  have pt := ht s3 (upd H2 D (.lst [])) s3.heap.objs.size (cellsFrom (s3.heap.objs.size + 1) scope.names (cloFrom X.env.cells scope.names [])) fp
  have pe := he s3 (upd H2 D (.lst [])) s3.heap.objs.size (cellsFrom (s3.heap.objs.size + 1) scope.names (cloFrom X.env.cells scope.names [])) fp
  show codeAny _ _ (.compStart (.ListComp elt [⟨tg, iter, ifs, 0⟩] scope pos) 0 (.ref it) (.ref D) (compEnvC scope (cellsFrom (s3.heap.objs.size + 1) scope.names (cloFrom X.env.cells scope.names [])) s3.heap.objs.size X.env)) (compPost (model X.prog X.w) X.A X.xe use Qf (.ref D) s3.heap.objs.size) { s3 with heap := pushCells (s3.heap.push { cls := .type "dict", data := .dict #[] }) scope.names }
  have nfp : ∀ b ∈ fp, (upd H2 D (.lst [])) b = none := fun b hb => (f3 b hb).1.1
  generalize hce : compEnvC scope (cellsFrom (s3.heap.objs.size + 1) scope.names (cloFrom X.env.cells scope.names [])) s3.heap.objs.size X.env = ce at I4 pg pt pe ⊢
  have cL : ce.locals = s3.heap.objs.size := by subst hce; rfl
  generalize hH3 : upd H2 D (.lst []) = H3 at I3 I4 pg pt pe w0 nfp f3
  generalize hs4 : ({ s3 with heap := pushCells (s3.heap.push { cls := .type "dict", data := .dict #[] }) scope.names } : Shared) = s4 at I4 ⊢
  have st4 : tn 0 s4.heap := T.keep _ _ _ st3 fun b _ o e => by rw [← hs4]; exact pushCells_keeps _ _ _ _ (Heap.get?_push_of_some _ e)
  have stat : ∀ {σ' : St} {H' : Hp} {s' : Shared}, Inv (X.blk s3 H3 scope ce fp) [] σ' H' s' → (∀ b ∈ fp, H' b = none) → ∀ b ∈ fp, FpOk (X.blk s3 H3 scope ce fp) [] H' b := fun {σ' H' s'} I' hn b hb =>
    ⟨hn b hb, (I'.ok.exf b hb).1, I'.ok.exfs b hb, .inl hb, fun x c e => (I'.ok.exf b hb).2 x c e, fun p hp => absurd (show p ∈ ([] : List (Addr × Obj)) ++ [] from hp) (by simp)⟩
  have loop : codeAny (model X.prog X.w) X.A (.compLoop (.ListComp elt [⟨tg, iter, ifs, 0⟩] scope pos) 0 (.ref it) (.ref D) ce) (compPost (model X.prog X.w) X.A X.xe use Qf (.ref D) s3.heap.objs.size) s4 := by
    refine compLoop_any (fun n s' => ∃ i H', Inv (X.blk s3 H3 scope ce fp) [] (wipe σ (own.map (·.2))) H' s' ∧ tn i s'.heap ∧ (∀ b ∈ fp, H' b = none) ∧ W i n H') ?_ m0 ⟨0, H3, I4, st4, nfp, w0⟩
    rintro n s5 ⟨i, H5, I5, st5, n5, w5⟩
    rcases turn i n H5 w5 with ⟨stop, qq⟩ | ⟨go, Nx, hNx, step⟩
    · have td := T.done (X.blk s3 H3 scope ce fp) rfl rfl rfl hc i [] s5 _ H5 (fun _ _ => False) I5 (stat I5 n5) st5 stop
      refine thnF td fun r s6 ⟨hr, I6⟩ => ?_
      subst hr
      have I7 : Inv X pins σ H5 s6 := I3.call' (ch := fp) I6.os I6.base I6.hok I6.bare fun b hb => ⟨(f3 b hb).1.2.2.2.1, (f3 b hb).1.2.1, (f3 b hb).1.2.2.2.2.1, (f3 b hb).1.2.2.2.2.2⟩
      have nC : H5 s3.heap.objs.size = none := by
        have z : H5 ce.locals = none := I6.free
        rw [cL] at z
        exact z
      obtain ⟨m, hn, _⟩ := I6.loc
      have hn : s6.heap.Ns ce.locals m := hn
      rw [cL] at hn
      exact hRR D s3.heap.objs.size s6 m H5 I7 qq hn (I3.fpOk (Nat.le_refl _) nC)
    · have ti := T.item (X.blk s3 H3 scope ce fp) rfl rfl rfl hc i [] s5 _ H5 (fun _ _ => False) I5 (stat I5 n5) st5 go
      refine thnF ti fun r s6 ⟨u, hr, h6⟩ => ?_
      subst hr
      refine thnF h6 fun _ s7 ⟨x, H7, I7, r7, y7, st7, n7⟩ => ?_
      have I7' := I7.pinned (stat I7 n7) (T.obj _ _ st7)
      refine thnF (pg _ s7 _ H7 x u _ I7' r7 (step x H7 y7)) fun _ s8 ⟨σ8, H8, I8, hw8, q8⟩ => ?_
      refine thnF (pt _ s8 σ8 H8 _ I8 q8) fun b s9 ⟨H9, I9, q9⟩ => ?_
      have fin : ∀ {s' : Shared} {H' : Hp}, Inv (X.blk s3 H3 scope ce fp) ([] ++ pinsAt fp s7.heap) σ8 H' s' → Nx H' → ∃ m, m < n ∧ ∃ i H', Inv (X.blk s3 H3 scope ce fp) [] (wipe σ (own.map (·.2))) H' s' ∧ tn i s'.heap ∧ (∀ b ∈ fp, H' b = none) ∧ W i m H' := fun {s' H'} I' nx => by
        obtain ⟨m', hm, w'⟩ := hNx H' nx
        have pin' : ∀ b ∈ fp, ∀ o, s7.heap.get? b = some o → s'.heap.get? b = some o ∧ H' b = none := fun b hb o e =>
          let z := I'.pin (b, o) (List.mem_append_right _ (List.mem_append_right _ (mem_pinsAt hb e)))
          ⟨z.1, z.2.1⟩
        have hl : (wipe σ (own.map (·.2))).length = σ8.length := by rw [← hw8, wipe_length]
        refine ⟨m', hm, i + 1, H', (I'.unpinned (pins := [])).weak hl (fun j v e => ?_), T.keep _ _ _ st7 fun b hb o e => (pin' b hb o e).1, fun b hb => ?_, w'⟩
        · rw [← hw8] at e
          exact (wipe_some e).1
        · obtain ⟨o, e, _⟩ := T.obj _ _ st7 b hb
          exact (pin' b hb o e).2
      cases b with
      | false =>
        simp only [Bool.false_eq_true, if_false] at q9 ⊢
        exact fin I9 q9
      | true =>
        simp only [if_true] at q9 ⊢
        refine thnF (pe _ s9 σ8 H9 _ I9 q9) fun z s10 ⟨yv, H10, I10, r10, acc, hD10, hz10, nx⟩ => ?_
        exact app_ok (X := X.blk s3 H3 scope ce fp) I10 hD10 hz10 r10 fun s11 I11 => fin I11 nx
  exact codeAny_compStart_list loop (T.self X.A 0 _ _ _ st4 loop)
theorem pe_lc {elt tg iter : Expr} {ifs : List Expr} {scope : Scope} {own : List (Str × Nat)} {pos : Pos} {wi : TI} {g : TG} {tt : TT} {te : TE} (hc : X.calm = true) (hN : X.N.Nodup) (hi : PI X tg iter wi) (ok : BlkOk X.N X.env.scope scope own)
    (hg : ∀ (s : Shared) (H : Hp) (C : Addr) (cl : List (Str × Addr)) (fp : List Addr), PG (X.blk s H scope (compEnvC scope cl C X.env) fp) tg g) (ht : ∀ (s : Shared) (H : Hp) (C : Addr) (cl : List (Str × Addr)) (fp : List Addr), PTs (X.blk s H scope (compEnvC scope cl C X.env) fp) ifs tt)
    (he : ∀ (s : Shared) (H : Hp) (C : Addr) (cl : List (Str × Addr)) (fp : List Addr), PE (X.blk s H scope (compEnvC scope cl C X.env) fp) elt te) (hs : ∀ x, foldedSetIterable iter X.env x = pure x := by intro _; rfl) :
    PE X (.ListComp elt [⟨tg, iter, ifs, 0⟩] scope pos) (tLc wi g tt te (own.map (·.2))) := by
  intro pins s σ H Q I h
  rw [eval_ListComp]
  refine lc_core hc hN I hi ok hg ht he hs h fun D C s' m H' I' q hn f => ⟨m, hn, fun h'' sb => ?_⟩
  obtain ⟨f0, f1, f2, f3, f4, f5⟩ := f
  exact ⟨.ref D, H', I'.turned (t' := s'.toks) (fun b o hb e => (sb.2 b hb).trans e) f0 f1 f3 f4 f5, rfl, q⟩
theorem ps_setLc {i : Nat} {y : Str} {py : Pos} {elt tg iter : Expr} {ifs : List Expr} {scope : Scope} {own : List (Str × Nat)} {pos spos : Pos} {wi : TI} {g : TG} {tt : TT} {te : TE} (hc : X.calm = true) (hN : X.N.Nodup) (hy : X.N[i]? = some y) (hyl : X.env.scope.names.lookup y = some .local)
    (hsw : swapsWith (.ListComp elt [⟨tg, iter, ifs, 0⟩] scope pos) (some (.Name y py)) spos.line X.env = pure true) (hi : PI X tg iter wi) (ok : BlkOk X.N X.env.scope scope own)
    (hg : ∀ (s : Shared) (H : Hp) (C : Addr) (cl : List (Str × Addr)) (fp : List Addr), PG (X.blk s H scope (compEnvC scope cl C X.env) fp) tg g) (ht : ∀ (s : Shared) (H : Hp) (C : Addr) (cl : List (Str × Addr)) (fp : List Addr), PTs (X.blk s H scope (compEnvC scope cl C X.env) fp) ifs tt)
    (he : ∀ (s : Shared) (H : Hp) (C : Addr) (cl : List (Str × Addr)) (fp : List Addr), PE (X.blk s H scope (compEnvC scope cl C X.env) fp) elt te) (hs : ∀ x, foldedSetIterable iter X.env x = pure x := by intro _; rfl) :
    PS X (.Assign [.Name y py] (.ListComp elt [⟨tg, iter, ifs, 0⟩] scope pos) spos) (tAsg (tLc wi g tt te (own.map (·.2))) (gName i)) := by
  intro pins s σ H D I h
  rw [exec_Assign_Name_used _ _ _ _ hsw]
  refine wpAny_bind (wpAny_standAt (wpAny_bind ?_))
  show wpAny _ X.A (do let _ ← comprehension (.ListComp elt [⟨tg, iter, ifs, 0⟩] scope pos) scope X.env (firstIterPos [⟨tg, iter, ifs, 0⟩] pos) (newList []) false (eval iter X.env) (some (assign (.Name y py) X.env))) _ _ s
  have h : tLc wi g tt te (own.map (·.2)) σ H (fun x H1 => gName i x σ H1 D.nx) := h
  refine wpAny_bind (thn (lc_core (Qf := fun _ s' => SP X pins D .next s') hc hN I hi ok hg ht he hs h fun L C s' m H' I' q hn f => ?_) fun _ s' hq => wpAny_pure (wpAny_pure hq))
  show wpAny _ _ (assign (.Name y py) X.env (.ref L)) _ _ _
  refine wpAny_assign_Name (store_ok2 (v := V.ref L) I' hN hy (.inl hyl) rfl (fun s2 I2 ⟨a, sb, ha⟩ => ?_) (.inr hyl))
  obtain ⟨f0, f1, f2, f3, f4, f5⟩ := f
  have haC : C ≠ a := by
    rcases ha with z | z
    · rw [z]; exact f1
    · exact fun e => f4 y a z e.symm
  refine ⟨m, hn.sameBut sb haC, fun h3 sb3 => ?_⟩
  exact ⟨_, H', I2.turned (t' := s2.toks) (fun b o hb e => (sb3.2 b hb).trans e) f0 f1 f3 f4 f5, q⟩
theorem sw_true {elt : Expr} {gs : List Comprehension} {scope : Scope} {pos py : Pos} {y : Str} {l : Nat} {env : Env} (hk : env.scope.kind = .function) (hy : env.scope.names.lookup y = some .local) (hl : (py.line == pos.line) = true)
    (ha : (scope.names.any fun (n, k) => n == y && (k == .local || k == .cell)) = false) : swapsWith (.ListComp elt gs scope pos) (some (.Name y py)) l env = pure true := by
  have ky : env.kindOf y = some .local := hy
  have hb : env.blockKind = .function := by unfold Env.blockKind; rw [hk]; rfl
  unfold swapsWith
  simp only [hb, ky, ha, Expr.pos, hl]
  rfl
end

theorem lc_range {lo : Int} {n : Nat} {g : TG} {tt : TT} {te : TE} {vs : List Nat} {σ : St} {H1 : Hp} {D : Addr} {Qd : Hp → Prop} (Pv : Nat → Hp → Prop) (h0 : Pv 0 (upd H1 D (.lst [])))
    (hs : ∀ i H, i < n → Pv i H → g (.int (lo + i)) (wipe σ vs) H fun σ2 H2 => wipe σ2 vs = wipe σ vs ∧ tt σ2 H2 fun b H3 =>
      if b = true then te σ2 H3 fun y H4 => ∃ acc, H4 D = some (.lst acc) ∧ acc.length < sizeLine ∧ Pv (i + 1) (upd H4 D (.lst (acc ++ [y]))) else Pv (i + 1) H3) (hd : ∀ H, Pv n H → Qd H) :
    ∃ W : Nat → Nat → Hp → Prop, (∃ m, W 0 m (upd H1 D (.lst []))) ∧ ∀ i m H, W i m H →
      ((Itr lo n).stop i H ∧ Qd H) ∨ ((Itr lo n).go i H ∧ ∃ Nx : Hp → Prop, (∀ H', Nx H' → ∃ m', m' < m ∧ W (i + 1) m' H') ∧ ∀ x H', (Itr lo n).yld i H x H' → g x (wipe σ vs) H' fun σ2 H2 => wipe σ2 vs = wipe σ vs ∧ tt σ2 H2 fun b H3 =>
        if b = true then te σ2 H3 fun y H4 => ∃ acc, H4 D = some (.lst acc) ∧ acc.length < sizeLine ∧ Nx (upd H4 D (.lst (acc ++ [y]))) else Nx H3) := by
  refine ⟨fun i m H => m = n - i ∧ i ≤ n ∧ Pv i H, ⟨n, by simp, Nat.zero_le _, h0⟩, ?_⟩
  rintro i m H ⟨rfl, hi, p⟩
  by_cases hlt : i < n
  · refine .inr ⟨hlt, Pv (i + 1), fun H' p' => ⟨n - (i + 1), by omega, rfl, hlt, p'⟩, fun x H' y => ?_⟩
    obtain ⟨e, y⟩ := y
    subst e y
    exact hs i _ hlt p
  · have e : i = n := by omega
    subst e
    exact .inl ⟨Nat.le_refl _, hd H p⟩
theorem lc_list {K : PySem.W.Frag} {a : Addr} {xs : List V} {g : TG} {tt : TT} {te : TE} {vs : List Nat} {σ : St} {H1 : Hp} {D : Addr} {Qd : Hp → Prop} (Pv : Nat → Hp → Prop) (h0 : Pv 0 (upd H1 D (.lst []))) (hl : ∀ i H, i ≤ xs.length → Pv i H → SqL K H a xs)
    (hs : ∀ i x H, xs[i]? = some x → Pv i H → g x (wipe σ vs) H fun σ2 H2 => wipe σ2 vs = wipe σ vs ∧ tt σ2 H2 fun b H3 =>
      if b = true then te σ2 H3 fun y H4 => ∃ acc, H4 D = some (.lst acc) ∧ acc.length < sizeLine ∧ Pv (i + 1) (upd H4 D (.lst (acc ++ [y]))) else Pv (i + 1) H3) (hd : ∀ H, Pv xs.length H → Qd H) :
    ∃ W : Nat → Nat → Hp → Prop, (∃ m, W 0 m (upd H1 D (.lst []))) ∧ ∀ i m H, W i m H →
      ((Itl K a).stop i H ∧ Qd H) ∨ ((Itl K a).go i H ∧ ∃ Nx : Hp → Prop, (∀ H', Nx H' → ∃ m', m' < m ∧ W (i + 1) m' H') ∧ ∀ x H', (Itl K a).yld i H x H' → g x (wipe σ vs) H' fun σ2 H2 => wipe σ2 vs = wipe σ vs ∧ tt σ2 H2 fun b H3 =>
        if b = true then te σ2 H3 fun y H4 => ∃ acc, H4 D = some (.lst acc) ∧ acc.length < sizeLine ∧ Nx (upd H4 D (.lst (acc ++ [y]))) else Nx H3) := by
  refine ⟨fun i m H => m = xs.length - i ∧ i ≤ xs.length ∧ Pv i H, ⟨xs.length, by simp, Nat.zero_le _, h0⟩, ?_⟩
  rintro i m H ⟨rfl, hi, p⟩
  have q := hl i H hi p
  by_cases hlt : i < xs.length
  · refine .inr ⟨⟨xs, xs[i], q, by simp [hlt]⟩, Pv (i + 1), fun H' p' => ⟨xs.length - (i + 1), by omega, rfl, hlt, p'⟩, fun x H' y => ?_⟩
    obtain ⟨e, y⟩ := y
    subst e
    exact hs i x _ (y xs q) p
  · have e : i = xs.length := by omega
    subst e
    exact .inl ⟨⟨xs, q, Nat.le_refl _⟩, hd H p⟩
noncomputable def blkC (N : List Str) (sc scope : Scope) (own : List (Str × Nat)) : Bool :=
  (match scope.kind with | .function => true | _ => false) && (scope.names.all fun y => decide (scope.names.lookup y.1 = some y.2)) && (own.all fun p => decide (N[p.2]? = some p.1)) &&
    (scope.names.all fun y => match y.2 with
      | .free => (match sc.names.lookup y.1 with | some .cell => true | some .free => true | _ => false)
      | .local => decide (y.1 ∈ own.map (·.1)) || decide (y.1 ∉ N)
      | .cell => decide (y.1 ∈ own.map (·.1)) || decide (y.1 ∉ N)
      | _ => true)
theorem blkOk_by {N : List Str} {sc scope : Scope} {own : List (Str × Nat)} (h : blkC N sc scope own = true) : BlkOk N sc scope own := by
  unfold blkC at h
  simp only [Bool.and_eq_true, List.all_eq_true, decide_eq_true_eq] at h
  obtain ⟨⟨⟨h1, h2⟩, h3⟩, h4⟩ := h
  refine ⟨?_, h2, h3, fun y hy e => ?_, fun y hy e => ?_⟩
  · split at h1
    · assumption
    · cases h1
  · have q := h4 y hy
    simp only [e] at q
    split at q <;> first | exact .inl (by assumption) | exact .inr (by assumption) | cases q
  · have q := h4 y hy
    rcases e with e | e <;> (simp only [e, Bool.or_eq_true, decide_eq_true_eq] at q; exact q)
end L2

namespace L2
open PySem PySem.Spec PyProof.Rows

section
variable {prog : Program} {w : World} {A : Around} {R : Result → Shared → Prop} {s : Shared} {elt t0 i0 t1 i1 : Expr} {ifs0 ifs1 : List Expr} {scope : Scope} {pos : Pos} {it acc : Value} {env : Env}
end

section
variable {X : Cx}
noncomputable def tLc2 (wi : TI) (g : TG) (tt : TT) (wi1 : TI) (g1 : TG) (tt1 : TT) (te : TE) (vs vs1 : List Nat) : TE := fun σ H Q => wi σ H fun J H1 => ∀ D, H1 D = none → ∃ W : Nat → Nat → Hp → Prop, (∃ m, W 0 m (upd H1 D (.lst []))) ∧ ∀ i m H, W i m H →
  (J.stop i H ∧ Q (.ref D) H) ∨ (J.go i H ∧ ∃ Nx : Hp → Prop, (∀ H', Nx H' → ∃ m', m' < m ∧ W (i + 1) m' H') ∧ ∀ x H', J.yld i H x H' → g x (wipe σ vs) H' fun σ2 H2 => wipe σ2 vs = wipe σ vs ∧ tt σ2 H2 fun b H3 =>
    if b = true then wi1 σ2 H3 fun J1 H4 => ∃ W1 : Nat → Nat → Hp → Prop, (∃ m, W1 0 m H4) ∧ ∀ j k H, W1 j k H →
      (J1.stop j H ∧ Nx H) ∨ (J1.go j H ∧ ∃ Nx1 : Hp → Prop, (∀ H', Nx1 H' → ∃ k', k' < k ∧ W1 (j + 1) k' H') ∧ ∀ x H', J1.yld j H x H' → g1 x (wipe σ2 vs1) H' fun σ3 H5 => wipe σ3 vs1 = wipe σ2 vs1 ∧ tt1 σ3 H5 fun b H6 =>
        if b = true then te σ3 H6 fun y H7 => ∃ acc, H7 D = some (.lst acc) ∧ acc.length < sizeLine ∧ Nx1 (upd H7 D (.lst (acc ++ [y]))) else Nx1 H6)
    else Nx H3)
end
end L2

namespace L2
open PySem PySem.Spec PyProof.Rows

section
variable {κ : Type} [DecidableEq κ]
noncomputable def valV (kvs : List (κ × V)) (k : κ) : Option V := (kvs.find? fun kv => decide (kv.1 = k)).map (·.2)
noncomputable def putK (kvs : List (κ × V)) (k : κ) (v : V) : List (κ × V) :=
  if (kvs.any fun kv => decide (kv.1 = k)) = true then kvs.map (fun kv => if kv.1 = k then (kv.1, v) else kv) else kvs ++ [(k, v)]
noncomputable def dropK (kvs : List (κ × V)) (k : κ) : List (κ × V) := kvs.filter fun kv => decide (kv.1 ≠ k)

theorem valV_pos {p : κ × V} {r : List (κ × V)} {k : κ} (e : p.1 = k) : valV (p :: r) k = some p.2 := by simp [valV, List.find?_cons, e]
theorem valV_neg {p : κ × V} {r : List (κ × V)} {k : κ} (e : ¬ p.1 = k) : valV (p :: r) k = valV r k := by simp [valV, List.find?_cons, e]
theorem valV_any (k : κ) : ∀ kvs : List (κ × V), (kvs.any fun kv => decide (kv.1 = k)) = (valV kvs k).isSome
  | [] => rfl
  | p :: r => by
    rw [List.any_cons]
    by_cases e : p.1 = k
    · simp only [valV_pos e, decide_eq_true e, Bool.true_or, Option.isSome_some]
    · rw [valV_neg e, decide_eq_false e, Bool.false_or]; exact valV_any k r
theorem length_putK (kvs : List (κ × V)) (k : κ) (v : V) : (putK kvs k v).length ≤ kvs.length + 1 := by
  unfold putK
  split
  · rw [List.length_map]; omega
  · rw [List.length_append, List.length_cons, List.length_nil]; omega
theorem putK_new {kvs : List (κ × V)} {k : κ} (v : V) (h : valV kvs k = none) : putK kvs k v = kvs ++ [(k, v)] := by
  unfold putK
  rw [valV_any, h]
  exact if_neg (by decide)

theorem RelO.isSome_eq {o : Option V} {u : Option Value} (r : RelO o u) : o.isSome = u.isSome := by
  cases o with
  | none => cases u with
    | none => rfl
    | some _ => exact (show False from r).elim
  | some _ => cases u with
    | none => exact (show False from r).elim
    | some _ => rfl
theorem KV.val {kvs : List (κ × V)} {vs : List (κ × Value)} (r : KV kvs vs) (k : κ) : RelO (valV kvs k) (valueAt vs k) := by
  unfold KV at r
  induction r with
  | nil => exact True.intro
  | @cons p q ps qs h t ih =>
    obtain ⟨h1, h2⟩ := h
    by_cases e : p.1 = k
    · have e' : q.1 = k := h1.symm.trans e
      have b : valueAt (q :: qs) k = some q.2 := by simp [valueAt, List.find?_cons, e']
      rw [valV_pos e, b]; exact h2
    · have e' : ¬ q.1 = k := fun z => e (h1.trans z)
      have b : valueAt (q :: qs) k = valueAt qs k := by simp [valueAt, List.find?_cons, e']
      rw [valV_neg e, b]; exact ih
theorem KV.any {kvs : List (κ × V)} {vs : List (κ × Value)} (r : KV kvs vs) (k : κ) : (kvs.any fun kv => decide (kv.1 = k)) = vs.any fun kv => decide (kv.1 = k) := by
  unfold KV at r
  induction r with
  | nil => rfl
  | cons h t ih => rw [List.any_cons, List.any_cons, ih, h.1]
theorem KV.repl {kvs : List (κ × V)} {vs : List (κ × Value)} (r : KV kvs vs) (k : κ) {y : V} {u : Value} (ry : RelV y u) :
    KV (kvs.map fun kv => if kv.1 = k then (kv.1, y) else kv) (vs.map fun kv => if kv.1 = k then (kv.1, u) else kv) := by
  unfold KV at r ⊢
  induction r with
  | nil => exact .nil
  | @cons p q ps qs h t ih =>
    rw [List.map_cons, List.map_cons]
    refine .cons ?_ ih
    obtain ⟨h1, h2⟩ := h
    by_cases e : p.1 = k
    · rw [if_pos e, if_pos (h1.symm.trans e)]; exact ⟨h1, ry⟩
    · rw [if_neg e, if_neg (fun z => e (h1.trans z))]; exact ⟨h1, h2⟩
theorem KV.put {kvs : List (κ × V)} {vs : List (κ × Value)} (r : KV kvs vs) (k : κ) {y : V} {u : Value} (ry : RelV y u) : KV (putK kvs k y) (stored vs k u) := by
  unfold putK stored
  rw [r.any k]
  by_cases e : (vs.any fun kv => decide (kv.1 = k)) = true
  · rw [if_pos e, if_pos e]; exact r.repl k ry
  · rw [if_neg e, if_neg e]; exact Paired.snoc r ⟨rfl, ry⟩
theorem KV.length {kvs : List (κ × V)} {vs : List (κ × Value)} (r : KV kvs vs) : kvs.length = vs.length := Paired.length r
theorem dropK_le (kvs : List (κ × V)) (k : κ) : (dropK kvs k).length ≤ kvs.length := List.length_filter_le _ _
end


theorem kV_is {P : Program} {w : World} {k : Key} {u : Value} (r : RelV (kV k) u) : (mixKind P w).is k u = true := by
  cases k with
  | inl i => obtain ⟨t, e⟩ := (show ∃ t, u = Value.int i t from r); subst e; exact mixKind_int P w i t
  | inr x => obtain ⟨t, e⟩ := (show ∃ t, u = Value.str x t from r); subst e; exact mixKind_str P w x t
theorem items_are {P : Program} {w : World} : ∀ {ks : List Key} {us : List Value}, Vals (ks.map kV) us → ItemsAre (mixKind P w) ks us
  | [], _, r => by rw [List.map_nil] at r; cases r; exact .nil
  | k :: ks, _, r => by
    rw [List.map_cons] at r
    cases r with
    | cons h t => exact .cons (kV_is h) (items_are t)

noncomputable abbrev KT (H : Hp) : List (List Key × V) → List (List Key × Addr × Value) → Prop := Paired fun p q => p.1 = q.1 ∧ H q.2.1 = some (.tup (p.1.map kV)) ∧ RelV p.2 q.2.2
theorem KT.val {H : Hp} {kvs : List (List Key × V)} {xs : List (List Key × Addr × Value)} (r : KT H kvs xs) (k : List Key) : RelO (valV kvs k) ((atKey xs k).map (·.2)) := by
  induction r with
  | nil => exact True.intro
  | @cons p q ps qs h t ih =>
    obtain ⟨h1, _, h2⟩ := h
    by_cases e : p.1 = k
    · have e' : q.1 = k := h1.symm.trans e
      have b : atKey (q :: qs) k = some q.2 := by simp [atKey, List.find?_cons, e']
      rw [valV_pos e, b]; exact h2
    · have e' : ¬ q.1 = k := fun z => e (h1.trans z)
      have b : atKey (q :: qs) k = atKey qs k := by simp [atKey, List.find?_cons, e']
      rw [valV_neg e, b]; exact ih
theorem KT.repl {H : Hp} {kvs : List (List Key × V)} {xs : List (List Key × Addr × Value)} (r : KT H kvs xs) (k : List Key) {y : V} {u : Value} (ry : RelV y u) :
    KT H (kvs.map fun kv => if kv.1 = k then (kv.1, y) else kv) (xs.map (putAt k u)) := by
  induction r with
  | nil => exact .nil
  | @cons p q ps qs h t ih =>
    rw [List.map_cons, List.map_cons]
    refine .cons ?_ ih
    obtain ⟨h1, h2, h3⟩ := h
    unfold putAt
    by_cases e : p.1 = k
    · rw [if_pos e, if_pos (h1.symm.trans e)]; exact ⟨h1, h2, ry⟩
    · rw [if_neg e, if_neg (fun z => e (h1.trans z))]; exact ⟨h1, h2, h3⟩
theorem KT.put {H : Hp} {kvs : List (List Key × V)} {xs : List (List Key × Addr × Value)} (r : KT H kvs xs) (k : List Key) {b : Addr} {y : V} {u : Value} (hb : H b = some (.tup (k.map kV))) (ry : RelV y u) :
    KT H (putK kvs k y) (storedH xs k b u) := by
  have e : (kvs.any fun kv => decide (kv.1 = k)) = (atKey xs k).isSome := by
    rw [valV_any, (r.val k).isSome_eq, Option.isSome_map]
  unfold putK storedH
  rw [e]
  by_cases q : (atKey xs k).isSome = true
  · rw [if_pos q, if_pos q]; exact r.repl k ry
  · rw [if_neg q, if_neg q]; exact Paired.snoc r ⟨rfl, hb, ry⟩
theorem KT.keeps {H H' : Hp} {kvs : List (List Key × V)} {xs : List (List Key × Addr × Value)} (r : KT H kvs xs) (ht : ∀ b ys, H b = some (.tup ys) → H' b = some (.tup ys)) : KT H' kvs xs :=
  Paired.mapP r fun _ _ z => ⟨z.1, ht _ _ z.2.1, z.2.2⟩

section
variable {P : Program} {w : World} {H : Hp} {h : Heap} {a : Addr}
theorem rd_of {u : HO} (ok : HOk P w H h) (e : Rd H a u) : ObjOk P w H h a u := e.ok ok
theorem dk_rd {kvs : List (Key × V)} (ok : HOk P w H h) (e : Rd H a (.dK kvs)) : kvs.length ≤ sizeLine ∧ (a == sysModules) = false ∧ ∃ vs, KV kvs vs ∧ h.DictOf (mixKind P w) a vs :=
  show ObjOk P w H h a (.dK kvs) from rd_of ok e
theorem dk_of {kvs : List (Key × V)} (ok : HOk P w H h) (e : H a = some (.dK kvs)) : kvs.length ≤ sizeLine ∧ (a == sysModules) = false ∧ ∃ vs, KV kvs vs ∧ h.DictOf (mixKind P w) a vs := dk_rd ok (.inl e)
theorem key_of {ks : List Key} (ok : HOk P w H h) (e : H a = some (.tup (ks.map kV))) : (tupleKind (mixKind P w)).is h ks a := by
  obtain ⟨_, its, r, o, h1, h2, n, h3⟩ := (show ObjOk P w H h a (.tup (ks.map kV)) from ok a _ e)
  exact ⟨o, its.toArray, n, h1, h2, h3, by simpa using items_are r⟩
theorem dt_rd {kvs : List (List Key × V)} (ok : HOk P w H h) (e : Rd H a (.dT kvs)) : kvs.length ≤ sizeLine ∧ (a == sysModules) = false ∧
    ∃ xs, KT H kvs xs ∧ h.DictOfH (tupleKind (mixKind P w)) a xs := by
  obtain ⟨z, y, xs, r, o, es, ep, h1, h2, h3, h4, h5⟩ := (show ObjOk P w H h a (.dT kvs) from rd_of ok e)
  refine ⟨z, y, xs, r, o, es, ep, h1, h2, h3, h4, fun x hx => ?_, h5⟩
  have all : ∀ {l : List (List Key × V)} {m : List (List Key × Addr × Value)}, KT H l m → ∀ x ∈ m, (tupleKind (mixKind P w)).is h x.1 x.2.1 := by
    intro l m q
    induction q with
    | nil => intro x hx; exact nomatch hx
    | @cons p q ps qs hq t ih =>
      intro x hx
      rcases List.mem_cons.mp hx with e | hx
      · subst e
        exact key_of ok (by rw [← hq.1]; exact hq.2.1)
      · exact ih x hx
  exact all r x hx
theorem dt_of {kvs : List (List Key × V)} (ok : HOk P w H h) (e : H a = some (.dT kvs)) : kvs.length ≤ sizeLine ∧ (a == sysModules) = false ∧
    ∃ xs, KT H kvs xs ∧ h.DictOfH (tupleKind (mixKind P w)) a xs := dt_rd ok (.inl e)
end

noncomputable def DGet (H : Hp) (a : Addr) (y : V) (r : Option V) : Prop :=
  (∃ kvs k, Rd H a (.dK kvs) ∧ y = kV k ∧ r = valV kvs k) ∨ ∃ kvs k b, Rd H a (.dT kvs) ∧ y = .ref b ∧ H b = some (.tup (k.map kV)) ∧ r = valV kvs k
noncomputable def DPut (H : Hp) (a : Addr) (y v : V) (H' : Hp) : Prop :=
  (∃ kvs k, H a = some (.dK kvs) ∧ y = kV k ∧ kvs.length < sizeLine ∧ H' = upd H a (.dK (putK kvs k v))) ∨
  ∃ kvs k b, H a = some (.dT kvs) ∧ y = .ref b ∧ H b = some (.tup (k.map kV)) ∧ kvs.length < sizeLine ∧ H' = upd H a (.dT (putK kvs k v))
theorem DGet.t {H : Hp} {a b : Addr} {kvs : List (List Key × V)} {k : List Key} (e : H a = some (.dT kvs)) (eb : H b = some (.tup (k.map kV))) : DGet H a (.ref b) (valV kvs k) := .inr ⟨kvs, k, b, .inl e, rfl, eb, rfl⟩
theorem DPut.t {H : Hp} {a b : Addr} {kvs : List (List Key × V)} {k : List Key} {v : V} (e : H a = some (.dT kvs)) (eb : H b = some (.tup (k.map kV))) (hl : kvs.length < sizeLine) :
    DPut H a (.ref b) v (upd H a (.dT (putK kvs k v))) := .inr ⟨kvs, k, b, e, rfl, eb, hl, rfl⟩


section
variable {X : Cx} {pins : List (Addr × Obj)} {σ : St} {H : Hp} {s : Shared} {a : Addr} {y v : V} {u r : Value} {o : Option V} {A : Around} {E : Value → Shared → Prop}

theorem Inv.big (I : Inv X pins σ H s) : sysModules < s.heap.objs.size := by
  have h : mainGlobals < s.heap.objs.size := (I.mod.glob.keeps I.bk).lt
  exact Nat.lt_trans (by decide) h

theorem d_getItem {Q : Value → Shared → Prop} (hu : A.units + 1 < cLine) (I : Inv X pins σ H s) (g : DGet H a y (some v)) (ry : RelV y u) (h : ∀ w' s', Inv X pins σ H s' → RelV v w' → Q w' s') :
    wpAny (model X.prog X.w) A (getItem (.ref a) u) Q E s := by
  rcases g with ⟨kvs, k, e, ey, l⟩ | ⟨kvs, k, b, e, ey, eb, l⟩
  · subst ey
    obtain ⟨z, hd, vs, rel, dd⟩ := dk_rd I.hok e
    obtain ⟨w', hw, rw'⟩ := RelO.some_of (v := v) (o := valueAt vs k) (by rw [l]; exact rel.val k)
    exact wpAny_getItem_of (kV_is ry) dd.mapOf hw (h w' _ (I.tok _) rw')
  · subst ey
    cases (show u = Value.ref b from ry)
    obtain ⟨z, hd, xs, rel, dd⟩ := dt_rd I.hok e
    obtain ⟨w', hw, rw'⟩ := RelO.some_of (v := v) (o := (atKey xs k).map (·.2)) (by rw [l]; exact rel.val k)
    obtain ⟨p, hp, hp2⟩ := Option.map_eq_some_iff.mp hw
    refine wpAny_getItem_heap (tupleKind_room_in1 hu) (key_of I.hok eb) dd hp ?_
    rw [hp2]
    exact h w' _ (I.tok _) rw'
theorem d_in {Q : Value → Shared → Prop} (hu : A.units + 1 < cLine) (I : Inv X pins σ H s) (g : DGet H a y o) (ry : RelV y u) (h : ∀ s', Inv X pins σ H s' → Q (.bool o.isSome) s') :
    wpAny (model X.prog X.w) A (compareOp .In u (.ref a)) Q E s := by
  rcases g with ⟨kvs, k, e, ey, l⟩ | ⟨kvs, k, b, e, ey, eb, l⟩
  · subst ey
    obtain ⟨z, hd, vs, rel, dd⟩ := dk_rd I.hok e
    refine wpAny_in_of (kV_is ry) hd dd.mapOf ?_
    rw [← (rel.val k).isSome_eq, ← l]
    exact h _ (I.tok _)
  · subst ey
    cases (show u = Value.ref b from ry)
    obtain ⟨z, hd, xs, rel, dd⟩ := dt_rd I.hok e
    refine wpAny_in_heap (tupleKind_room_in1 hu) (key_of I.hok eb) hd dd ?_
    have q := (rel.val k).isSome_eq
    rw [Option.isSome_map] at q
    rw [← q, ← l]
    exact h _ (I.tok _)
theorem d_notIn {Q : Value → Shared → Prop} (hu : A.units + 1 < cLine) (I : Inv X pins σ H s) (g : DGet H a y o) (ry : RelV y u) (h : ∀ s', Inv X pins σ H s' → Q (.bool (!o.isSome)) s') :
    wpAny (model X.prog X.w) A (compareOp .NotIn u (.ref a)) Q E s := by
  rcases g with ⟨kvs, k, e, ey, l⟩ | ⟨kvs, k, b, e, ey, eb, l⟩
  · subst ey
    obtain ⟨z, hd, vs, rel, dd⟩ := dk_rd I.hok e
    refine wpAny_notIn_of (kV_is ry) hd dd.mapOf ?_
    rw [← (rel.val k).isSome_eq, ← l]
    exact h _ (I.tok _)
  · subst ey
    cases (show u = Value.ref b from ry)
    obtain ⟨z, hd, xs, rel, dd⟩ := dt_rd I.hok e
    refine wpAny_notIn_heap (tupleKind_room_in1 hu) (key_of I.hok eb) hd dd ?_
    have q := (rel.val k).isSome_eq
    rw [Option.isSome_map] at q
    rw [← q, ← l]
    exact h _ (I.tok _)
theorem d_write {h' : Heap} {t' : Nat} {ob : HO} (I : Inv X pins σ H s) (mu : Mut (H a)) (hs : Heap.SameBut a s.heap h') (he : ∃ q, h'.get? a = some q) (new : ObjOk X.prog X.w (upd H a ob) h' a ob) :
    Inv X pins σ (upd H a ob) { s with heap := h', toks := t' } :=
  I.write (x := a) (e := a) mu (.inl rfl) (fun b q hb z => (hs.2 b hb).trans z) he new
theorem dk_new {P : Program} {w : World} {H' : Hp} {h' : Heap} {kvs : List (Key × V)} {vs : List (Key × Value)} (z : kvs.length ≤ sizeLine) (hd : (a == sysModules) = false) (rel : KV kvs vs) (dd : h'.DictOf (mixKind P w) a vs) :
    ObjOk P w H' h' a (.dK kvs) := ⟨z, hd, vs, rel, dd⟩
theorem d_setItem {H' : Hp} {Q : Unit → Shared → Prop} (hu : A.units + 1 < cLine) (I : Inv X pins σ H s) (g : DPut H a y v H') (ry : RelV y u) (rv : RelV v r) (h : ∀ s', Inv X pins σ H' s' → Q () s') :
    wpAny (model X.prog X.w) A (setItem (.ref a) u r) Q E s := by
  rcases g with ⟨kvs, k, e, ey, l, eH⟩ | ⟨kvs, k, b, e, ey, eb, l, eH⟩
  · subst ey eH
    obtain ⟨z, hd, vs, rel, dd⟩ := dk_of I.hok e
    have hz : vs.length ≤ sizeLine := by rw [← rel.length]; exact z
    have hl : (putK kvs k v).length ≤ sizeLine := by have := length_putK kvs k v; omega
    refine wpAny_setItem_pairs (hsz := hz) (kV_is ry) dd fun h' dd' hs => h _ ?_
    have he : ∃ q, h'.get? a = some q := let ⟨q, _, _, hq, _⟩ := dd'; ⟨q, hq⟩
    exact d_write I (by rw [e]; exact True.intro) hs he (dk_new hl hd (rel.put k rv) dd')
  · subst ey eH
    cases (show u = Value.ref b from ry)
    obtain ⟨z, hd, xs, rel, dd⟩ := dt_of I.hok e
    have hz : xs.length ≤ sizeLine := by rw [← Paired.length rel]; exact z
    have hl : (putK kvs k v).length ≤ sizeLine := by have := length_putK kvs k v; omega
    refine wpAny_setItem_heap (hsz := hz) (tupleKind_room_in1 hu) (key_of I.hok eb) dd fun h' dd' hs => h _ ?_
    obtain ⟨q, es, ep, hq, h2, h3, h4, _, h5⟩ := dd'
    refine d_write I (by rw [e]; exact True.intro) hs ⟨q, hq⟩ ⟨hl, hd, _, (rel.put k eb rv).keeps fun c ys ec => ?_, q, es, ep, hq, h2, h3, h4, h5⟩
    rw [upd_ne (ne_of ec e (fun z => nomatch z))]
    exact ec
end

section
variable {X : Cx} {pins : List (Addr × Obj)} {σ : St} {H : Hp} {s : Shared} {a : Addr} {kvs : List (Key × V)} {k : Key} {u : Value} {A : Around} {E : Value → Shared → Prop}
end


noncomputable def NoSl (i : Expr) : Prop := ∀ ov iv, subscripted i false ov iv = operate [ov, iv] (getItem ov iv)
theorem subD_of {prog : Program} {w : World} {A : Around} {E : Value → Shared → Prop} {s : Shared} {env : Env} {value slice : Expr} {pos : Pos} {T id : String} {Q : Value → Shared → Prop}
    (hl : typeLookup (.type T) "__getitem__" = pure (some (.builtin id))) (hs : NoSl slice)
    (h : wpAny (model prog w) A (eval value env) (fun o s₁ => wpAny (model prog w) A (eval slice env) (fun i s₂ => s₂.TypeIs o T ∧ wpAny (model prog w) A (getItem o i) Q E s₂) E s₁) E s) :
    wpAny (model prog w) A (eval (.Subscript value slice pos) env) Q E s := by
  refine Subscript_ (wpAny_mono h (fun o s₁ h₁ => wpAny_mono h₁ (fun i s₂ h₂ => ?_) fun _ _ x => x) fun _ _ x => x)
  obtain ⟨hT, h₂⟩ := h₂
  unfold subscriptTail
  refine wpAny_bind ?_
  rw [getitemInPython_of_ne hT.not_modules]
  refine wpAny_bind (wpAny_specialOf hT hl ?_)
  have fin : wpAny (model prog w) A (subscripted slice false o i) (fun r s₃ => wpAny (model prog w) A (letTemporaryGo value o r >>= fun _ => pure r) Q E s₃) E s₂ := by
    rw [hs o i]
    exact wpAny_operating (wpAny_mono h₂ (fun r s₃ h₃ => wpAny_bind (wpAny_letTemporaryGo (wpAny_pure h₃))) fun _ _ x => x)
  first
    | exact wpAny_pure (wpAny_bind fin)
    | exact wpAny_bind (wpAny_pure (wpAny_bind fin))
    | exact wpAny_bind fin

theorem dict_typeIs {X : Cx} {pins : List (Addr × Obj)} {σ : St} {H : Hp} {s : Shared} {a : Addr} {y : V} {o : Option V} (I : Inv X pins σ H s) (g : DGet H a y o) : s.TypeIs (.ref a) "dict" := by
  rcases g with ⟨kvs, k, e, _, _⟩ | ⟨kvs, k, b, e, _, _, _⟩
  · obtain ⟨_, _, vs, _, dd⟩ := dk_rd I.hok e
    exact dd.typeIs
  · obtain ⟨_, _, xs, _, dd⟩ := dt_rd I.hok e
    exact dd.typeIs
noncomputable def tDGet (td ty : TE) : TE := fun σ H Q => td σ H fun x H1 => ty σ H1 fun y H2 => ∃ a v, x = .ref a ∧ DGet H2 a y (some v) ∧ Q v H2
noncomputable def tDIn (ty td : TE) : TE := fun σ H Q => ty σ H fun y H1 => td σ H1 fun x H2 => ∃ a o, x = .ref a ∧ DGet H2 a y o ∧ Q (.bl o.isSome) H2
noncomputable def tDNotIn (ty td : TE) : TE := fun σ H Q => ty σ H fun y H1 => td σ H1 fun x H2 => ∃ a o, x = .ref a ∧ DGet H2 a y o ∧ Q (.bl (!o.isSome)) H2
noncomputable def sDPut (td ty tv : TE) : TS := fun D σ H => tv σ H fun v H1 => td σ H1 fun x H2 => ty σ H2 fun y H3 => ∃ a H4, x = .ref a ∧ DPut H3 a y v H4 ∧ D.nx σ H4
noncomputable def sDAug (td ty tv : TE) (rd : V → V → Hp → VK → Prop) : TS := fun D σ H => td σ H fun x H1 => ty σ H1 fun y H2 => ∃ a v, x = .ref a ∧ DGet H2 a y (some v) ∧
  tv σ H2 fun y2 H3 => rd v y2 H3 fun z H4 => ∃ H5, DPut H4 a y z H5 ∧ D.nx σ H5
noncomputable def sDDel (td ty : TE) : TS := fun D σ H => td σ H fun x H1 => ty σ H1 fun y H2 => ∃ a kvs k, x = .ref a ∧ H2 a = some (.dK kvs) ∧ y = kV k ∧ (valV kvs k).isSome = true ∧ D.nx σ (upd H2 a (.dK (dropK kvs k)))

section
variable {X : Cx} {o i e value : Expr} {pos pos' tpos : Pos} {td ty tv : TE}
theorem pe_dget (hu : X.A.units + 1 < cLine) (ho : PE X o td) (hi : PE X i ty) (hs : NoSl i) : PE X (.Subscript o i pos) (tDGet td ty) := by
  intro pins s σ H Q I h
  refine subD_of PySem.F.slot_dict_getitem.lookup hs (thn (ho pins s σ H _ I h) fun u s1 ⟨x, H1, I1, rx, q1⟩ => thn (hi pins s1 σ H1 _ I1 q1) fun iv s2 ⟨y, H2, I2, ry, a, v, ex, g, q2⟩ => ?_)
  subst ex
  obtain rfl : u = Value.ref a := rx
  exact ⟨dict_typeIs I2 g, d_getItem hu I2 g ry fun w' s3 I3 rw' => ⟨v, H2, I3, rw', q2⟩⟩
theorem pc_din (hu : X.A.units + 1 < cLine) (hi : PE X i ty) (ho : PE X o td) : PC X .In i o (tDIn ty td) := by
  intro pins s σ H Q I h
  refine thn (hi pins s σ H _ I h) fun iv s1 ⟨y, H1, I1, ry, q1⟩ => thn (ho pins s1 σ H1 _ I1 q1) fun u s2 ⟨x, H2, I2, rx, a, ov, ex, g, q2⟩ => ?_
  subst ex
  obtain rfl : u = Value.ref a := rx
  exact d_in hu I2 g ry fun s3 I3 => ⟨.bl ov.isSome, H2, I3, rfl, q2⟩
theorem pc_dnotin (hu : X.A.units + 1 < cLine) (hi : PE X i ty) (ho : PE X o td) : PC X .NotIn i o (tDNotIn ty td) := by
  intro pins s σ H Q I h
  refine thn (hi pins s σ H _ I h) fun iv s1 ⟨y, H1, I1, ry, q1⟩ => thn (ho pins s1 σ H1 _ I1 q1) fun u s2 ⟨x, H2, I2, rx, a, ov, ex, g, q2⟩ => ?_
  subst ex
  obtain rfl : u = Value.ref a := rx
  exact d_notIn hu I2 g ry fun s3 I3 => ⟨.bl (!ov.isSome), H2, I3, rfl, q2⟩
theorem ps_dput (hu : X.A.units + 1 < cLine) (ho : PE X o td) (hi : PE X i ty) (hv : PE X value tv) (hs : swapsWith value (some (.Subscript o i pos')) pos.line X.env = pure false) :
    PS X (.Assign [.Subscript o i pos'] value pos) (sDPut td ty tv) := by
  intro pins s σ H D I h
  refine wpAny_Assign_Subscript (thn (hv pins s σ H _ I h) fun r s1 ⟨v, H1, I1, rv, q1⟩ => thn (ho pins s1 σ H1 _ I1 q1) fun u s2 ⟨x, H2, I2, rx, q2⟩ => thn (hi pins s2 σ H2 _ I2 q2) fun iv s3 ⟨y, H3, I3, ry, a, H4, ex, g, q3⟩ => ?_) hs
  subst ex
  obtain rfl : u = Value.ref a := rx
  exact d_setItem hu I3 g ry rv fun s4 I4 => ⟨σ, H4, I4, q3⟩
end


theorem dt_empty {P : Program} {w : World} {H : Hp} (h : Heap) (hb : sysModules < h.objs.size) : ObjOk P w H (h.push { cls := .type "dict", data := .dict #[] }) h.objs.size (.dT []) :=
  ⟨Nat.zero_le _, beq_eq_false_iff_ne.mpr (Ne.symm (Nat.ne_of_lt hb)), [], .nil, _, #[], 0, Heap.get?_push_size _ rfl, ⟨rfl, rfl, rfl⟩, rfl, rfl, List.nodup_nil⟩
noncomputable def tDNewK : TE := fun _ H Q => ∀ p, H p = none → Q (.ref p) (upd H p (.dK []))
noncomputable def tDNewT : TE := fun _ H Q => ∀ p, H p = none → Q (.ref p) (upd H p (.dT []))
section
variable {X : Cx} {pos : Pos}
theorem pe_dnewT : PE X (.Dict [] [] pos) tDNewT := fun pins s σ H Q I h =>
  wpAny_Dict_empty ⟨.ref s.heap.objs.size, _, I.laid (a := s.heap.objs.size) (o := .dT []) (t' := s.toks) (fun _ _ q => Heap.get?_push_of_some _ q) (Nat.le_refl _) (dt_empty s.heap I.big), rfl, h _ (I.hok.fresh (Nat.le_refl _))⟩
end

noncomputable def tPairs : List (TE × TE) → St → Hp → (List (V × V) → Hp → Prop) → Prop
  | [], _, H, Q => Q [] H
  | (tk, tv) :: r, σ, H, Q => tk σ H fun x H1 => tv σ H1 fun y H2 => tPairs r σ H2 fun ps H3 => Q ((x, y) :: ps) H3
noncomputable abbrev VV : List (V × V) → List (Value × Value) → Prop := Paired fun p q => RelV p.1 q.1 ∧ RelV p.2 q.2
noncomputable def PPs (X : Cx) (pos : Pos) (keys : List (Option Expr)) (values : List Expr) (trs : List (TE × TE)) : Prop :=
  ∀ (pins : List (Addr × Obj)) (s : Shared) (σ : St) (H : Hp) (Q : List (V × V) → Hp → Prop), Inv X pins σ H s → tPairs trs σ H Q →
    wpAny (model X.prog X.w) X.A (evalPairs (pairTrees keys values X.env pos)) (fun vs s' => ∃ ps H', Inv X pins σ H' s' ∧ VV ps vs ∧ Q ps H') X.xe s
noncomputable def mergeK (kvs more : List (Key × V)) : List (Key × V) := more.foldl (fun acc kv => putK acc kv.1 kv.2) kvs
noncomputable def tDisp (trs : List (TE × TE)) : TE := fun σ H Q => ∀ p, H p = none → tPairs trs σ (upd H p (.dK [])) fun ps H2 => H2 p = some (.dK []) ∧ ∃ kvs : List (Key × V), ps = kvs.map (fun kv => (kV kv.1, kv.2)) ∧ kvs.length ≤ 15 ∧ Q (.ref p) (upd H2 p (.dK (mergeK [] kvs)))
structure M1 (X : Cx) (o : Expr) (m : Str) (apos : Pos) (e : Expr) (cpos : Pos) : Prop where
  base : attributeBase o m X.env (eval o X.env) = eval o X.env
  few : ((backTo cpos (starEach [e] X.env)).all (fun x => !x.1) && (backToKw cpos (keywordEach [] X.env)).all (fun x => x.1.isSome)
    && decide (([e] : List Expr).length + ([] : List Keyword).length + (if ([] : List Keyword).isEmpty then 0 else 1) < 30)) = true
  line : (apos.endLine == cpos.line) = true
  trees : backTo cpos (starEach [e] X.env) = [(false, eval e X.env)]
structure M2 (X : Cx) (o : Expr) (m : Str) (apos : Pos) (e f : Expr) (cpos : Pos) : Prop where
  base : attributeBase o m X.env (eval o X.env) = eval o X.env
  few : ((backTo cpos (starEach [e, f] X.env)).all (fun x => !x.1) && (backToKw cpos (keywordEach [] X.env)).all (fun x => x.1.isSome)
    && decide (([e, f] : List Expr).length + ([] : List Keyword).length + (if ([] : List Keyword).isEmpty then 0 else 1) < 30)) = true
  line : (apos.endLine == cpos.line) = true
  trees : backTo cpos (starEach [e, f] X.env) = [(false, eval e X.env), (false, eval f X.env)]

noncomputable def IsD (H : Hp) (a : Addr) : Prop := (∃ kvs, Rd H a (.dK kvs)) ∨ ∃ kvs, Rd H a (.dT kvs)
theorem isD_at {X : Cx} {pins : List (Addr × Obj)} {σ : St} {H : Hp} {s : Shared} {a : Addr} (I : Inv X pins σ H s) (d : IsD H a) :
    s.TypeIs (.ref a) "dict" ∧ (∀ b, Value.ref a = .ref b → ∃ ob, s.heap.get? b = some ob ∧ ob.dict = none) ∧ (a == sysModules) = false := by
  rcases d with ⟨kvs, e⟩ | ⟨kvs, e⟩
  · obtain ⟨_, hd, vs, _, dd⟩ := dk_rd I.hok e
    refine ⟨dd.typeIs, fun b q => ?_, hd⟩
    cases q
    obtain ⟨ob, _, _, h1, h2, _⟩ := dd
    exact ⟨ob, h1, h2.2.1⟩
  · obtain ⟨_, hd, xs, _, dd⟩ := dt_rd I.hok e
    refine ⟨dd.typeIs, fun b q => ?_, hd⟩
    cases q
    obtain ⟨ob, _, _, h1, h2, _⟩ := dd
    exact ⟨ob, h1, h2.2.1⟩

section
variable {X : Cx} {pins : List (Addr × Obj)} {σ : St} {H : Hp} {s : Shared} {a : Addr} {y d : V} {u r : Value} {o : Option V} {A : Around} {E : Value → Shared → Prop}
end

noncomputable def tDGet1 (td ty : TE) : TE := fun σ H Q => td σ H fun x H1 => ∃ a, x = .ref a ∧ IsD H1 a ∧ ty σ H1 fun y H2 => ∃ o, DGet H2 a y o ∧ Q (o.getD .non) H2
noncomputable def tDGet2 (td ty tx : TE) : TE := fun σ H Q => td σ H fun x H1 => ∃ a, x = .ref a ∧ IsD H1 a ∧ ty σ H1 fun y H2 => tx σ H2 fun z H3 => ∃ o, DGet H3 a y o ∧ Q (o.getD z) H3
noncomputable def tDPop1 (td ty : TE) : TE := fun σ H Q => td σ H fun x H1 => ∃ a, x = .ref a ∧ IsD H1 a ∧ ty σ H1 fun y H2 => ∃ kvs k v, H2 a = some (.dK kvs) ∧ y = kV k ∧ valV kvs k = some v ∧ Q v (upd H2 a (.dK (dropK kvs k)))
noncomputable def tDPop2 (td ty tx : TE) : TE := fun σ H Q => td σ H fun x H1 => ∃ a, x = .ref a ∧ IsD H1 a ∧ ty σ H1 fun y H2 => tx σ H2 fun z H3 => ∃ kvs k, H3 a = some (.dK kvs) ∧ y = kV k ∧
  (∀ v, valV kvs k = some v → Q v (upd H3 a (.dK (dropK kvs k)))) ∧ (valV kvs k = none → Q z H3)
section
variable {X : Cx} {o e f : Expr} {apos cpos : Pos} {td ty tx : TE}
end

section
variable {X : Cx} {pins : List (Addr × Obj)} {σ : St} {H : Hp} {s : Shared} {a : Addr} {kvs : List (Key × V)} {A : Around} {E : Value → Shared → Prop}
end


section
variable {X : Cx} {pins : List (Addr × Obj)} {σ : St} {H : Hp} {s : Shared} {a : Addr} {y : V} {u : Value} {A : Around} {E : Value → Shared → Prop}
end
end L2

namespace L2
open PySem PySem.Spec PyProof.Rows

section
variable {prog : Program} {w : World} {A : Around} {E : Value → Shared → Prop}
end

section
variable {X : Cx}
end
end L2

namespace L2
open PySem PySem.Spec PyProof.Rows

theorem boot_reversed5 : bootBuiltins "reversed" = some (.type "reversed") := by decide +kernel

section
variable {X : Cx} {pins : List (Addr × Obj)} {σ : St} {H : Hp} {s : Shared} {h' : Heap}
end
noncomputable def tLock (t : TS) : TS := fun D σ H => ∃ d u, H d = some u ∧ Mut (some u) ∧ ∀ od, t ⟨fun σ' H' => H' d = some (.frz od u) ∧ D.nx σ' (upd H' d u), fun v H' => H' d = some (.frz od u) ∧ D.rt v (upd H' d u), fun σ' H' => H' d = some (.frz od u) ∧ D.bk σ' (upd H' d u), fun σ' H' => H' d = some (.frz od u) ∧ D.ct σ' (upd H' d u)⟩ σ (upd H d (.frz od u))
noncomputable def tLockE (t : TE) : TE := fun σ H Q => ∃ d u, H d = some u ∧ Mut (some u) ∧ ∀ od, t σ (upd H d (.frz od u)) fun v H' => H' d = some (.frz od u) ∧ Q v (upd H' d u)
section
variable {X : Cx}
theorem pi_one {tg : Expr} {pins : List (Addr × Obj)} {σ : St} {H : Hp} {s : Shared} {R : It → Hp → Prop} {J : It} {tn : Nat → Heap → Prop} {tk : Nat} (I : Inv X pins σ H s) (o : Obj)
    (T : Turn X.prog X.w X.K tg J [s.heap.objs.size] s.heap.objs.size tn) (st : tn 0 (s.heap.push o)) (q : R J H) : PIE X pins σ tg R (.ref s.heap.objs.size) { s with heap := s.heap.push o, toks := tk } := by
  refine ⟨s.heap.objs.size, [s.heap.objs.size], tn, J, H, rfl, I.kept fun b ob e => Heap.get?_push_of_some _ e, T, st, fun b hb => ?_, q⟩
  have e : b = s.heap.objs.size := by simpa using hb
  subst e
  exact I.fpOk (Nat.le_refl _) (I.hok.fresh (Nat.le_refl _))
end

noncomputable def Itc (lo c : Int) (n : Nat) : It := ⟨fun i _ => i < n, fun i H x H' => H' = H ∧ x = .int (lo + (i : Nat) * c), fun i _ => n ≤ i⟩
theorem turn_rangeC {P : Program} {w : World} {K : PySem.W.Frag} {tg : Expr} (it : Addr) (lo c : Int) (n : Nat) : Turn P w K tg (Itc lo c n) [it] it (fun i h => IsRangeIter h it (lo + (i : Nat) * c) ((n : Int) - (i : Nat)) c) where
  mem := by simp
  obj := fun i h st b hb => by
    have e : b = it := by simpa using hb
    subst e
    exact ⟨_, st, fun v z => nomatch z⟩
  keep := fun i h h' st k => k it (by simp) _ st
  item := by
    intro X hP hw hK hc i pins s σ H E I hf st hg
    subst hP hw hK
    obtain ⟨f0, f1, f2, f3, f4, f5⟩ := hf it (by simp)
    have W := Walks.range (prog := X.prog) (w := X.w) (I.ok.hd hc) it lo c n
    refine W.item i s _ _ hg st fun v h' tk hv st' kk => ?_
    obtain ⟨t, rfl⟩ := hv
    have I1 : Inv X pins σ H { s with heap := h', toks := tk } := I.turned (fun b o hb e => kk b o (by simpa using hb) e) f0 f1 f3 f4 f5
    exact ⟨_, rfl, go_of (s := { s with heap := h', toks := tk }) (n := "range_iterator") st' rfl rfl (by decide) ⟨.int (lo + (i : Nat) * c), H, I1, ⟨t, rfl⟩, ⟨rfl, rfl⟩, st', fun b hb => (hf b hb).1⟩⟩
  done := by
    intro X hP hw hK hc i pins s σ H E I hf st hg
    subst hP hw hK
    obtain ⟨f0, f1, f2, f3, f4, f5⟩ := hf it (by simp)
    exact wpAny_pyNext_range_end (I.ok.hd hc) st (by have : n ≤ i := hg; omega) fun h' eb => ⟨rfl, I.turned (t' := s.toks) (fun b o hb e => eb b o hb e) f0 f1 f3 f4 f5⟩
  self := fun A i s Q E st h => wpAny_pyIter_rangeiter st h
noncomputable def RgC (i j c : Int) (n : Nat) : Prop := c ≠ 0 ∧ c.natAbs < 1073741824 ∧ Builtin.Range.small i j c = true ∧ Builtin.Range.rangeSize i j c = n
theorem RgC.neg {i j : Int} (ha : -(2 ^ 62) ≤ i) (ha' : i < 2 ^ 62) (hb : -(2 ^ 62) ≤ j) (hb' : j < 2 ^ 62) : RgC i j (-1) (i - j).toNat :=
  ⟨by decide, by decide, PySem.W.small_down ha ha' hb hb', PySem.W.rangeSize_downNat i j⟩
noncomputable def iRng3 (ta : TA) : TI := fun σ H R => ta σ H fun vs H1 => ∃ (i j c : Int) (n : Nat), vs = [.int i, .int j, .int c] ∧ RgC i j c n ∧ R (Itc i c n) H1
section
variable {X : Cx} {tg : Expr}
theorem pi_range3 {a b c : Expr} {ta : TA} {p pos : Pos} (hg : Gl X "range") (hm : X.mg "range" = none) (ha : PA X [a, b, c] ta)
    (hs : starEach [a, b, c] X.env = (false, eval a X.env) :: starEach [b, c] X.env := by rfl) (hpl : (backTo pos (starEach [b, c] X.env)).any (·.1) = false := by rfl) :
    PI X tg (.Call (.Name "range" p) [a, b, c] [] pos) (iRng3 ta) := by
  intro pins s σ H R I h
  refine Call_ (ld_blt I hg hm boot_range (PyProof.Rows.callWith_type1 (thn (ha pos pins s σ H _ I h) fun us s1 ⟨vs, H1, I1, r1, q1⟩ => ?_) hs hpl))
  obtain ⟨i, j, k, n, e, ⟨c0, c1, c2, c3⟩, q⟩ := q1
  subst e
  cases r1 with
  | cons r rr =>
    cases rr with
    | cons r' rr =>
      cases rr with
      | cons r'' rr =>
        cases rr
        obtain ⟨t, rfl⟩ := r
        obtain ⟨t', rfl⟩ := r'
        obtain ⟨t'', rfl⟩ := r''
        refine call_range_3 c0 ?_ (.inl (PyProof.noPylong_small c1))
        refine wpAny_pyIter_range (IsRange.new ..) c2 ?_
        have I2 : Inv X pins σ H1 { s1 with heap := s1.heap.push { cls := .type "range", data := .fields #[.int i t, .int j t', .int k t''] } } := I1.kept (t' := s1.toks) fun b o e => Heap.get?_push_of_some _ e
        refine pi_one (tk := s1.toks) I2 _ (turn_rangeC _ i k n) ?_ q
        have e1 : i + ((0 : Nat) : Int) * k = i := by simp
        have e2 : (n : Int) - ((0 : Nat) : Int) = Builtin.Range.rangeSize i j k := by rw [c3]; simp
        show IsRangeIter _ _ (i + ((0 : Nat) : Int) * k) ((n : Int) - ((0 : Nat) : Int)) k
        rw [e1, e2]
        exact Heap.get?_push_size _ rfl
end
theorem for_rangeC {lo c : Int} {n : Nat} {g : TG} {tb : TS} {D : Ends} {σ : St} {H : Hp} (Pv : Nat → St → Hp → Prop) (h0 : Pv 0 σ H)
    (hs : ∀ i σ H, i < n → Pv i σ H → g (.int (lo + (i : Nat) * c)) σ H fun σ2 H2 => tb { D with nx := Pv (i + 1), ct := Pv (i + 1), bk := D.nx } σ2 H2) (hd : ∀ σ H, Pv n σ H → D.nx σ H) :
    ∃ W : Nat → Nat → St → Hp → Prop, (∃ m, W 0 m σ H) ∧ ∀ i m σ H, W i m σ H →
      ((Itc lo c n).stop i H ∧ D.nx σ H) ∨ ((Itc lo c n).go i H ∧ ∃ N : St → Hp → Prop, (∀ σ' H', N σ' H' → ∃ m', m' < m ∧ W (i + 1) m' σ' H') ∧ ∀ x H', (Itc lo c n).yld i H x H' → g x σ H' fun σ2 H2 => tb { D with nx := N, ct := N, bk := D.nx } σ2 H2) := by
  refine ⟨fun i m σ H => m = n - i ∧ i ≤ n ∧ Pv i σ H, ⟨n, by simp, Nat.zero_le _, h0⟩, ?_⟩
  rintro i m σ H ⟨rfl, hi, p⟩
  by_cases hlt : i < n
  · refine .inr ⟨hlt, Pv (i + 1), fun σ' H' p' => ⟨n - (i + 1), by omega, rfl, hlt, p'⟩, fun x H' y => ?_⟩
    obtain ⟨e, y⟩ := y
    subst e y
    exact hs i σ _ hlt p
  · have e : i = n := by omega
    subst e
    exact .inl ⟨Nat.le_refl _, hd σ H p⟩

noncomputable def Itv (K : PySem.W.Frag) (a : Addr) (n : Nat) : It :=
  ⟨fun i H => i < n ∧ ∃ (xs : List V) (x : V), SqL K H a xs ∧ xs[n - 1 - i]? = some x, fun i H x H' => H' = H ∧ ∀ xs, SqL K H a xs → xs[n - 1 - i]? = some x, fun i _ => n ≤ i⟩
noncomputable def iRev (K : PySem.W.Frag) (ta : TA) : TI := fun σ H R => ta σ H fun vs H1 => ∃ (a : Addr) (xs : List V), vs = [.ref a] ∧ SqL K H1 a xs ∧ R (Itv K a xs.length) H1
section
variable {X : Cx} {tg : Expr}
end

noncomputable def Its (x : Str) : It := ⟨fun i _ => i < x.cps.size, fun i H v H' => H' = H ∧ ∃ c, x.cps[i]? = some c ∧ v = .str ⟨#[c]⟩, fun i _ => x.cps.size ≤ i⟩
noncomputable def iStr (te : TE) : TI := fun σ H R => te σ H fun v H1 => ∃ x, v = .str x ∧ R (Its x) H1
section
variable {prog : Program} {w : World} {A : Around} {E : Value → Shared → Prop} {s : Shared}
end

section
variable {X : Cx} {pins : List (Addr × Obj)} {σ : St} {H : Hp} {s : Shared} {d : Addr} {o : Obj}
end

noncomputable def Itk (d : Addr) (o : Obj) (kvs : List (Key × V)) : It :=
  ⟨fun i H => H d = some (.frz o (.dK kvs)) ∧ i < kvs.length, fun i H x H' => H' = H ∧ ∃ k v, kvs[i]? = some (k, v) ∧ x = kV k, fun i H => H d = some (.frz o (.dK kvs)) ∧ kvs.length ≤ i⟩
noncomputable def Itkt (d : Addr) (o : Obj) (kvs : List (List Key × V)) : It :=
  ⟨fun i H => H d = some (.frz o (.dT kvs)) ∧ i < kvs.length, fun i H x H' => H' = H ∧ ∃ (k : List Key) (v : V) (q : Addr), kvs[i]? = some (k, v) ∧ x = .ref q ∧ H q = some (.tup (k.map kV)), fun i H => H d = some (.frz o (.dT kvs)) ∧ kvs.length ≤ i⟩
noncomputable def Itd (d : Addr) (o : Obj) (kvs : List (Key × V)) : It :=
  ⟨fun i H => H d = some (.frz o (.dK kvs)) ∧ i < kvs.length, fun i H x H' => H' = H ∧ ∃ k, kvs[i]? = some (k, x), fun i H => H d = some (.frz o (.dK kvs)) ∧ kvs.length ≤ i⟩
noncomputable def Iti (d : Addr) (o : Obj) (kvs : List (Key × V)) : It :=
  ⟨fun i H => H d = some (.frz o (.dK kvs)) ∧ i < kvs.length, fun i H x H' => ∃ T k v, kvs[i]? = some (k, v) ∧ x = .ref T ∧ H T = none ∧ H' = upd H T (.tup [kV k, v]), fun i H => H d = some (.frz o (.dK kvs)) ∧ kvs.length ≤ i⟩
section
variable {P : Program} {w : World} {K : PySem.W.Frag} {tg : Expr} {d : Addr} {o : Obj} {es : Array DictEntry} {ep : Nat}
end

noncomputable def iKeys (td : TE) : TI := fun σ H R => td σ H fun x H1 => ∃ d o, x = .ref d ∧ ((∃ kvs, H1 d = some (.frz o (.dK kvs)) ∧ R (Itk d o kvs) H1) ∨ ∃ kvs, H1 d = some (.frz o (.dT kvs)) ∧ R (Itkt d o kvs) H1)
noncomputable def iVals (td : TE) : TI := fun σ H R => td σ H fun x H1 => ∃ d o kvs, x = .ref d ∧ H1 d = some (.frz o (.dK kvs)) ∧ R (Itd d o kvs) H1
noncomputable def iItems (td : TE) : TI := fun σ H R => td σ H fun x H1 => ∃ d o kvs, x = .ref d ∧ H1 d = some (.frz o (.dK kvs)) ∧ R (Iti d o kvs) H1
noncomputable def iKeysM (td : TE) : TI := fun σ H R => td σ H fun x H1 => ∃ d o kvs, x = .ref d ∧ H1 d = some (.frz o (.dK kvs)) ∧ R (Itk d o kvs) H1
section
variable {X : Cx} {tg e : Expr} {td : TE} {apos cpos : Pos}
end

noncomputable def Ite (K : PySem.W.Frag) (a : Addr) : It :=
  ⟨fun i H => ∃ (xs : List V) (x : V), SqL K H a xs ∧ xs[i]? = some x, fun i H v H' => ∃ T x, v = .ref T ∧ H T = none ∧ H' = upd H T (.tup [.int (i : Nat), x]) ∧ ∀ xs, SqL K H a xs → xs[i]? = some x, fun i H => ∃ xs : List V, SqL K H a xs ∧ xs.length ≤ i⟩
noncomputable def iEnum (K : PySem.W.Frag) (ta : TA) : TI := fun σ H R => ta σ H fun vs H1 => ∃ a xs, vs = [.ref a] ∧ SqL K H1 a xs ∧ R (Ite K a) H1
noncomputable def Itz (K : PySem.W.Frag) (a b : Addr) : It :=
  ⟨fun i H => ∃ (xs ys : List V) (x y : V), SqL K H a xs ∧ SqL K H b ys ∧ xs[i]? = some x ∧ ys[i]? = some y,
    fun i H v H' => ∃ T x y, v = .ref T ∧ H T = none ∧ H' = upd H T (.tup [x, y]) ∧ (∀ xs, SqL K H a xs → xs[i]? = some x) ∧ ∀ ys, SqL K H b ys → ys[i]? = some y,
    fun i H => ∃ xs ys : List V, SqL K H a xs ∧ SqL K H b ys ∧ (xs.length ≤ i ∨ ys.length ≤ i)⟩
noncomputable def iZip (K : PySem.W.Frag) (ta : TA) : TI := fun σ H R => ta σ H fun vs H1 => ∃ a b xs ys, vs = [.ref a, .ref b] ∧ SqL K H1 a xs ∧ SqL K H1 b ys ∧ R (Itz K a b) H1
end L2

section 
namespace Bits
open PySem PyProof.Rows

end Bits
end 

section 
namespace TL
open PySem PySem.Builtin PySem.Builtin.Str PySem.StrLaws

noncomputable abbrev tl (x : Str) : List Nat := x.cps.toList
noncomputable def pre (S l : List Nat) : Bool := l.take S.length == S
noncomputable def spl (S : List Nat) : Nat → List Nat → List Nat → List (List Nat)
  | _, acc, [] => [acc]
  | 0, acc, c :: r => if pre S (c :: r) = true then acc :: spl S (S.length - 1) [] r else spl S 0 (acc ++ [c]) r
  | k + 1, acc, _ :: r => spl S k acc r
noncomputable def par (S : List Nat) : List Nat → List Nat → Option (List Nat × List Nat)
  | _, [] => none
  | acc, c :: r => if pre S (c :: r) = true then some (acc, (c :: r).drop S.length) else par S (acc ++ [c]) r

noncomputable def joinL (S : List Nat) : List (List Nat) → List Nat
  | [] => []
  | [p] => p
  | p :: q :: r => p ++ (S ++ joinL S (q :: r))
noncomputable def numL (n : Nat) : List Nat := (Nat.toDigits 10 n).map Char.toNat
noncomputable def wstep (st : List (List Nat) × List Nat) (c : Nat) : List (List Nat) × List Nat :=
  if Unicode.isSpace c = true then (if st.2 = [] then st else (st.1 ++ [st.2], [])) else (st.1, st.2 ++ [c])
noncomputable def wfin (st : List (List Nat) × List Nat) : List (List Nat) := if st.2 = [] then st.1 else st.1 ++ [st.2]
end TL
end 

namespace L2
open PySem PySem.Spec PyProof.Rows

noncomputable def rNewStrs (ys : List Str) : Hp → VK → Prop := fun H Q => ∀ p, H p = none → Q (.ref p) (upd H p (.lst (ys.map V.str)))

section
variable {X : Cx} {pins : List (Addr × Obj)} {σ : St} {H : Hp} {s : Shared} {Q : VK}
end

section
variable {X : Cx}

end

section
variable {X : Cx} {o e : Expr} {to te : TE}
noncomputable def tM0 (r : V → List V → Hp → VK → Prop) (to : TE) : TE := fun σ H Q => to σ H fun x H1 => (∃ a, x = .str a) ∧ r x [] H1 Q
noncomputable def tM1 (r : V → List V → Hp → VK → Prop) (to te : TE) : TE := fun σ H Q => to σ H fun x H1 => (∃ a, x = .str a) ∧ te σ H1 fun y H2 => r x [y] H2 Q
end
end L2

namespace L2
open PySem PySem.Spec PyProof.Rows

section
variable {X : Cx}
end

noncomputable def clipS (n d : Nat) : Option Int → Int
  | none => (d : Int)
  | some i => max 0 (min (if i < 0 then i + (n : Int) else i) (n : Int))
noncomputable def cutS (z : Str) (lo hi : Option Int) : Str :=
  ⟨((z.cps.toList.drop (HT.sIx z.length 0 lo)).take (HT.sIx z.length z.length hi - HT.sIx z.length 0 lo)).toArray⟩
noncomputable def rSlS : V → Option Int → Option Int → Hp → VK → Prop := fun x lo hi H Q => ∃ z, x = .str z ∧ z.length ≤ sizeLine ∧ Q (.str (cutS z lo hi)) H
end L2

namespace Att
open PySem PySem.W PySem.Calls PyProof.Rows

section
variable {prog : Program} {w : World} {A : Around} {E : Value → Shared → Prop} {s : Shared} {K : Frag}

noncomputable def noObjs (h : Heap) : Heap := { h with objs := #[] }
noncomputable def ledger (h : Heap) (L d : Addr) : List (Addr × Obj) := (List.range h.objs.size).filterMap fun a => if a = L ∨ a = d then none else (h.get? a).map fun o => (a, o)
end
end Att

namespace L2
open PySem PySem.Spec PyProof.Rows

noncomputable def Only (H : Hp) : Prop := ∀ b, H b = none ∨ ∃ o xs, H b = some (.frz o (.lst xs))

end L2

namespace L2
open PySem PySem.Spec PyProof.Rows

noncomputable abbrev KOf {K : PySem.W.Frag} {h : Heap} (_ : K.In h) : PySem.W.Frag := K

end L2

/- THE LAST THEOREM (shape; LID, My.* are yours):
   My.Adr: a structure of the addresses that your layer names (classes, functions); My.Txt K t: a structure (Prop) of the equations over K;
   My.txt_mk : {K} {implicit addresses ..} (e1 : nsIn K mainGlobals "law" = some (some (.ref f))) (e2 : K.lookup f = some ⟨oc, od, .func (fnOf "law" "law" params body scope dV kV doc pm an cdv ct), sl⟩) (e3 : codeIn K cdv "law" = true) .. : ∃ t, My.Txt K t

set_option maxRecDepth 100000 in
set_option maxHeartbeats 0 in
theorem PySem.Challenge.cw_LID_holds : PySem.Challenge.rw_LID.Holds := by
  w_on; o_law; k_head; (case hw => w_witness2)
  k_fill
  refine L2.walk_of (l := PySem.Challenge.rw_LID) (n := 63) (k := 40) (x := "script") (CX := fun w => ..) (sp := fun _ => My.sp_law) rfl (by decide) rfl ⟨rfl, by decide, by decide⟩ (fun w h Y => PySem.W.kIn_of Y) ?F ?S ?C
  case F =>
    intro w mg fa h KX G hmg
    have T : ∃ t, My.Txt (L2.KOf KX) t := by
      dsimp only [L2.KOf]                          -- K must stand as «<heap const> w.params» for k_is
      refine' My.txt_mk ?e1 ?e2 ?e3 ..
      (case e1 => PySem.W.k_is)                    -- in the order: a name -> its address -> its object -> its parts
      (case e2 => PySem.W.k_is)
      ..
    obtain ⟨t, T⟩ := T
    have e0 := hmg.symm.trans (PySem.W.mg_of KX G T.law)
    cases e0                                       -- fa is the law's own address
    exact ⟨_, fun s u => .of_eq rfl, fun base kb nb => My.law_fn T kb nb⟩     -- if «.of_eq rfl» comes too early: refine' ⟨_, ?b, fun base kb nb => My.law_fn T kb nb⟩; exact fun s u => .of_eq rfl
  case S => exact fun w H a ns hl hO hS => ..
  case C => exact ..
(the tactic k_is has no namespace: write k_is) -/

namespace L2
open PySem PySem.Spec PyProof.Rows

noncomputable def inClass (s : Stmt) (j : Nat) : Stmt := match s with
  | .ClassDef _ _ _ body _ _ _ _ _ _ _ => body.getD j (.Pass ⟨0, 0, 0, 0⟩)
  | _ => .Pass ⟨0, 0, 0, 0⟩
noncomputable def defArgs (s : Stmt) : Arguments := match s with
  | .FunctionDef _ a _ _ _ _ _ _ _ _ => a
  | _ => { posonlyargs := [], args := [], vararg := none, kwonlyargs := [], kw_defaults := [], kwarg := none, defaults := [] }
noncomputable def defBody (s : Stmt) : List Stmt := match s with
  | .FunctionDef _ _ b _ _ _ _ _ _ _ => b
  | _ => []
noncomputable def defScope (s : Stmt) : Scope := match s with
  | .FunctionDef _ _ _ _ _ _ sc _ _ _ => sc
  | _ => { kind := .function, names := [], isGenerator := false, isCoroutine := false }

noncomputable abbrev CX0 : CXT := fun _ _ _ _ _ _ => False
noncomputable abbrev E0 : XK := fun _ _ _ => False
theorem pass0 {X : Cx} : Passes CX0 X E0 := fun _ _ _ _ _ _ _ h => h.elim

structure Fun (K : PySem.W.Frag) (x qual : Str) (st : Stmt) (f : Addr) (fd : FuncData) : Prop where
  ex : ∃ (oc : Value) (od : Option Addr) (kV doc pm : Value) (an : Option Addr) (cdv ct : Value) (osl : Array (Option Value)),
    fd = PySem.W.fnOf x qual (defArgs st) (defBody st) (defScope st) .none kV doc pm an cdv ct ∧ K.lookup f = some ⟨oc, od, .func fd, osl⟩ ∧ PySem.W.codeIn K cdv qual = true
  kp : PySem.W.keepIn K (.ref f) = true
section
variable {P : Program} {w : World} {K : PySem.W.Frag} {mg : Str → Option Value} {base : Heap}
theorem Fun.ok {x qual : Str} {st : Stmt} {f : Addr} {fd : FuncData} {N ps : List Str} {k : Nat} {sp : Sp} (F : Fun K x qual st f fd) (S : FnScope N ps (defScope st)) (len : ∀ vs H Q E, sp vs H Q E → vs.length = ps.length)
    (hbody : ∀ (cdv : Value) (A : Around) (outer : List Env) (s : Shared) (H : Hp) (vs : List V) (Q : VK) (E : XK), Room k (A.deeper (envOfC qual (defScope st) s.heap.objs.size f cdv)) → sp vs H Q E →
      ∃ t, PSs (cxOf CX0 P w K mg base N qual (defScope st) f cdv A outer s H E).nox (defBody st) t ∧ t { nx := fun _ H' => Q .non H', rt := Q } (start N vs) H) : FnOk P w K mg base CX0 (k + 1) f fd ps sp := by
  obtain ⟨oc, od, kV, doc, pm, an, cdv, ct, osl, rfl, lk, hcd⟩ := F.ex
  refine fn_of lk hcd S len fun A outer s H vs Q E hr hsp => ?_
  obtain ⟨t, h, q⟩ := hbody cdv A outer s H vs Q E hr hsp
  exact ⟨t, h.nox, q⟩
theorem Fun.binds {x qual : Str} {st : Stmt} {f : Addr} {fd : FuncData} {ps : List Str} (F : Fun K x qual st f fd)
    (h : ∀ (kV doc pm : Value) (an : Option Addr) (cdv ct : Value) (us : List Value), us.length = ps.length → bindArgs (PySem.W.fnOf x qual (defArgs st) (defBody st) (defScope st) .none kV doc pm an cdv ct) ⟨us, []⟩ = pure (ps.zip us)) : Binds K fd ps [] := by
  obtain ⟨oc, od, kV, doc, pm, an, cdv, ct, osl, rfl, lk, hcd⟩ := F.ex
  exact .all (h kV doc pm an cdv ct)
theorem fun_mk {x qual : Str} {st : Stmt} {f : Addr} {oc : Value} {od an : Option Addr} {osl : Array (Option Value)} {kV doc pm cdv ct : Value} (l : K.lookup f = some ⟨oc, od, .func (PySem.W.fnOf x qual (defArgs st) (defBody st) (defScope st) .none kV doc pm an cdv ct), osl⟩)
    (c : PySem.W.codeIn K cdv qual = true) (k : PySem.W.keepIn K (.ref f) = true) : Fun K x qual st f (PySem.W.fnOf x qual (defArgs st) (defBody st) (defScope st) .none kV doc pm an cdv ct) := ⟨⟨oc, od, kV, doc, pm, an, cdv, ct, osl, rfl, l, c⟩, k⟩
end
theorem hu_of {A : Around} {k : Nat} (hr : Room k A) : A.units + 1 < cLine := Nat.lt_of_le_of_lt (Nat.add_le_add_left (by decide : 1 ≤ 64) _) hr.units
theorem small1000 {n : Nat} (h : n ≤ 1000) : n < sizeLine := Nat.lt_of_le_of_lt h (by decide)

section
variable {X : Cx}
theorem pv (i : Nat) {x : Str} {pos : Pos} (hN : X.N[i]? = some x := by rfl) (hv : Vis X.env.scope x := by first | exact Or.inl rfl | exact Or.inr (Or.inl rfl) | exact Or.inr (Or.inr rfl)) (hd : (x == ("__debug__" : Str)) = false := by decide)
    (hcd : (x == ("__classdict__" : Str)) = false := by decide) : PE X (.Name x pos) (tVar i) := pe_var hN hv hd hcd
end

theorem iteF {A B : Prop} (h : B) : if false = true then A else B := by
  rw [if_neg Bool.false_ne_true]
  exact h
theorem iteT {A B : Prop} (h : A) : if true = true then A else B := by
  rw [if_pos rfl]
  exact h
theorem ite2 {c A B : Prop} [Decidable c] (h1 : c → A) (h2 : ¬ c → B) : if c then A else B := by
  by_cases h : c
  · rw [if_pos h]
    exact h1 h
  · rw [if_neg h]
    exact h2 h
noncomputable def Same (H H' : Hp) : Prop := ∀ b o, H b = some o → H' b = some o
theorem Same.refl (H : Hp) : Same H H := fun _ _ h => h
theorem Same.trans {H H1 H2 : Hp} (a : Same H H1) (b : Same H1 H2) : Same H H2 := fun c o h => b c o (a c o h)
theorem Same.free {H H' : Hp} (e : Same H H') {l : Addr} (h : H' l = Option.none) : H l = Option.none := by
  cases q : H l with
  | none => rfl
  | some o =>
    rw [e l o q] at h
    cases h
theorem Same.seq {K : PySem.W.Frag} {H H' : Hp} {a : Addr} {xs : List V} (e : Same H H') (h : SqL K H a xs) : SqL K H' a xs := by
  rcases h with (h | ⟨o, h⟩) | h
  · exact .inl (.inl (e _ _ h))
  · exact .inl (.inr ⟨o, e _ _ h⟩)
  · exact .inr h

section
variable {κ : Type} [DecidableEq κ]
theorem dropK_pos {p : κ × V} {r : List (κ × V)} {k : κ} (e : p.1 = k) : dropK (p :: r) k = dropK r k := by
  unfold dropK
  rw [List.filter_cons, if_neg (by simp [e])]
theorem dropK_neg {p : κ × V} {r : List (κ × V)} {k : κ} (e : ¬ p.1 = k) : dropK (p :: r) k = p :: dropK r k := by
  unfold dropK
  rw [List.filter_cons, if_pos (by simp [e])]
theorem dropK_mem {kvs : List (κ × V)} {k : κ} {p : κ × V} (h : p ∈ dropK kvs k) : p ∈ kvs := (List.mem_filter.mp h).1
end
theorem at_of {xs : List V} {z : Int} {j : Nat} {v : V} (e : z = (j : Int)) (h : xs[j]? = some v) : atI xs z = some v := by
  rw [e]
  exact atI_nat h
theorem Same.made {H H1 : Hp} {x dx C : Addr} (nx : H x = Option.none) (nd : H dx = Option.none) (k : ∀ b o, (upd (upd H dx (.own x)) x (.ins C dx [])) b = some o → b ≠ x → H1 b = some o) : Same H H1 := fun b o e =>
  k b o (by rw [upd_ne (ne_of_none e nx), upd_ne (ne_of_none e nd)]; exact e) (ne_of_none e nx)
end L2
end
section
section
set_option Elab.async false
set_option linter.all false
set_option maxRecDepth 100000
set_option maxHeartbeats 2000000
namespace L2
open PySem PySem.Spec PyProof.Rows
open PySem.W (WData Codec OpenSpec Well WellAll ReadsW ReadsAllW)
mutual
inductive Dw (K : PySem.W.Frag) (H : Hp) : V → WData → Prop
  | non : Dw K H .non .none
  | bl (b : Bool) : Dw K H (.bl b) (.bool b)
  | int (i : Int) : Dw K H (.int i) (.int i)
  | str (x : Str) : Dw K H (.str x) (.str x)
  | byt (b : Array UInt8) : Dw K H (.byt b) (.bytes b.toList)
  | lst {a : Addr} {xs : List V} {ds : List WData} : SqL K H a xs → DwAll K H xs ds → Dw K H (.ref a) (.list ds)
  | tup {a : Addr} {xs : List V} {ds : List WData} : SqT K H a xs → DwAll K H xs ds → Dw K H (.ref a) (.tuple ds)
inductive DwAll (K : PySem.W.Frag) (H : Hp) : List V → List WData → Prop
  | nil : DwAll K H [] []
  | cons {v : V} {vs : List V} {d : WData} {ds : List WData} : Dw K H v d → DwAll K H vs ds → DwAll K H (v :: vs) (d :: ds)
end
theorem dw_ints {K : PySem.W.Frag} {H : Hp} : ∀ ns : List Int, DwAll K H (ns.map V.int) (ns.map WData.int)
  | [] => .nil
  | n :: r => .cons (.int n) (dw_ints r)
theorem ints_dw {K : PySem.W.Frag} {H : Hp} : ∀ (ns : List Int) (xs : List V), DwAll K H xs (ns.map WData.int) → xs = ns.map V.int
  | [], xs, h => by
    cases h
    rfl
  | n :: r, xs, h => by
    cases h with
    | cons h1 h2 =>
      cases h1
      rw [ints_dw r _ h2] <;> rfl
section
variable {P : Program} {w : World} {K : PySem.W.Frag} {H : Hp} {h : Heap} {R : PySem.W.WRecords} {cl : Str → Option Addr}
theorem sqL_at {a : Addr} {xs : List V} (hok : HOk P w H h) (KX : K.In h) (q : SqL K H a xs) : ∃ (its : List Value) (o : Obj) (n : Nat), Vals xs its ∧ h.get? a = some o ∧ o.cls = .type "list" ∧ o.data = .seq its.toArray n := by
  rcases q with q | ⟨o, its, n, e, hc, _, hd, _, hv⟩
  · obtain ⟨_, its, n, hv, e⟩ := (show ObjOk P w H h a (.lst xs) from q.ok hok)
    exact ⟨its, _, n, hv, e, rfl, rfl⟩
  · exact ⟨its.toList, o, n, hv, KX _ _ e, hc, by simp [hd]⟩
theorem sqT_at {a : Addr} {xs : List V} (hok : HOk P w H h) (KX : K.In h) (q : SqT K H a xs) : ∃ (its : List Value) (o : Obj) (n : Nat), Vals xs its ∧ h.get? a = some o ∧ o.cls = .type "tuple" ∧ o.data = .seq its.toArray n := by
  rcases q with q | ⟨o, its, n, e, hc, hd, _, hv⟩
  · obtain ⟨_, its, hv, o, e, hc, n, hd⟩ := (show ObjOk P w H h a (.tup xs) from q.ok hok)
    exact ⟨its, o, n, hv, e, hc, hd⟩
  · exact ⟨its.toList, o, n, hv, KX _ _ e, hc, by simp [hd]⟩
mutual
theorem Dw.reads (hok : HOk P w H h) (KX : K.In h) : ∀ (d : WData) (v : V) (u : Value), Dw K H v d → RelV v u → ∃ as, ReadsW R cl h u d as
  | .none, _, _, x, r => by
    cases x
    cases r
    exact ⟨_, ReadsW.none⟩
  | .bool b, _, _, x, r => by
    cases x
    cases r
    exact ⟨_, ReadsW.bool b⟩
  | .int i, _, _, x, r => by
    cases x
    obtain ⟨t, rfl⟩ := r
    exact ⟨_, ReadsW.int i t⟩
  | .str s, _, _, x, r => by
    cases x
    obtain ⟨t, rfl⟩ := r
    exact ⟨_, ReadsW.str s t⟩
  | .bytes b, _, _, x, r => by
    cases x
    obtain ⟨t, rfl⟩ := r
    exact ⟨_, ReadsW.bytes _ t⟩
  | .list ds, _, _, x, r => by
    cases x with
    | lst hs ha =>
      cases r
      obtain ⟨its, o, n, rv, ho, hc, hd⟩ := sqL_at hok KX hs
      obtain ⟨as, hr⟩ := Dw.readsAll hok KX ds _ its ha rv
      exact ⟨_, ReadsW.list ho hc hd hr⟩
  | .tuple ds, _, _, x, r => by
    cases x with
    | tup hs ha =>
      cases r
      obtain ⟨its, o, n, rv, ho, hc, hd⟩ := sqT_at hok KX hs
      obtain ⟨as, hr⟩ := Dw.readsAll hok KX ds _ its ha rv
      exact ⟨_, ReadsW.tuple ho hc hd hr⟩
  | .float _, _, _, x, _ => by cases x
  | .dict _, _, _, x, _ => by cases x
  | .bytearray _, _, _, x, _ => by cases x
  | .set _, _, _, x, _ => by cases x
  | .frozenset _, _, _, x, _ => by cases x
  | .obj _ _, _, _, x, _ => by cases x
theorem Dw.readsAll (hok : HOk P w H h) (KX : K.In h) : ∀ (ds : List WData) (vs : List V) (us : List Value), DwAll K H vs ds → Vals vs us → ∃ as, ReadsAllW R cl h us ds as
  | [], _, _, x, r => by
    cases x
    cases r
    exact ⟨_, ReadsAllW.nil⟩
  | d :: ds, _, _, x, r => by
    cases x with
    | cons h1 h2 =>
      cases r with
      | cons r1 r2 =>
        obtain ⟨as, q1⟩ := Dw.reads hok KX d _ _ h1 r1
        obtain ⟨bs, q2⟩ := Dw.readsAll hok KX ds _ _ h2 r2
        exact ⟨_, ReadsAllW.cons q1 q2⟩
end
end
mutual
noncomputable def plW : WData → Bool
  | .none => true
  | .bool _ => true
  | .int _ => true
  | .str _ => true
  | .bytes _ => true
  | .list xs => plWs xs
  | .tuple xs => plWs xs
  | _ => false
noncomputable def plWs : List WData → Bool
  | [] => true
  | x :: r => plW x && plWs r
end
theorem plWs_map {α : Type} {f : α → WData} (h : ∀ a, plW (f a) = true) : ∀ l : List α, plWs (l.map f) = true
  | [] => rfl
  | x :: r => by
    show (plW (f x) && plWs (r.map f)) = true
    rw [h x, plWs_map h r] <;> rfl
theorem pl_enc : ∀ (c : Codec) (a : c.denote), plW (c.enc a) = true
  | .unit, _ => rfl
  | .bool, _ => rfl
  | .int _ _, _ => rfl
  | .nat _ _, _ => rfl
  | .u8, _ => rfl
  | .bytes _ _, _ => rfl
  | .text _ _ _ _, _ => rfl
  | .list _ _ c, a => plWs_map (fun x => pl_enc c x) a
  | .pair c d, a => by
    show (plW (c.enc a.1) && (plW (d.enc a.2) && true)) = true
    rw [pl_enc c a.1, pl_enc d a.2] <;> rfl
  | .triple c d e, a => by
    show (plW (c.enc a.1) && (plW (d.enc a.2.1) && (plW (e.enc a.2.2) && true))) = true
    rw [pl_enc c a.1, pl_enc d a.2.1, pl_enc e a.2.2] <;> rfl
  | .option c, none => rfl
  | .option c, some x => pl_enc c x
theorem pl_encAll : ∀ (cs : List Codec) (a : Codec.denoteAll cs), plWs (Codec.encAll cs a) = true
  | [], _ => rfl
  | c :: cs, a => by
    show (plW (c.enc a.1) && plWs (Codec.encAll cs a.2)) = true
    rw [pl_enc c a.1, pl_encAll cs a.2] <;> rfl
theorem weight_mem : ∀ {xs : List WData} {d : WData}, d ∈ xs → d.weight ≤ WData.weightAll xs
  | [], d, h => absurd h (by simp)
  | x :: r, d, h => by
    show d.weight ≤ x.weight + 1 + WData.weightAll r
    rcases List.mem_cons.mp h with e | m
    · rw [e]
      omega
    · have z := weight_mem m
      omega
noncomputable def toV : Value → V
  | .none => .non
  | .bool b => .bl b
  | .int i _ => .int i
  | .str x _ => .str x
  | .bytes b _ => .byt b
  | .ref a => .ref a
  | _ => .non
noncomputable def OkU (A : List Addr) : Value → Prop
  | .none => True
  | .bool _ => True
  | .int _ _ => True
  | .str _ _ => True
  | .bytes _ _ => True
  | .ref a => a ∈ A
  | _ => False
theorem OkU.mono {A B : List Addr} (h : ∀ a ∈ A, a ∈ B) : ∀ {u : Value}, OkU A u → OkU B u := fun {u} x => by
  cases u with
  | ref a => exact h a x
  | none => trivial
  | bool b => trivial
  | int i t => trivial
  | str s t => trivial
  | bytes b t => trivial
  | _ => exact False.elim x
theorem relV_toV {A : List Addr} {u : Value} (x : OkU A u) : RelV (toV u) u := by
  cases u with
  | ref a => rfl
  | none => rfl
  | bool b => rfl
  | int i t => exact ⟨t, rfl⟩
  | str s t => exact ⟨t, rfl⟩
  | bytes b t => exact ⟨t, rfl⟩
  | _ => exact False.elim x
theorem vals_toV {A : List Addr} : ∀ {vs : List Value}, (∀ u ∈ vs, OkU A u) → Vals (vs.map toV) vs
  | [], _ => .nil
  | u :: r, h => .cons (relV_toV (h u (List.mem_cons_self ..))) (vals_toV fun x hx => h x (List.mem_cons_of_mem _ hx))
noncomputable def ArgOb (h : Heap) (A : List Addr) (a : Addr) : Prop := ∃ vs : List Value, vs.length ≤ sizeLine ∧ (∀ u ∈ vs, OkU A u) ∧
  (h.get? a = some { cls := .type "list", data := .seq vs.toArray } ∨ h.get? a = some { cls := .type "tuple", data := .seq vs.toArray })
theorem ArgOb.mono {h : Heap} {A B : List Addr} {a : Addr} (k : ∀ a ∈ A, a ∈ B) (x : ArgOb h A a) : ArgOb h B a := by
  obtain ⟨vs, h1, h2, h3⟩ := x
  exact ⟨vs, h1, fun u hu => (h2 u hu).mono k, h3⟩
theorem wellAll_len {P : Params} {h : Heap} : ∀ {vs : List Value} {ds : List WData}, WellAll P h vs ds → vs.length = ds.length
  | _, _, .nil => rfl
  | _, _, .cons _ b => by
    show _ + 1 = _ + 1
    rw [wellAll_len b]
theorem well_list {P : Params} {h : Heap} {v : Value} {ds : List WData} (x : Well P h v (.list ds)) : ∃ (a : Addr) (vs : List Value), v = .ref a ∧ h.get? a = some { cls := .type "list", data := .seq vs.toArray } ∧ WellAll P h vs ds := by
  cases x with
  | list ho hall => exact ⟨_, _, rfl, ho, hall⟩
theorem well_tuple {P : Params} {h : Heap} {v : Value} {ds : List WData} (x : Well P h v (.tuple ds)) : ∃ (a : Addr) (vs : List Value), v = .ref a ∧ h.get? a = some { cls := .type "tuple", data := .seq vs.toArray } ∧ WellAll P h vs ds := by
  cases x with
  | tuple ho hall => exact ⟨_, _, rfl, ho, hall⟩
theorem well_cons {P : Params} {h : Heap} {us : List Value} {d : WData} {ds : List WData} (x : WellAll P h us (d :: ds)) : ∃ (v : Value) (vs : List Value), us = v :: vs ∧ Well P h v d ∧ WellAll P h vs ds := by
  cases x with
  | cons a b => exact ⟨_, _, rfl, a, b⟩
theorem line_of {n : Nat} (h : n ≤ 1048576) : n ≤ sizeLine := Nat.le_trans h (by decide)
section
variable {P : Params} {h : Heap}
mutual
theorem area_one : ∀ (d : WData) (v : Value), Well P h v d → plW d = true → d.weight ≤ 1048576 → ∃ A : List Addr, OkU A v ∧ ∀ a ∈ A, ArgOb h A a
  | .none, _, x, _, _ => by
    cases x
    exact ⟨[], trivial, fun a m => absurd m (by simp)⟩
  | .bool b, _, x, _, _ => by
    cases x
    exact ⟨[], trivial, fun a m => absurd m (by simp)⟩
  | .int i, _, x, _, _ => by
    cases x
    exact ⟨[], trivial, fun a m => absurd m (by simp)⟩
  | .str s, _, x, _, _ => by
    cases x
    exact ⟨[], trivial, fun a m => absurd m (by simp)⟩
  | .bytes b, _, x, _, _ => by
    cases x
    exact ⟨[], trivial, fun a m => absurd m (by simp)⟩
  | .list ds, _, x, p, z => by
    obtain ⟨a, vs, rfl, ho, hall⟩ := well_list x
    have z2 : WData.weightAll ds ≤ 1048576 := z
    obtain ⟨A, h1, h2⟩ := area_all ds _ hall p fun d hd => Nat.le_trans (weight_mem hd) z2
    have k : ∀ b ∈ A, b ∈ a :: A := fun b hb => List.mem_cons_of_mem _ hb
    refine ⟨a :: A, List.mem_cons_self .., fun b hb => ?_⟩
    rcases List.mem_cons.mp hb with e | m
    · rw [e]
      exact ⟨vs, line_of (by rw [wellAll_len hall]; exact Nat.le_trans (PySem.W.length_le_weightAllW ds) z2), fun u hu => (h1 u hu).mono k, .inl ho⟩
    · exact (h2 b m).mono k
  | .tuple ds, _, x, p, z => by
    obtain ⟨a, vs, rfl, ho, hall⟩ := well_tuple x
    have z2 : WData.weightAll ds ≤ 1048576 := z
    obtain ⟨A, h1, h2⟩ := area_all ds _ hall p fun d hd => Nat.le_trans (weight_mem hd) z2
    have k : ∀ b ∈ A, b ∈ a :: A := fun b hb => List.mem_cons_of_mem _ hb
    refine ⟨a :: A, List.mem_cons_self .., fun b hb => ?_⟩
    rcases List.mem_cons.mp hb with e | m
    · rw [e]
      exact ⟨vs, line_of (by rw [wellAll_len hall]; exact Nat.le_trans (PySem.W.length_le_weightAllW ds) z2), fun u hu => (h1 u hu).mono k, .inr ho⟩
    · exact (h2 b m).mono k
  | .float _, _, _, p, _ => Bool.noConfusion (show false = true from p)
  | .dict _, _, _, p, _ => Bool.noConfusion (show false = true from p)
  | .bytearray _, _, _, p, _ => Bool.noConfusion (show false = true from p)
  | .set _, _, _, p, _ => Bool.noConfusion (show false = true from p)
  | .frozenset _, _, _, p, _ => Bool.noConfusion (show false = true from p)
  | .obj _ _, _, _, p, _ => Bool.noConfusion (show false = true from p)
theorem area_all : ∀ (ds : List WData) (vs : List Value), WellAll P h vs ds → plWs ds = true → (∀ d ∈ ds, d.weight ≤ 1048576) → ∃ A : List Addr, (∀ u ∈ vs, OkU A u) ∧ ∀ a ∈ A, ArgOb h A a
  | [], _, x, _, _ => by
    cases x
    exact ⟨[], fun u m => absurd m (by simp), fun a m => absurd m (by simp)⟩
  | d :: ds, _, x, p, z => by
    obtain ⟨v, vs, rfl, x1, x2⟩ := well_cons x
    have q : plW d = true ∧ plWs ds = true := Bool.and_eq_true_iff.mp p
    obtain ⟨A, a1, a2⟩ := area_one d v x1 q.1 (z d (List.mem_cons_self ..))
    obtain ⟨B, b1, b2⟩ := area_all ds vs x2 q.2 fun e he => z e (List.mem_cons_of_mem _ he)
    have kA : ∀ b ∈ A, b ∈ A ++ B := fun b hb => List.mem_append.mpr (.inl hb)
    have kB : ∀ b ∈ B, b ∈ A ++ B := fun b hb => List.mem_append.mpr (.inr hb)
    refine ⟨A ++ B, fun u hu => ?_, fun b hb => ?_⟩
    · rcases List.mem_cons.mp hu with e | m
      · rw [e]
        exact a1.mono kA
      · exact (b1 u m).mono kB
    · rcases List.mem_append.mp hb with m | m
      · exact (a2 b m).mono kA
      · exact (b2 b m).mono kB
end
end
noncomputable def hoOf (o : Obj) : Option HO := match o.data with
  | .seq vs _ => if (o.cls == Value.type "list") = true then some (.frz o (.lst (vs.toList.map toV))) else some (.frz o (.tup (vs.toList.map toV)))
  | _ => none
noncomputable def argH (K : PySem.W.Frag) (h : Heap) (A : List Addr) : Hp := fun b => if b ∈ A then (if (K.lookup b).isNone = true then (h.get? b).bind hoOf else none) else none
noncomputable def OnlyF (H : Hp) : Prop := ∀ b, H b = none ∨ ∃ o u, H b = some (.frz o u)
theorem hoOf_lst (vs : List Value) : hoOf { cls := .type "list", data := .seq vs.toArray } = some (.frz { cls := .type "list", data := .seq vs.toArray } (.lst (vs.map toV))) := by
  show (if (Value.type "list" == Value.type "list") = true then some (HO.frz { cls := .type "list", data := .seq vs.toArray } (.lst (vs.toArray.toList.map toV))) else some (HO.frz { cls := .type "list", data := .seq vs.toArray } (.tup (vs.toArray.toList.map toV)))) = _
  rw [if_pos (beq_self_eq_true _)]
theorem hoOf_tup (vs : List Value) : hoOf { cls := .type "tuple", data := .seq vs.toArray } = some (.frz { cls := .type "tuple", data := .seq vs.toArray } (.tup (vs.map toV))) := by
  show (if (Value.type "tuple" == Value.type "list") = true then some (HO.frz { cls := .type "tuple", data := .seq vs.toArray } (.lst (vs.toArray.toList.map toV))) else some (HO.frz { cls := .type "tuple", data := .seq vs.toArray } (.tup (vs.toArray.toList.map toV)))) = _
  rw [if_neg (by decide)]
section
variable {P : Program} {w : World} {K : PySem.W.Frag} {h : Heap} {A : List Addr}
theorem argH_at {b : Addr} {o : Obj} (hb : b ∈ A) (hk : K.lookup b = none) (e : h.get? b = some o) : argH K h A b = hoOf o := by
  unfold argH
  rw [if_pos hb, hk, if_pos (show (none : Option Obj).isNone = true from rfl), e] <;> rfl
theorem of_argH {b : Addr} {u : HO} (q : argH K h A b = some u) : b ∈ A ∧ K.lookup b = none := by
  unfold argH at q
  by_cases hb : b ∈ A
  · rw [if_pos hb] at q
    cases hk : K.lookup b with
    | none => exact ⟨hb, rfl⟩
    | some o =>
      rw [hk, if_neg (by simp)] at q
      cases q
  · rw [if_neg hb] at q
    cases q
theorem argH_is (ar : ∀ a ∈ A, ArgOb h A a) {b : Addr} {u : HO} (q : argH K h A b = some u) : K.lookup b = none ∧ ∃ vs : List Value, vs.length ≤ sizeLine ∧ (∀ u ∈ vs, OkU A u) ∧
    ((h.get? b = some { cls := .type "list", data := .seq vs.toArray } ∧ u = .frz { cls := .type "list", data := .seq vs.toArray } (.lst (vs.map toV))) ∨
     (h.get? b = some { cls := .type "tuple", data := .seq vs.toArray } ∧ u = .frz { cls := .type "tuple", data := .seq vs.toArray } (.tup (vs.map toV)))) := by
  obtain ⟨hb, hk⟩ := of_argH q
  obtain ⟨vs, h1, h2, h3⟩ := ar b hb
  refine ⟨hk, vs, h1, h2, ?_⟩
  rcases h3 with e | e
  · rw [argH_at hb hk e, hoOf_lst] at q
    exact .inl ⟨e, (Option.some.inj q).symm⟩
  · rw [argH_at hb hk e, hoOf_tup] at q
    exact .inr ⟨e, (Option.some.inj q).symm⟩
theorem argH_only (ar : ∀ a ∈ A, ArgOb h A a) : OnlyF (argH K h A) := fun b => by
  cases q : argH K h A b with
  | none => exact .inl rfl
  | some u =>
    obtain ⟨_, vs, _, _, ⟨_, e⟩ | ⟨_, e⟩⟩ := argH_is ar q
    · exact .inr ⟨_, _, by rw [e]⟩
    · exact .inr ⟨_, _, by rw [e]⟩
theorem argH_ok (ar : ∀ a ∈ A, ArgOb h A a) : HOk P w (argH K h A) h := fun b u q => by
  obtain ⟨_, vs, h1, h2, ⟨e, rfl⟩ | ⟨e, rfl⟩⟩ := argH_is ar q
  · exact ⟨e, by rw [List.length_map]; exact h1, vs, _, vals_toV h2, e⟩
  · exact ⟨e, by rw [List.length_map]; exact h1, vs, vals_toV h2, _, e, rfl, _, rfl⟩
theorem seq_inj {c c' : Value} {vs us : List Value} (e : (some { cls := c, data := .seq vs.toArray } : Option Obj) = some { cls := c', data := .seq us.toArray }) : c = c' ∧ vs = us := by
  have e1 := Option.some.inj e
  have e2 : c = c' := congrArg Obj.cls e1
  have e3 : Data.seq vs.toArray = Data.seq us.toArray := congrArg Obj.data e1
  injection e3 with e4
  refine ⟨e2, ?_⟩
  have e5 := congrArg Array.toList e4
  simpa using e5
theorem argL (KX : K.In h) (ar : ∀ a ∈ A, ArgOb h A a) {a : Addr} {vs : List Value} (ha : a ∈ A) (e : h.get? a = some { cls := .type "list", data := .seq vs.toArray }) : (∀ u ∈ vs, OkU A u) ∧ SqL K (argH K h A) a (vs.map toV) := by
  obtain ⟨us, h1, h2, h3⟩ := ar a ha
  have hu : us = vs := by
    rcases h3 with q | q
    · rw [e] at q
      exact (seq_inj q).2.symm
    · rw [e] at q
      exact absurd (Value.type.inj (seq_inj q).1) (by decide)
  subst hu
  refine ⟨h2, ?_⟩
  cases hk : K.lookup a with
  | none => exact .inl (.inr ⟨_, by rw [argH_at ha hk e, hoOf_lst]⟩)
  | some o =>
    have e2 := KX a o hk
    rw [e] at e2
    obtain rfl := Option.some.inj e2
    exact .inr ⟨_, us.toArray, _, hk, rfl, rfl, rfl, by rw [List.size_toArray]; exact h1, by simpa using vals_toV h2⟩
theorem argT (KX : K.In h) (ar : ∀ a ∈ A, ArgOb h A a) {a : Addr} {vs : List Value} (ha : a ∈ A) (e : h.get? a = some { cls := .type "tuple", data := .seq vs.toArray }) : (∀ u ∈ vs, OkU A u) ∧ SqT K (argH K h A) a (vs.map toV) := by
  obtain ⟨us, h1, h2, h3⟩ := ar a ha
  have hu : us = vs := by
    rcases h3 with q | q
    · rw [e] at q
      exact absurd (Value.type.inj (seq_inj q).1) (by decide)
    · rw [e] at q
      exact (seq_inj q).2.symm
  subst hu
  refine ⟨h2, ?_⟩
  cases hk : K.lookup a with
  | none => exact .inl (.inr ⟨_, by rw [argH_at ha hk e, hoOf_tup]⟩)
  | some o =>
    have e2 := KX a o hk
    rw [e] at e2
    obtain rfl := Option.some.inj e2
    exact .inr ⟨_, us.toArray, _, hk, rfl, rfl, by rw [List.size_toArray]; exact h1, by simpa using vals_toV h2⟩
mutual
theorem dw_one {Pm : Params} (KX : K.In h) (ar : ∀ a ∈ A, ArgOb h A a) : ∀ (d : WData) (v : Value), Well Pm h v d → plW d = true → OkU A v → Dw K (argH K h A) (toV v) d
  | .none, _, x, _, _ => by
    cases x
    exact .non
  | .bool b, _, x, _, _ => by
    cases x
    exact .bl b
  | .int i, _, x, _, _ => by
    cases x
    exact .int i
  | .str s, _, x, _, _ => by
    cases x
    exact .str s
  | .bytes b, _, x, _, _ => by
    cases x
    have z := Dw.byt (K := K) (H := argH K h A) b.toArray
    exact z
  | .list ds, _, x, p, hu => by
    obtain ⟨a, vs, rfl, ho, hall⟩ := well_list x
    obtain ⟨h2, hs⟩ := argL KX ar hu ho
    exact .lst hs (dw_all KX ar ds _ hall p h2)
  | .tuple ds, _, x, p, hu => by
    obtain ⟨a, vs, rfl, ho, hall⟩ := well_tuple x
    obtain ⟨h2, hs⟩ := argT KX ar hu ho
    exact .tup hs (dw_all KX ar ds _ hall p h2)
  | .float _, _, _, p, _ => Bool.noConfusion (show false = true from p)
  | .dict _, _, _, p, _ => Bool.noConfusion (show false = true from p)
  | .bytearray _, _, _, p, _ => Bool.noConfusion (show false = true from p)
  | .set _, _, _, p, _ => Bool.noConfusion (show false = true from p)
  | .frozenset _, _, _, p, _ => Bool.noConfusion (show false = true from p)
  | .obj _ _, _, _, p, _ => Bool.noConfusion (show false = true from p)
theorem dw_all {Pm : Params} (KX : K.In h) (ar : ∀ a ∈ A, ArgOb h A a) : ∀ (ds : List WData) (vs : List Value), WellAll Pm h vs ds → plWs ds = true → (∀ u ∈ vs, OkU A u) → DwAll K (argH K h A) (vs.map toV) ds
  | [], _, x, _, _ => by
    cases x
    exact .nil
  | d :: ds, _, x, p, hu => by
    obtain ⟨v, vs, rfl, x1, x2⟩ := well_cons x
    have q : plW d = true ∧ plWs ds = true := Bool.and_eq_true_iff.mp p
    exact .cons (dw_one KX ar d v x1 q.1 (hu _ (List.mem_cons_self ..))) (dw_all KX ar ds vs x2 q.2 fun u m => hu u (List.mem_cons_of_mem _ m))
end
end
theorem spec_call {P : Program} {w : World} {K : PySem.W.Frag} {mg mb : Str → Option Value} {CX : CXT} {k : Nat} {fa : Addr} {fd : FuncData} {ps : List Str} {sp : Sp} {s₁ : Shared} {vals : List Value} {ds : List WData} {R : PySem.W.WRecords} {cl : Str → Option Addr} {d0 : WData}
    (KX : K.In s₁.heap) (hns : s₁.heap.Ns mainGlobals mg) (hb : s₁.heap.Ns builtinsNs mb) (hbb : ∀ x : Str, x ≠ "__name__" → mb x = bootBuiltins x) (hlim : s₁.heap.NoLimit) (hg : s₁.gens = #[])
    (hwl : WellAll w.params s₁.heap vals ds) (hpl : plWs ds = true) (hwt : ∀ d ∈ ds, d.weight ≤ 1048576) (hr : Room k callerA)
    (F : ∀ base : Heap, K.In base → base.Ns mainGlobals mg → FnOk P w K mg base CX k fa fd ps sp) (hbind : ∀ (s : Shared) (us : List Value), us.length = ps.length → BindsTo s fd ⟨us, []⟩ (ps.zip us)) (hlen : ds.length = ps.length)
    (hsp : ∀ (H : Hp) (xs : List V), OnlyF H → DwAll K H xs ds → sp xs H (fun v H' => Dw K H' v d0) fun _ _ _ => False)
    (hCX : ∀ H e s', CX [] H s₁ (fun _ _ _ => False) e s' → False) :
    codeAny (model P w) callerA (.call (.ref fa) ⟨vals, []⟩) (fun r s' => ∃ u as, r = .ok (.ret u) ∧ ReadsW R cl s'.heap u d0 as ∧ OldK s₁.heap s'.heap ∧ s'.os = s₁.os ∧ AllBare s'.gens) s₁ := by
  obtain ⟨A, ho, ar⟩ := area_all ds vals hwl hpl hwt
  have hO : OnlyF (argH K s₁.heap A) := argH_only ar
  have hok : HOk P w (argH K s₁.heap A) s₁.heap := argH_ok ar
  have hS := dw_all KX ar ds vals hwl hpl ho
  have hV := vals_toV ho
  have hK : ∀ b u, argH K s₁.heap A b = some u → K.lookup b = none := fun b u q => (argH_is ar q).1
  have noA : ∀ {b : Addr} {o : Obj} {es : Array DictEntry} {ep : Nat}, s₁.heap.get? b = some o → o.data = .dict es ep → argH K s₁.heap A b = none := fun {b o es ep} e d => by
    cases q : argH K s₁.heap A b with
    | none => rfl
    | some u =>
      obtain ⟨_, vs, _, _, ⟨e2, _⟩ | ⟨e2, _⟩⟩ := argH_is ar q
      · rw [e2] at e
        cases e
        have d' : Data.seq vs.toArray _ = Data.dict es ep := d
        cases d'
      · rw [e2] at e
        cases e
        have d' : Data.seq vs.toArray _ = Data.dict es ep := d
        cases d'
  generalize argH K s₁.heap A = H at hO hok hS hK noA
  have base_of : ∀ {b : Addr} {o : Obj}, s₁.heap.get? b = some o → H b = none → (hidT s₁.heap H).get? b = some o := fun e n => hidT_get e n
  have nsK : ∀ {b : Addr} {m : Str → Option Value}, s₁.heap.Ns b m → (hidT s₁.heap H).Ns b m := fun {b m} ⟨o, es, ep, e, d, r⟩ => ⟨o, es, ep, base_of e (noA e d), d, r⟩
  have nK : ∀ b o, K.lookup b = some o → H b = none := fun b o e => by
    cases q : H b with
    | none => rfl
    | some u =>
      rw [hK b u q] at e
      cases e
  have hKb : K.In (hidT s₁.heap H) := fun b o e => base_of (KX b o e) (nK b o e)
  have hM : Mod K mg (hidT s₁.heap H) := ⟨hKb, nsK hns, ⟨mb, nsK hb, hbb⟩, let ⟨mc, h1, h2⟩ := hlim; ⟨mc, nsK h1, h2⟩⟩
  have e0 : Env0 P w K mg (hidT s₁.heap H) callerA [] s₁ H := ⟨rfl, hM, fun b o e => of_hidT e, Nat.le_of_eq (hidT_size _ _), trivial, fun b hb => absurd (show b ∈ ([] : List Addr) from hb) (by simp), hok, .of_eq hg⟩
  have hl : vals.length = ps.length := by rw [wellAll_len hwl]; exact hlen
  refine codeAny_mono ((F _ hKb (nsK hns)).run callerA [] s₁ H ⟨vals, []⟩ vals (vals.map toV) _ _ hr e0 (hbind s₁ vals hl) hV (hsp H _ hO hS)) fun r s' x => ?_
  cases r with
  | error e => exact (hCX H e s' x).elim
  | ok fl =>
    cases fl with
    | next => exact False.elim x
    | brk => exact False.elim x
    | cont => exact False.elim x
    | ret u =>
      obtain ⟨v, H', os, bare, un, hok', r', q⟩ := x
      have kept : ∀ b o, s₁.heap.get? b = some o → s'.heap.get? b = some o := fun b o e => by
        cases q2 : H b with
        | none => exact un.keep b o e q2 (by intro z; exact absurd (show b ∈ ([] : List Addr) from z) (by simp)) (by simp)
        | some u2 =>
          rcases hO b with z | ⟨ob, u3, z⟩
          · rw [q2] at z
            cases z
          · have z2 := un.frzs b ob _ z
            obtain ⟨e1, _⟩ := hok b _ z
            obtain ⟨e2, _⟩ := hok' b _ z2
            rw [e] at e1
            cases e1
            exact e2
      have KX' : K.In s'.heap := fun b o e => kept b o (KX b o e)
      obtain ⟨as, hrd⟩ := Dw.reads (R := R) (cl := cl) hok' KX' d0 v u q r'
      exact ⟨u, as, rfl, hrd, OldK.of_keep kept, os, bare⟩
theorem layable_weight {ds : List WData} (h : WData.layableAll ds = true) : ∀ d ∈ ds, d.weight ≤ 1048576 := fun d hd =>
  (PySem.W.layableW_iff.mp (List.all_eq_true.mp h d hd)).2.2
theorem encAll_len : ∀ (cs : List Codec) (a : Codec.denoteAll cs), (Codec.encAll cs a).length = cs.length
  | [], _ => rfl
  | c :: cs, a => by
    show (Codec.encAll cs a.2).length + 1 = cs.length + 1
    rw [encAll_len cs a.2]
theorem walk_spec {r : OpenSpec} {k : Nat} {q : Program} {loose : List Str} {XP : (Str → Option Value) → Heap → Prop} {YP : World → Heap → Prop} {d : DefRec} {K : Params → PySem.W.Frag} {CX : World → CXT} {ps : List Str} {sp : World → Sp}
    (hwell : r.wellSaid = true) (hdf : d.params.defaults = []) (hlen : r.args.length = ps.length) (hr : Room k callerA)
    (hY : ∀ (w : World) (h : Heap), YP w h → (K w.params).In h)
    (F : ∀ (w : World) (mg : Str → Option Value) (fa : Addr) (h : Heap), YP w h → (K w.params).In h → h.Ns mainGlobals mg → mg d.name = some (.ref fa) →
      ∃ fd : FuncData, (∀ (s : Shared) (us : List Value), us.length = ps.length → BindsTo s fd ⟨us, []⟩ (ps.zip us)) ∧
        ∀ base : Heap, (K w.params).In base → base.Ns mainGlobals mg → FnOk r.prog w (K w.params) mg base (CX w) k fa fd ps (sp w))
    (hsp : ∀ (w : World) (H : Hp) (xs : List V) (a : Codec.denoteAll r.args), OnlyF H → Codec.withinAll r.args a = true → Codec.app r.args r.asked a = true → DwAll (K w.params) H xs (Codec.encAll r.args a) →
      sp w xs H (fun v H' => Dw (K w.params) H' v (r.ret.enc (Codec.app r.args r.f a))) fun _ _ _ => False)
    (hCX : ∀ (w : World) (H : Hp) (s : Shared) (e : Value) (s' : Shared), CX w [] H s (fun _ _ _ => False) e s' → False) :
    PySem.W.WalkOS q loose XP YP r d [] (fun f vs => PySem.call f vs) := by
  intro w s_0 s₁ mg mb G Y fa o pm cd doc dV kV ho hd hcd hD hmg hg args vals as hpre hlay hrd hwl hlo
  obtain ⟨a, e1, e2⟩ := PySem.W.os_pre_some hpre
  obtain ⟨e3, hwi⟩ := Codec.encAll_of_decAll r.args args a e1
  subst e3
  have KX := hY w _ Y
  obtain ⟨fd, hb, hF⟩ := F w mg fa _ Y KX G.T.g hmg
  refine PySem.W.enter_call (codeAny_mono (spec_call (R := []) (cl := classAt s_0.heap) (d0 := r.ret.enc (Codec.app r.args r.f a)) KX G.T.g G.T.b G.T.builtins G.T.nolimit hg hwl (pl_encAll _ _) (layable_weight hlay) hr hF hb (by rw [encAll_len]; exact hlen)
    (fun H xs hO hS => hsp w H xs a hO hwi e2 hS) fun H e s' => hCX w H s₁ e s') fun r' s' hq => ?_)
  obtain ⟨u, as', rfl, h1, h2, h3, h4⟩ := hq
  exact ⟨.inl ⟨u, _, as', rfl, fun _ => rfl, h1, (OpenSpec.post_iff hwell hwi _ _).mpr rfl, fun z => Bool.noConfusion (show false = true from z)⟩, h2, h3, h4⟩
theorem walk_specK {r : OpenSpec} {k : Nat} {q : Program} {loose : List Str} {XP : (Str → Option Value) → Heap → Prop} {YP : World → Heap → Prop} {d : DefRec} {K : Params → PySem.W.Frag} {CX : CXT} {ps : List Str} {sp : PySem.W.Frag → Sp}
    (hwell : r.wellSaid = true) (hdf : d.params.defaults = []) (hlen : r.args.length = ps.length) (hr : Room k callerA)
    (hY : ∀ (w : World) (h : Heap), YP w h → (K w.params).In h)
    (F : ∀ (w : World) (mg : Str → Option Value) (fa : Addr) (h : Heap), YP w h → (K w.params).In h → h.Ns mainGlobals mg → mg d.name = some (.ref fa) →
      ∃ fd : FuncData, (∀ (s : Shared) (us : List Value), us.length = ps.length → BindsTo s fd ⟨us, []⟩ (ps.zip us)) ∧
        ∀ base : Heap, (K w.params).In base → base.Ns mainGlobals mg → FnOk r.prog w (K w.params) mg base CX k fa fd ps (sp (K w.params)))
    (hsp : ∀ (K : PySem.W.Frag) (H : Hp) (xs : List V) (a : Codec.denoteAll r.args), OnlyF H → Codec.withinAll r.args a = true → Codec.app r.args r.asked a = true → DwAll K H xs (Codec.encAll r.args a) →
      sp K xs H (fun v H' => Dw K H' v (r.ret.enc (Codec.app r.args r.f a))) fun _ _ _ => False)
    (hCX : ∀ (H : Hp) (s : Shared) (e : Value) (s' : Shared), CX [] H s (fun _ _ _ => False) e s' → False) :
    PySem.W.WalkOS q loose XP YP r d [] (fun f vs => PySem.call f vs) :=
  walk_spec (K := K) (CX := fun _ => CX) (sp := fun w => sp (K w.params)) hwell hdf hlen hr hY F (fun w H xs a h1 h2 h3 h4 => hsp (K w.params) H xs a h1 h2 h3 h4) fun _ H s e s' => hCX H s e s'
end L2
end
end
section
set_option Elab.async false
set_option linter.all false
set_option maxRecDepth 100000
set_option maxHeartbeats 2000000
namespace PySem
section
variable {prog : Program} {w : World} {K : Type} [DecidableEq K] {knd : HeapKind prog w K} {A : Around} {E : Value → Shared → Prop} {s : Shared}
noncomputable def withoutH (xs : List (K × Addr × Value)) (k : K) : List (K × Addr × Value) := xs.filter fun x => decide (x.1 ≠ k)
theorem withoutH_no : ∀ {xs : List (K × Addr × Value)} {k : K}, k ∉ xs.map (·.1) → withoutH xs k = xs
  | [], _, _ => rfl
  | x :: xs, k, h => by
    have h1 : ¬ x.1 = k := fun e => h (by rw [List.map_cons]; exact List.mem_cons.mpr (Or.inl e.symm))
    have h2 : k ∉ xs.map (·.1) := fun m => h (by rw [List.map_cons]; exact List.mem_cons.mpr (Or.inr m))
    have ih := withoutH_no h2
    unfold withoutH at ih ⊢
    rw [List.filter_cons, if_pos (by simp [h1]), ih]
theorem erase_at : ∀ {xs : List (K × Addr × Value)} {k : K} {j : Nat} {p : Addr × Value}, (xs.map (·.1)).Nodup → xs[j]? = some (k, p) → xs.eraseIdx j = withoutH xs k
  | [], k, j, p, _, h => by simp at h
  | x :: xs, k, 0, p, hn, h => by
    rw [List.map_cons, List.nodup_cons] at hn
    have e : x = (k, p) := by simpa using h
    subst e
    show xs = withoutH ((k, p) :: xs) k
    unfold withoutH
    rw [List.filter_cons, if_neg (by simp)]
    exact (withoutH_no hn.1).symm
  | x :: xs, k, j + 1, p, hn, h => by
    rw [List.map_cons, List.nodup_cons] at hn
    have h' : xs[j]? = some (k, p) := by simpa using h
    have m : k ∈ xs.map (·.1) := List.mem_map.mpr ⟨(k, p), List.mem_of_getElem? h', rfl⟩
    have ne : ¬ x.1 = k := fun e => hn.1 (e ▸ m)
    show x :: xs.eraseIdx j = withoutH (x :: xs) k
    rw [erase_at hn.2 h']
    unfold withoutH
    rw [List.filter_cons, if_pos (by simp [ne])]
theorem eraseIdx_mapped {α β : Type} (f : α → β) : ∀ (l : List α) (j : Nat), (l.map f).eraseIdx j = (l.eraseIdx j).map f
  | [], _ => by simp
  | a :: l, 0 => rfl
  | a :: l, j + 1 => by
    show f a :: (l.map f).eraseIdx j = f a :: (l.eraseIdx j).map f
    rw [eraseIdx_mapped f l j]
theorem nodup_withoutH {xs : List (K × Addr × Value)} (k : K) (hn : (xs.map (·.1)).Nodup) : ((withoutH xs k).map (·.1)).Nodup :=
  List.Nodup.sublist (List.Sublist.map _ List.filter_sublist) hn
theorem wpAny_takeOut_heap {d a : Addr} {xs : List (K × Addr × Value)} {k : K} {p : Addr × Value} {Q : Option DictEntry → Shared → Prop} (hu : knd.room A) (hkey : knd.is s.heap k a) (hm : s.heap.DictOfH knd d xs) (hp : atKey xs k = some p)
    (hQ : ∀ e : DictEntry, e.val = p.2 → ∀ h', h'.DictOfH knd d (withoutH xs k) → Heap.SameBut d s.heap h' → Q (some e) { s with heap := h', toks := s.toks + knd.draws k })
    (hsz : xs.length ≤ sizeLine := by size_fits) :
    wpAny (model prog w) A (Builtin.Dict.takeOut d (.ref a)) Q E s := by
  obtain ⟨o, es, ep, ho, hc, hd, he, his, hn⟩ := hm
  unfold Builtin.Dict.takeOut
  try with_reducible refine wpAny_holding ?_
  refine wpAny_bind (knd.pyHash hu hkey ?_)
  refine wpAny_bind (wpAny_dictFind_heap (s := { s with toks := s.toks + knd.draws k }) hu hkey ho hd he his hn ?_ ?_)
  · intro hno
    rw [atKey_none_of_get hno] at hp
    exact nomatch hp
  · intro j p' hj
    rw [atKey_of_get hn hj] at hp
    cases hp
    refine wpAny_bind (wpAny_dictEntries (s := { s with toks := s.toks + knd.draws k }) ho hd ?_)
    rw [entry_at he j, hj]
    refine wpAny_bind (wpAny_updateDictKeys (hz := by have e := size_of_entries he; omega) (s := { s with toks := s.toks + knd.draws k }) ho hd (wpAny_pure (hQ _ rfl _ ⟨_, _, ep + 1, Heap.get?_update_self _ ho (Obj.isFreed_of_dict (Obj.data_mapDictKeys hd _)),
      hc.mapDictKeys _, Obj.data_mapDictKeys hd _, ?_, ?_, nodup_withoutH k hn⟩ (Heap.SameBut.update ..))))
    · have e1 : (es.eraseIdxIfInBounds j).toList = es.toList.eraseIdx j := by
        obtain ⟨l⟩ := es
        simp
      rw [e1, he, eraseIdx_mapped, erase_at hn hj]
    · intro x hx
      exact knd.keeps (his x (List.mem_filter.mp hx).1) ho hd (Heap.SameBut.update ..)
theorem meetsH_dict_pop {d a : Addr} {k : K} : MeetsIn prog w (Builtin.«dict.pop» ⟨[.ref d, .ref a], []⟩) (fun A R s => knd.room A.in1 ∧ ∃ xs p, knd.is s.heap k a ∧ s.heap.DictOfH knd d xs ∧ xs.length ≤ sizeLine ∧ atKey xs k = some p ∧
      ∀ h', h'.DictOfH knd d (withoutH xs k) → Heap.SameBut d s.heap h' → R (.ok (.ret p.2)) { s with heap := h', toks := s.toks + knd.draws k }) :=
  .of_wp fun A R s ⟨hu, xs, p, hkey, hm, hsz, hp, h⟩ => by
    unfold Builtin.«dict.pop»
    refine wpAny_bind ?_
    unfold Builtin.Dict.keyAndDefault
    refine wpAny_bind (wpAny_notOrdered_dict hm.typeIs ?_)
    show wpAny _ _ (pure (d, Value.ref a, none)) _ _ s
    refine wpAny_pure ?_
    have hm' := hm
    obtain ⟨o, es, ep, ho, hc, hd, he, his, hn⟩ := hm'
    have hne : es.isEmpty = false := by
      cases xs with
      | nil => cases hp
      | cons x r =>
        have e := size_of_entries he
        rw [List.length_cons] at e
        unfold Array.isEmpty
        rw [e]
        simp
    have e0 : (keyPart (Value.ref a)).isSome = false := rfl
    simp only [e0, Bool.false_eq_true, if_false]
    refine wpAny_bind (wpAny_dictEntries ho hd ?_)
    refine wpAny_bind (wpAny_pure ?_)
    rw [hne]
    simp only [Bool.false_eq_true, if_false]
    refine wpAny_bind (wpAny_takeOut_heap (hsz := hsz) hu hkey hm hp fun e hev h' hm' hs' => ?_)
    simp only [Option.isNone_some, Bool.false_eq_true, if_false]
    exact wpAny_bind (wpAny_letGo (wpAny_pure ⟨e.val, rfl, by rw [hev]; exact h h' hm' hs'⟩))
theorem meetsH_dict_len {d : Addr} (hds : (d == sysModules) = false) :
    MeetsIn prog w (Builtin.«dict.__len__» ⟨[.ref d], []⟩) (fun _ R s => ∃ xs, s.heap.DictOfH knd d xs ∧ R (.ok (.ret (.int xs.length s.toks))) { s with toks := s.toks + 1 }) :=
  .of_wp fun A R s ⟨xs, hm, h⟩ => by
    obtain ⟨o, es, ep, ho, hc, hd, he, his, hn⟩ := hm
    have hs2 := size_of_entries he
    show wpAny _ _ (dictSize d >>= _) _ _ s
    unfold dictSize
    refine wpAny_bind (wpAny_bind (wpAny_dictEntries ho hd (wpAny_pure ?_)))
    show wpAny _ _ (Builtin.Dict.pendingCount d >>= _) _ _ s
    refine wpAny_bind (wpAny_pendingCount_other hds (wpAny_ret_mkInt ?_))
    rw [Nat.add_zero, hs2]
    exact h
theorem wpAny_len_body_dictH {d : Addr} {xs : List (K × Addr × Value)} {Q : Value → Shared → Prop} (hd : (d == sysModules) = false) (hm : s.heap.DictOfH knd d xs) (hfit : (xs.length : Int) < 2 ^ 63)
    (h : Q (.int xs.length (s.toks + 1)) { s with toks := s.toks + 1 + 1 }) : wpAny (model prog w) A (Builtin.«len» ⟨[.ref d], []⟩) (fun fin s' => ∃ r, fin = .done (.ret r) ∧ Q r s') E s := by
  unfold Builtin.«len»
  refine wpAny_bind (m := oneArg "len" _) (wpAny_pure ?_)
  refine wpAny_bind (m := callSpecial? (.ref d) (Str.ofString "__len__")) (wpAny_callSpecial?_slot (name := Str.ofString "__len__") hm.typeIs F.slot_dict_len
    (call_meetsIn F.slot_dict_len hm.typeIs F.entry_dict_len (F.args_dict_len_1 _) (meetsH_dict_len (knd := knd) hd) ⟨xs, hm, ?_⟩))
  show wpAny _ _ _ _ _ { s with toks := s.toks + 1 }
  refine wpAny_bind (wpAny_holding (wpAny_pure ?_))
  refine wpAny_bind (wpAny_letGo ?_)
  show wpAny _ _ (if ((xs.length : Nat) : Int) < 0 then _ else _) _ _ _
  rw [if_neg (by omega)]
  show wpAny _ _ (if ((xs.length : Nat) : Int) ≥ 2 ^ 63 then _ else _) _ _ _
  rw [if_neg (by omega)]
  exact wpAny_bind (wpAny_mkInt (wpAny_pure ⟨_, rfl, h⟩))
theorem call_len_dictH {d : Addr} {xs : List (K × Addr × Value)} {Q : Value → Shared → Prop} (hd : (d == sysModules) = false) (hm : s.heap.DictOfH knd d xs) (hfit : (xs.length : Int) < 2 ^ 63)
    (h : Q (.int xs.length (s.toks + 1)) { s with toks := s.toks + 1 + 1 }) : wpAny (model prog w) A (call (.builtin "len") [.ref d]) Q E s :=
  Calls.call_function_entry kind_len plain_len entry_len (args_len1 _) (wpAny_len_body_dictH hd hm hfit h)
end
end PySem
namespace L2
open PySem PySem.Spec PyProof.Rows
theorem KT.drop {H : Hp} {kvs : List (List Key × V)} {xs : List (List Key × Addr × Value)} (r : KT H kvs xs) (k : List Key) : KT H (dropK kvs k) (withoutH xs k) := by
  unfold dropK withoutH
  induction r with
  | nil => exact .nil
  | @cons p q ps qs h t ih =>
    obtain ⟨h1, h2⟩ := h
    rw [List.filter_cons, List.filter_cons]
    by_cases e : p.1 = k
    · have a : ¬ decide (p.1 ≠ k) = true := by simp [e]
      have b : ¬ decide (q.1 ≠ k) = true := by simp [h1.symm.trans e]
      rw [if_neg a, if_neg b]; exact ih
    · have e' : ¬ q.1 = k := fun z => e (h1.trans z)
      have a : decide (p.1 ≠ k) = true := by simp [e]
      have b : decide (q.1 ≠ k) = true := by simp [e']
      rw [if_pos a, if_pos b]; exact .cons ⟨h1, h2⟩ ih
section
variable {X : Cx} {pins : List (Addr × Obj)} {σ : St} {H : Hp} {s : Shared} {a b : Addr} {kvs : List (List Key × V)} {k : List Key} {A : Around} {E : Value → Shared → Prop}
theorem d_popT {v : V} {Q : Value → Shared → Prop} (hu : A.units + 1 < cLine) (I : Inv X pins σ H s) (e : H a = some (.dT kvs)) (eb : H b = some (.tup (k.map kV))) (l : valV kvs k = some v)
    (h : ∀ w' s', Inv X pins σ (upd H a (.dT (dropK kvs k))) s' → RelV v w' → Q w' s') : wpAny (model X.prog X.w) A (call (.builtin "dict.pop") [.ref a, .ref b]) Q E s := by
  obtain ⟨z, hd, xs, rel, dd⟩ := dt_of I.hok e
  have hz : xs.length ≤ sizeLine := by rw [← Paired.length rel]; exact z
  obtain ⟨w', hw, rw'⟩ := RelO.some_of (v := v) (o := (atKey xs k).map (·.2)) (by rw [← l]; exact rel.val k)
  obtain ⟨p, hp, ep'⟩ := Option.map_eq_some_iff.mp hw
  subst ep'
  refine call_meetsIn PySem.F.slot_dict_pop dd.typeIs PySem.F.entry_dict_pop (PySem.F.args_dict_pop_2 _ _) (meetsH_dict_pop (knd := tupleKind (mixKind X.prog X.w)) (k := k))
    ⟨tupleKind_room_in1 hu, xs, p, key_of I.hok eb, dd, hz, hp, fun h' dd' hs => h p.2 _ ?_ rw'⟩
  obtain ⟨q, es, ep, hq, h2, h3, h4, _, h5⟩ := dd'
  refine d_write I (by rw [e]; exact True.intro) hs ⟨q, hq⟩ ⟨Nat.le_trans (dropK_le kvs k) z, hd, _, (rel.drop k).keeps fun c ys ec => ?_, q, es, ep, hq, h2, h3, h4, h5⟩
  rw [upd_ne (ne_of ec e (fun z => nomatch z))]
  exact ec
theorem d_lenT {Q : Value → Shared → Prop} (I : Inv X pins σ H s) (e : Rd H a (.dT kvs)) (h : ∀ t s', Inv X pins σ H s' → Q (.int kvs.length t) s') : wpAny (model X.prog X.w) A (call (.builtin "len") [.ref a]) Q E s := by
  obtain ⟨z, hd, xs, rel, dd⟩ := dt_rd I.hok e
  refine call_len_dictH hd dd (by rw [← Paired.length rel]; rw [sizeLine_eq] at z; omega) ?_
  rw [← Paired.length rel]
  exact h _ _ (I.tok _)
end
noncomputable def tDPopT (td ty : TE) : TE := fun σ H Q => td σ H fun x H1 => ∃ a, x = .ref a ∧ IsD H1 a ∧ ty σ H1 fun y H2 => ∃ kvs k v b, H2 a = some (.dT kvs) ∧ y = .ref b ∧ H2 b = some (.tup (k.map kV)) ∧ valV kvs k = some v ∧ Q v (upd H2 a (.dT (dropK kvs k)))
section
variable {X : Cx} {o e f : Expr} {apos cpos : Pos} {td ty tx : TE}
theorem pe_dpopT (hu : X.A.units + 1 < cLine) (ho : PE X o td) (he : PE X e ty) (m : M1 X o "pop" apos e cpos) : PE X (.Call (.Attribute o "pop" apos) [e] [] cpos) (tDPopT td ty) := by
  intro pins s σ H Q I h
  refine wpAny_Call_method m.base m.few m.line PySem.F.plainAttrs_dict PySem.F.slot_dict_pop PySem.F.type_dict_pop (thn (ho pins s σ H _ I h) fun u s1 ⟨x, H1, I1, rx, a, ex, d, q1⟩ => ?_)
  subst ex
  obtain rfl : u = Value.ref a := rx
  obtain ⟨t1, t2, _⟩ := isD_at I1 d
  refine ⟨t1, t2, ?_⟩
  rw [m.trees]
  refine Calls.callWith_builtin rfl (Calls.evalArgs_plain (Calls.spliced_cons (thn (he pins s1 σ H1 _ I1 q1) fun iv s2 ⟨y, H2, I2, ry, kvs, k, v, b, ea, ey, eb, l, q2⟩ => Calls.spliced_nil ?_)))
  subst ey
  obtain rfl : iv = Value.ref b := ry
  exact d_popT hu I2 ea eb l fun w' s3 I3 rw' => ⟨v, _, I3, rw', q2⟩
theorem call_lenT : CallR X (.builtin "len") (fun xs H Q => ∃ a kvs, xs = [V.ref a] ∧ H a = some (.dT kvs) ∧ Q (.int kvs.length) H) := by
  intro pins s σ H xs us Q I r h
  obtain ⟨a, kvs, rfl, ha, q⟩ := h
  obtain ⟨u, rfl, ru⟩ := vals1 r
  cases ru
  exact d_lenT I (.inl ha) fun t s' I' => ⟨.int kvs.length, H, I', ⟨t, rfl⟩, q⟩
end
theorem lc_rangeC {lo c : Int} {n : Nat} {g : TG} {tt : TT} {te : TE} {vs : List Nat} {σ : St} {H1 : Hp} {D : Addr} {Qd : Hp → Prop} (Pv : Nat → Hp → Prop) (h0 : Pv 0 (upd H1 D (.lst [])))
    (hs : ∀ i H, i < n → Pv i H → g (.int (lo + (i : Nat) * c)) (wipe σ vs) H fun σ2 H2 => wipe σ2 vs = wipe σ vs ∧ tt σ2 H2 fun b H3 =>
      if b = true then te σ2 H3 fun y H4 => ∃ acc, H4 D = some (.lst acc) ∧ acc.length < sizeLine ∧ Pv (i + 1) (upd H4 D (.lst (acc ++ [y]))) else Pv (i + 1) H3) (hd : ∀ H, Pv n H → Qd H) :
    ∃ W : Nat → Nat → Hp → Prop, (∃ m, W 0 m (upd H1 D (.lst []))) ∧ ∀ i m H, W i m H →
      ((Itc lo c n).stop i H ∧ Qd H) ∨ ((Itc lo c n).go i H ∧ ∃ Nx : Hp → Prop, (∀ H', Nx H' → ∃ m', m' < m ∧ W (i + 1) m' H') ∧ ∀ x H', (Itc lo c n).yld i H x H' → g x (wipe σ vs) H' fun σ2 H2 => wipe σ2 vs = wipe σ vs ∧ tt σ2 H2 fun b H3 =>
        if b = true then te σ2 H3 fun y H4 => ∃ acc, H4 D = some (.lst acc) ∧ acc.length < sizeLine ∧ Nx (upd H4 D (.lst (acc ++ [y]))) else Nx H3) := by
  refine ⟨fun i m H => m = n - i ∧ i ≤ n ∧ Pv i H, ⟨n, by simp, Nat.zero_le _, h0⟩, ?_⟩
  rintro i m H ⟨rfl, hi, p⟩
  by_cases hlt : i < n
  · refine .inr ⟨hlt, Pv (i + 1), fun H' p' => ⟨n - (i + 1), by omega, rfl, hlt, p'⟩, fun x H' y => ?_⟩
    obtain ⟨e, y⟩ := y
    subst e y
    exact hs i _ hlt p
  · have e : i = n := by omega
    subst e
    exact .inl ⟨Nat.le_refl _, hd H p⟩
theorem RgC.three {m : Nat} (h : m ≤ 1000) : RgC 0 (3 * (m : Int)) 3 m := by
  have hs : Builtin.Range.rangeSize 0 (3 * (m : Int)) 3 = (m : Int) := by
    unfold Builtin.Range.rangeSize
    rw [if_pos (by decide)]
    split <;> omega
  refine ⟨by decide, by decide, ?_, hs⟩
  unfold Builtin.Range.small
  rw [hs]
  have fit : ∀ z : Int, 0 ≤ z → z ≤ 5000 → Builtin.Range.rangeFitsLong z = true := fun z h1 h2 => by
    have a : -(2 ^ 63 : Int) ≤ z := Int.le_trans (by decide) h1
    have b : z < (2 ^ 63 : Int) := Int.lt_of_le_of_lt h2 (by decide)
    unfold Builtin.Range.rangeFitsLong
    rw [decide_eq_true a, decide_eq_true b]
    rfl
  rw [fit 0 (by decide) (by decide), fit (3 * (m : Int)) (by omega) (by omega), fit 3 (by decide) (by decide), fit (m : Int) (by omega) (by omega), if_pos (show (3 : Int) > 0 by decide), fit (3 * (m : Int) + (3 - 1)) (by omega) (by omega)]
  simp
theorem seqA {t u : TS} {D : Ends} {σ : St} {H : Hp} (h : ∀ N : St → Hp → Prop, (∀ σ' H', u D σ' H' → N σ' H') → t { D with nx := N } σ H) : tSeq t u D σ H := h _ fun _ _ z => z
theorem el0 {C : List Value → Prop} {us : List Value} (h : us.length = 0) (k : C []) : C us := by
  cases us with
  | nil => exact k
  | cons a r => cases h
theorem elS {C : List Value → Prop} {n : Nat} {us : List Value} (h : us.length = n + 1) (k : ∀ a r, r.length = n → C (a :: r)) : C us := by
  cases us with
  | nil => cases h
  | cons a r => exact k a r (Nat.succ.inj h)
theorem bind1 {fd : FuncData} {p : Str} (k : ∀ a, bindArgs fd ⟨[a], []⟩ = pure ([p].zip [a])) : ∀ us : List Value, us.length = [p].length → bindArgs fd ⟨us, []⟩ = pure ([p].zip us) := fun us h =>
  elS (C := fun us => bindArgs fd ⟨us, []⟩ = pure ([p].zip us)) h fun a r h => el0 (C := fun r => bindArgs fd ⟨a :: r, []⟩ = pure ([p].zip (a :: r))) h (k a)
theorem bind2 {fd : FuncData} {p q : Str} (k : ∀ a b, bindArgs fd ⟨[a, b], []⟩ = pure ([p, q].zip [a, b])) : ∀ us : List Value, us.length = [p, q].length → bindArgs fd ⟨us, []⟩ = pure ([p, q].zip us) := fun us h =>
  elS (C := fun us => bindArgs fd ⟨us, []⟩ = pure ([p, q].zip us)) h fun a r h => elS (C := fun r => bindArgs fd ⟨a :: r, []⟩ = pure ([p, q].zip (a :: r))) h fun b r h => el0 (C := fun r => bindArgs fd ⟨a :: b :: r, []⟩ = pure ([p, q].zip (a :: b :: r))) h (k a b)
theorem bind3 {fd : FuncData} {p q o : Str} (k : ∀ a b c, bindArgs fd ⟨[a, b, c], []⟩ = pure ([p, q, o].zip [a, b, c])) : ∀ us : List Value, us.length = [p, q, o].length → bindArgs fd ⟨us, []⟩ = pure ([p, q, o].zip us) := fun us h =>
  elS (C := fun us => bindArgs fd ⟨us, []⟩ = pure ([p, q, o].zip us)) h fun a r h => elS (C := fun r => bindArgs fd ⟨a :: r, []⟩ = pure ([p, q, o].zip (a :: r))) h fun b r h => elS (C := fun r => bindArgs fd ⟨a :: b :: r, []⟩ = pure ([p, q, o].zip (a :: b :: r))) h fun c r h =>
    el0 (C := fun r => bindArgs fd ⟨a :: b :: c :: r, []⟩ = pure ([p, q, o].zip (a :: b :: c :: r))) h (k a b c)
theorem bind4 {fd : FuncData} {p q o n : Str} (k : ∀ a b c d, bindArgs fd ⟨[a, b, c, d], []⟩ = pure ([p, q, o, n].zip [a, b, c, d])) : ∀ us : List Value, us.length = [p, q, o, n].length → bindArgs fd ⟨us, []⟩ = pure ([p, q, o, n].zip us) := fun us h =>
  elS (C := fun us => bindArgs fd ⟨us, []⟩ = pure ([p, q, o, n].zip us)) h fun a r h => elS (C := fun r => bindArgs fd ⟨a :: r, []⟩ = pure ([p, q, o, n].zip (a :: r))) h fun b r h => elS (C := fun r => bindArgs fd ⟨a :: b :: r, []⟩ = pure ([p, q, o, n].zip (a :: b :: r))) h fun c r h =>
    elS (C := fun r => bindArgs fd ⟨a :: b :: c :: r, []⟩ = pure ([p, q, o, n].zip (a :: b :: c :: r))) h fun d r h => el0 (C := fun r => bindArgs fd ⟨a :: b :: c :: d :: r, []⟩ = pure ([p, q, o, n].zip (a :: b :: c :: d :: r))) h (k a b c d)
theorem bind5 {fd : FuncData} {p q o n m : Str} (k : ∀ a b c d e, bindArgs fd ⟨[a, b, c, d, e], []⟩ = pure ([p, q, o, n, m].zip [a, b, c, d, e])) : ∀ us : List Value, us.length = [p, q, o, n, m].length → bindArgs fd ⟨us, []⟩ = pure ([p, q, o, n, m].zip us) := fun us h =>
  elS (C := fun us => bindArgs fd ⟨us, []⟩ = pure ([p, q, o, n, m].zip us)) h fun a r h => elS (C := fun r => bindArgs fd ⟨a :: r, []⟩ = pure ([p, q, o, n, m].zip (a :: r))) h fun b r h => elS (C := fun r => bindArgs fd ⟨a :: b :: r, []⟩ = pure ([p, q, o, n, m].zip (a :: b :: r))) h fun c r h =>
    elS (C := fun r => bindArgs fd ⟨a :: b :: c :: r, []⟩ = pure ([p, q, o, n, m].zip (a :: b :: c :: r))) h fun d r h => elS (C := fun r => bindArgs fd ⟨a :: b :: c :: d :: r, []⟩ = pure ([p, q, o, n, m].zip (a :: b :: c :: d :: r))) h fun e r h => el0 (C := fun r => bindArgs fd ⟨a :: b :: c :: d :: e :: r, []⟩ = pure ([p, q, o, n, m].zip (a :: b :: c :: d :: e :: r))) h (k a b c d e)
theorem skipN {i : Nat} {a b : Int} {t u : TS} {D : Ends} {σ : St} {H : Hp} (hs : σ[i]? = some (some (.int a))) (h : ¬ a = b) (k : u D σ H) : tSeq (tIfS (tTest (tOp rEq (tVar i) (tC (.int b)))) t tNext) u D σ H := by
  refine ⟨_, hs, rfl, _, rfl, ?_⟩
  rw [decide_eq_false (fun z => h (V.int.inj z))]
  exact iteF k
theorem takeN {i : Nat} {a : Int} {t u : TS} {D : Ends} {σ : St} {H : Hp} (hs : σ[i]? = some (some (.int a))) (k : t { D with nx := u D } σ H) : tSeq (tIfS (tTest (tOp rEq (tVar i) (tC (.int a)))) t tNext) u D σ H := by
  refine ⟨_, hs, rfl, _, rfl, ?_⟩
  rw [decide_eq_true rfl]
  exact iteT k
theorem rM {C : Addr} {m : Str} {sp : Sp} {dvs : List V} {E : XK} {i : Nat} {t : TA} {σ : St} {H : Hp} {Q : VK} {a dx : Addr} {fs : List (Str × V)} (e : σ[i]? = some (some (.ref a))) (h : H a = some (.ins C dx fs)) (n : fs.lookup m = none)
    (k : t σ H fun vs H2 => sp (.ref a :: (vs ++ dvs)) H2 Q E) : tMeth C m sp dvs E (tVar i) t σ H Q := ⟨_, e, a, dx, fs, rfl, h, n, k⟩
theorem rF {K : PySem.W.Frag} {f : Str} {i : Nat} {σ : St} {H : Hp} {Q : VK} {a C dx : Addr} {fs : List (Str × V)} {v : V} (e : σ[i]? = some (some (.ref a))) (h : H a = some (.ins C dx fs)) (c : Cls K C) (n : NoAttr K C f) (l : fs.lookup f = some v)
    (k : Q v H) : tFld K (tVar i) f σ H Q := ⟨_, e, a, C, dx, fs, v, rfl, h, c, n, l, k⟩
end L2
end
section
set_option Elab.async false
set_option linter.all false
set_option maxRecDepth 100000
set_option maxHeartbeats 2000000
namespace PySem.SeqAt
open AutoSeq1 (wpAny_loadPart')
open MeetsSeq MeetsSeq2 MeetsSeq3 SeqRoads2
noncomputable def LtAt (A : Around) (s : Shared) (y x : Value) (b : Bool) : Prop :=
  ∀ (prog : Program) (w : World) (E : Value → Shared → Prop) (Q : Value → Shared → Prop), Q (.bool b) s → wpAny (model prog w) A (richCompare .Lt y x) Q E s
noncomputable def ltFrom (e lt : Nat → Bool) (n m : Nat) : Nat → Nat → Bool
  | 0, _ => decide (n < m)
  | k + 1, i => if e i = true then ltFrom e lt n m k (i + 1) else lt i
theorem lt_loopAt (l b : Addr) (items items2 : Array Value) (n n2 : Nat) (dd dd2 : Option Addr) (sl sl2 : Array (Option Value)) (e lt : Nat → Bool) (k : Nat) :
    ∀ i : Nat, min items.size items2.size - i = k → Meets (Builtin.«list.__eq__.loop» ⟨[.ref l, .ref b, rawInt i, rawInt 0], []⟩)
      (fun A R s => s.heap.get? l = some { cls := .type "list", dict := dd, data := .seq items n, slots := sl } ∧ s.heap.get? b = some { cls := .type "list", dict := dd2, data := .seq items2 n2, slots := sl2 } ∧
        (∀ j (h1 : j < items.size) (h2 : j < items2.size), EqAt A.in1 s items[j] items2[j] (e j)) ∧
        (∀ j (h1 : j < items.size) (h2 : j < items2.size), e j = false → LtAt A.in1 s items[j] items2[j] (lt j)) ∧
        R (.ok (.ret (.bool (ltFrom e lt items.size items2.size k i)))) s) := by
  induction k with
  | zero =>
    intro i hk prog w A R s h
    obtain ⟨hp, g, d, tk, os⟩ := s; obtain ⟨hl, hb, he, hlt, h⟩ := h
    wp_walk using wpAny_loadPart' hl, wpAny_loadPart' hb
    have h : R (.ok (.ret (.bool (decide (items.size < items2.size))))) ⟨hp, g, d, tk, os⟩ := h
    by_cases h1 : i < items.size
    · have hi1 : items[((i : Nat) : Int).toNat]? = some items[i] := by simp [h1]
      have hi2 : items2[((i : Nat) : Int).toNat]? = none := by simp; omega
      rw [hi1, hi2]
      wp_walk using wpAny_loadPart' hl, wpAny_loadPart' hb
      exact h
    · have hi1 : items[((i : Nat) : Int).toNat]? = none := by simp; omega
      rw [hi1]
      wp_walk using wpAny_loadPart' hl, wpAny_loadPart' hb
      exact h
  | succ k ih =>
    intro i hk prog w A R s h
    obtain ⟨hp, g, d, tk, os⟩ := s; obtain ⟨hl, hb, he, hlt, h⟩ := h
    wp_walk using wpAny_loadPart' hl, wpAny_loadPart' hb
    have hlt1 : i < items.size := by omega
    have hlt2 : i < items2.size := by omega
    have hi1 : items[((i : Nat) : Int).toNat]? = some items[i] := by simp [hlt1]
    have hi2 : items2[((i : Nat) : Int).toNat]? = some items2[i] := by simp [hlt2]
    have hc : ((i : Int) + 1) = ((i + 1 : Nat) : Int) := by push_cast; rfl
    have h : R (.ok (.ret (.bool (if e i = true then ltFrom e lt items.size items2.size k (i + 1) else lt i)))) ⟨hp, g, d, tk, os⟩ := h
    rw [hi1, hi2]
    refine wpAny_bind (he i hlt1 hlt2 prog w _ _ ?_)
    cases hb' : e i with
    | true =>
      rw [hb', if_pos rfl] at h
      wp_walk
      rw [hc]
      exact ⟨plainId_quiet plain_eq_loop _, codeAny_builtin entry_eq_loop (by
        rw [Around.under_plainId plain_eq_loop _]
        exact ih (i + 1) (by omega) prog w A R _ ⟨hl, hb, he, hlt, h⟩)⟩
    | false =>
      rw [hb', if_neg Bool.false_ne_true] at h
      have hri := hlt i hlt1 hlt2 hb' prog w
      wp_walk using wpAny_loadPart' hl, wpAny_loadPart' hb
      rw [hi1, hi2]
      wp_walk using hri
      exact h
theorem list_ltAt (l b : Addr) (items items2 : Array Value) (n n2 : Nat) (dd dd2 : Option Addr) (sl sl2 : Array (Option Value)) (e lt : Nat → Bool) :
    Meets (Builtin.«list.__lt__» ⟨[.ref l, .ref b], []⟩)
      (fun A R s => s.heap.get? l = some { cls := .type "list", dict := dd, data := .seq items n, slots := sl } ∧ s.heap.get? b = some { cls := .type "list", dict := dd2, data := .seq items2 n2, slots := sl2 } ∧
        (∀ j (h1 : j < items.size) (h2 : j < items2.size), EqAt A.in1 s items[j] items2[j] (e j)) ∧
        (∀ j (h1 : j < items.size) (h2 : j < items2.size), e j = false → LtAt A.in1 s items[j] items2[j] (lt j)) ∧
        R (.ok (.ret (.bool (ltFrom e lt items.size items2.size (min items.size items2.size) 0)))) s) := by
  intro prog w A R s h
  obtain ⟨hp, g, d, tk, os⟩ := s; obtain ⟨hl, hb, he, hlt, h⟩ := h
  have f3 := AutoSeq1.sub_list_list
  wp_walk using wpAny_loadPart' hl, wpAny_loadPart' hb
  exact ⟨plainId_quiet plain_eq_loop _, codeAny_builtin entry_eq_loop (by
    rw [Around.under_plainId plain_eq_loop _]
    exact lt_loopAt l b items items2 n n2 dd dd2 sl sl2 e lt _ 0 rfl prog w A R _ ⟨hl, hb, he, hlt, h⟩)⟩
theorem LtAt.lists {A : Around} {s : Shared} {l b : Addr} {items items2 : Array Value} {e lt : Nat → Bool} (hl : s.heap.IsList l items) (hb : s.heap.IsList b items2) (hu : A.units < cLine)
    (he : ∀ j (h1 : j < items.size) (h2 : j < items2.size), EqAt A.in1 s items[j] items2[j] (e j))
    (hlt : ∀ j (h1 : j < items.size) (h2 : j < items2.size), e j = false → LtAt A.in1 s items[j] items2[j] (lt j)) : LtAt A s (.ref l) (.ref b) (ltFrom e lt items.size items2.size (min items.size items2.size) 0) := fun prog w E Q h => by
  obtain ⟨⟨cls, dd, data, sl⟩, ho, hc, n, hd⟩ := id hl
  obtain ⟨⟨cls2, dd2, data2, sl2⟩, ho2, hc2, n2, hd2⟩ := id hb
  simp only at hc hd hc2 hd2
  subst hc hd hc2 hd2
  exact richCompare_meets_room (op := .Lt) ⟨_, ho, rfl⟩ ⟨_, ho2, rfl⟩ F.slot_list_lt F.entry_list_lt (F.args_list_lt_2 _ _) (list_ltAt l b items items2 n n2 dd dd2 sl sl2 e lt)
    ⟨ho, ho2, he, hlt, show Value.bool (ltFrom e lt items.size items2.size (min items.size items2.size) 0) ≠ Value.notImplemented ∧ Q (.bool (ltFrom e lt items.size items2.size (min items.size items2.size) 0)) s from ⟨(fun x => nomatch x), h⟩⟩ hu
end PySem.SeqAt
end
section
set_option Elab.async false
set_option linter.all false
set_option maxRecDepth 100000
set_option maxHeartbeats 2000000
namespace Sh
open PySem PySem.Spec PyProof.Rows L2
open PySem.W (Codec)
noncomputable def top (i : Nat) : Stmt := PySem.Challenge.pw_shelfnames_s01_answers.main.body.getD i (.Pass ⟨0, 0, 0, 0⟩)
noncomputable abbrev sLev : Stmt := top 8
noncomputable abbrev sStand : Stmt := top 9
noncomputable abbrev sOpts : Stmt := top 10
noncomputable abbrev sOrd : Stmt := top 11
noncomputable abbrev sBetw : Stmt := top 12
noncomputable abbrev sInb : Stmt := top 13
noncomputable abbrev sKeyOf : Stmt := top 14
noncomputable abbrev sLowOf : Stmt := top 15
noncomputable abbrev sHighOf : Stmt := top 16
noncomputable abbrev sWts : Stmt := top 31
noncomputable abbrev sIsq : Stmt := top 32
noncomputable abbrev sThr : Stmt := top 33
noncomputable abbrev sStr : Stmt := top 34
noncomputable abbrev sLong : Stmt := top 35
noncomputable abbrev sWlen : Stmt := top 36
noncomputable abbrev sTInit : Stmt := inClass (top 37) 0
noncomputable abbrev sBegin : Stmt := inClass (top 37) 1
noncomputable abbrev sAdd : Stmt := inClass (top 37) 2
noncomputable abbrev sDrop : Stmt := inClass (top 37) 3
noncomputable abbrev sCount : Stmt := inClass (top 37) 4
noncomputable abbrev sCut : Stmt := inClass (top 37) 5
noncomputable abbrev sComp : Stmt := inClass (top 37) 6
noncomputable abbrev sFind : Stmt := inClass (top 37) 7
noncomputable abbrev sKey : Stmt := inClass (top 37) 8
noncomputable abbrev sLow : Stmt := inClass (top 37) 9
noncomputable abbrev sHigh : Stmt := inClass (top 37) 10
noncomputable abbrev sBehind : Stmt := inClass (top 37) 11
noncomputable abbrev sWat : Stmt := inClass (top 37) 12
noncomputable abbrev sJof : Stmt := inClass (top 37) 13
noncomputable abbrev sWof : Stmt := inClass (top 37) 14
noncomputable abbrev sLof : Stmt := inClass (top 37) 15
noncomputable abbrev sLbef : Stmt := inClass (top 37) 16
noncomputable abbrev sFirst : Stmt := inClass (top 37) 17
noncomputable abbrev sRInit : Stmt := inClass (top 50) 0
noncomputable abbrev sMore : Stmt := inClass (top 50) 1
noncomputable abbrev sNum : Stmt := inClass (top 50) 2
noncomputable abbrev sRow : Stmt := inClass (top 50) 3
noncomputable abbrev sAnsA : Stmt := top 51
noncomputable abbrev sAnsC : Stmt := top 52
noncomputable abbrev sAnsM : Stmt := top 53
noncomputable abbrev sAnsF : Stmt := top 54
noncomputable abbrev sAnswer : Stmt := top 55
noncomputable abbrev sAnswers : Stmt := top 56
noncomputable def GI (mg : Str → Option Value) (x : Str) (n : Int) : Prop := ∃ t, mg x = some (.int n t)
set_option genInjectivity false
set_option genSizeOfSpec false
structure Adr where
  CT : Addr
  CR : Addr
  lev : Addr
  levD : FuncData
  stand : Addr
  standD : FuncData
  opts : Addr
  optsD : FuncData
  ord : Addr
  ordD : FuncData
  betw : Addr
  betwD : FuncData
  inb : Addr
  inbD : FuncData
  keyOf : Addr
  keyOfD : FuncData
  lowOf : Addr
  lowOfD : FuncData
  highOf : Addr
  highOfD : FuncData
  wts : Addr
  wtsD : FuncData
  isq : Addr
  isqD : FuncData
  thr : Addr
  thrD : FuncData
  str : Addr
  strD : FuncData
  long : Addr
  longD : FuncData
  wlen : Addr
  wlenD : FuncData
  tinit : Addr
  tinitD : FuncData
  begin : Addr
  beginD : FuncData
  add : Addr
  addD : FuncData
  drop : Addr
  dropD : FuncData
  count : Addr
  countD : FuncData
  cut : Addr
  cutD : FuncData
  comp : Addr
  compD : FuncData
  find : Addr
  findD : FuncData
  key : Addr
  keyD : FuncData
  low : Addr
  lowD : FuncData
  high : Addr
  highD : FuncData
  behind : Addr
  behindD : FuncData
  wat : Addr
  watD : FuncData
  jof : Addr
  jofD : FuncData
  wof : Addr
  wofD : FuncData
  lof : Addr
  lofD : FuncData
  lbef : Addr
  lbefD : FuncData
  first : Addr
  firstD : FuncData
  rinit : Addr
  rinitD : FuncData
  more : Addr
  moreD : FuncData
  num : Addr
  numD : FuncData
  row : Addr
  rowD : FuncData
  ansA : Addr
  ansAD : FuncData
  ansC : Addr
  ansCD : FuncData
  ansM : Addr
  ansMD : FuncData
  ansF : Addr
  ansFD : FuncData
  answer : Addr
  answerD : FuncData
  answers : Addr
  answersD : FuncData
structure Txt (K : PySem.W.Frag) (mg : Str → Option Value) (A : Adr) : Prop where
  clT : Cls K A.CT
  clR : Cls K A.CR
  nOpt : NoAttr K A.CT "options"
  nEnt : NoAttr K A.CT "entries"
  nCalls : NoAttr K A.CR "calls"
  nPlace : NoAttr K A.CR "place"
  mT : mg "Table" = some (.ref A.CT)
  mR : mg "Reader" = some (.ref A.CR)
  blen : mg "len" = none
  ball : mg "all" = none
  brange : mg "range" = none
  bmin : mg "min" = none
  btuple : mg "tuple" = none
  blist : mg "list" = none
  breversed : mg "reversed" = none
  gF1 : GI mg "FIRST" (0)
  gF2 : GI mg "SECOND" (1)
  gF3 : GI mg "THIRD" (2)
  gFE : GI mg "FROM_THE_END" (1)
  gEQ : GI mg "EQUAL" (0)
  gBE : GI mg "BEFORE" (1)
  gBH : GI mg "BEHIND" (2)
  gGO : GI mg "GREATEST_OPTIONS" (1)
  gLS : GI mg "LONGEST_SEQUENCE" (8)
  gWE : GI mg "WEIGHTS_EACH" (3)
  gMW : GI mg "MOST_WEIGHTS" (12)
  gGW : GI mg "GREATEST_WEIGHT" (65535)
  gME : GI mg "MOST_ENTRIES" (64)
  gLT : GI mg "LONGEST_TEXT" (64)
  gGS : GI mg "GREATEST_STRENGTH" (3)
  gUL : GI mg "UNLISTED" (65536)
  gUN : GI mg "UNFIT" (-1)
  gTL : GI mg "TOO_LONG" (-2)
  gTA : GI mg "THERE_ALREADY" (-3)
  gFU : GI mg "FULL" (-4)
  gB : GI mg "BEGIN" (0)
  gA : GI mg "ADD" (1)
  gD : GI mg "DROP" (2)
  gC : GI mg "COUNT" (3)
  gU : GI mg "CUT" (4)
  gCO : GI mg "COMPARE" (5)
  gFI : GI mg "FIND" (6)
  gK : GI mg "KEY" (7)
  gL : GI mg "LOW" (8)
  gH : GI mg "HIGH" (9)
  fLev : Fun K "level" "level" sLev A.lev A.levD
  mLev : mg "level" = some (.ref A.lev)
  fStand : Fun K "levels_as_they_stand" "levels_as_they_stand" sStand A.stand A.standD
  mStand : mg "levels_as_they_stand" = some (.ref A.stand)
  fOpts : Fun K "levels_by_options" "levels_by_options" sOpts A.opts A.optsD
  mOpts : mg "levels_by_options" = some (.ref A.opts)
  fOrd : Fun K "order" "order" sOrd A.ord A.ordD
  mOrd : mg "order" = some (.ref A.ord)
  fBetw : Fun K "are_between" "are_between" sBetw A.betw A.betwD
  mBetw : mg "are_between" = some (.ref A.betw)
  fInb : Fun K "in_bytes" "in_bytes" sInb A.inb A.inbD
  mInb : mg "in_bytes" = some (.ref A.inb)
  fKeyOf : Fun K "key_of" "key_of" sKeyOf A.keyOf A.keyOfD
  mKeyOf : mg "key_of" = some (.ref A.keyOf)
  fLowOf : Fun K "low_of" "low_of" sLowOf A.lowOf A.lowOfD
  mLowOf : mg "low_of" = some (.ref A.lowOf)
  fHighOf : Fun K "high_of" "high_of" sHighOf A.highOf A.highOfD
  mHighOf : mg "high_of" = some (.ref A.highOf)
  fWts : Fun K "are_weights" "are_weights" sWts A.wts A.wtsD
  mWts : mg "are_weights" = some (.ref A.wts)
  fIsq : Fun K "is_sequence" "is_sequence" sIsq A.isq A.isqD
  mIsq : mg "is_sequence" = some (.ref A.isq)
  fThr : Fun K "in_threes" "in_threes" sThr A.thr A.thrD
  mThr : mg "in_threes" = some (.ref A.thr)
  fStr : Fun K "is_strength" "is_strength" sStr A.str A.strD
  mStr : mg "is_strength" = some (.ref A.str)
  fLong : Fun K "is_too_long" "is_too_long" sLong A.long A.longD
  mLong : mg "is_too_long" = some (.ref A.long)
  fWlen : Fun K "with_length" "with_length" sWlen A.wlen A.wlenD
  mWlen : mg "with_length" = some (.ref A.wlen)
  fTInit : Fun K "__init__" "Table.__init__" sTInit A.tinit A.tinitD
  kTInit : Mk K A.CT A.tinit
  fBegin : Fun K "begin" "Table.begin" sBegin A.begin A.beginD
  kBegin : Meth K A.CT "begin" A.begin
  fAdd : Fun K "add" "Table.add" sAdd A.add A.addD
  kAdd : Meth K A.CT "add" A.add
  fDrop : Fun K "drop" "Table.drop" sDrop A.drop A.dropD
  kDrop : Meth K A.CT "drop" A.drop
  fCount : Fun K "count" "Table.count" sCount A.count A.countD
  kCount : Meth K A.CT "count" A.count
  fCut : Fun K "cut" "Table.cut" sCut A.cut A.cutD
  kCut : Meth K A.CT "cut" A.cut
  fComp : Fun K "compare" "Table.compare" sComp A.comp A.compD
  kComp : Meth K A.CT "compare" A.comp
  fFind : Fun K "find" "Table.find" sFind A.find A.findD
  kFind : Meth K A.CT "find" A.find
  fKey : Fun K "key" "Table.key" sKey A.key A.keyD
  kKey : Meth K A.CT "key" A.key
  fLow : Fun K "low" "Table.low" sLow A.low A.lowD
  kLow : Meth K A.CT "low" A.low
  fHigh : Fun K "high" "Table.high" sHigh A.high A.highD
  kHigh : Meth K A.CT "high" A.high
  fBehind : Fun K "place_behind" "Table.place_behind" sBehind A.behind A.behindD
  kBehind : Meth K A.CT "place_behind" A.behind
  fWat : Fun K "weights_at" "Table.weights_at" sWat A.wat A.watD
  kWat : Meth K A.CT "weights_at" A.wat
  fJof : Fun K "joints_of" "Table.joints_of" sJof A.jof A.jofD
  kJof : Meth K A.CT "joints_of" A.jof
  fWof : Fun K "weights_of" "Table.weights_of" sWof A.wof A.wofD
  kWof : Meth K A.CT "weights_of" A.wof
  fLof : Fun K "levels_of" "Table.levels_of" sLof A.lof A.lofD
  kLof : Meth K A.CT "levels_of" A.lof
  fLbef : Fun K "levels_before" "Table.levels_before" sLbef A.lbef A.lbefD
  kLbef : Meth K A.CT "levels_before" A.lbef
  fFirst : Fun K "first_match" "Table.first_match" sFirst A.first A.firstD
  kFirst : Meth K A.CT "first_match" A.first
  fRInit : Fun K "__init__" "Reader.__init__" sRInit A.rinit A.rinitD
  kRInit : Mk K A.CR A.rinit
  fMore : Fun K "has_more" "Reader.has_more" sMore A.more A.moreD
  kMore : Meth K A.CR "has_more" A.more
  fNum : Fun K "take_number" "Reader.take_number" sNum A.num A.numD
  kNum : Meth K A.CR "take_number" A.num
  fRow : Fun K "take_row" "Reader.take_row" sRow A.row A.rowD
  kRow : Meth K A.CR "take_row" A.row
  fAnsA : Fun K "answer_add" "answer_add" sAnsA A.ansA A.ansAD
  mAnsA : mg "answer_add" = some (.ref A.ansA)
  fAnsC : Fun K "answer_cut" "answer_cut" sAnsC A.ansC A.ansCD
  mAnsC : mg "answer_cut" = some (.ref A.ansC)
  fAnsM : Fun K "answer_compare" "answer_compare" sAnsM A.ansM A.ansMD
  mAnsM : mg "answer_compare" = some (.ref A.ansM)
  fAnsF : Fun K "answer_find" "answer_find" sAnsF A.ansF A.ansFD
  mAnsF : mg "answer_find" = some (.ref A.ansF)
  fAnswer : Fun K "answer" "answer" sAnswer A.answer A.answerD
  mAnswer : mg "answer" = some (.ref A.answer)
  fAnswers : Fun K "answers" "answers" sAnswers A.answers A.answersD
  mAnswers : mg "answers" = some (.ref A.answers)
end Sh
end
section
set_option Elab.async false
set_option linter.all false
set_option maxRecDepth 100000
set_option maxHeartbeats 2000000
namespace Sh
open PySem PySem.Spec PyProof.Rows L2
open PySem.W (Codec)
theorem pgi {X : Cx} {x : Str} {n : Int} {pos : Pos} (h : GI X.mg x n) (hg : Gl X x := by rfl) (hd : (x == ("__debug__" : Str)) = false := by decide) : PE X (.Name x pos) (tC (.int n)) := by
  obtain ⟨t, e⟩ := h
  exact pe_glob hg e ⟨t, rfl⟩ hd
theorem pe_len {X : Cx} {e : Expr} {te : TE} {p pos : Pos} (hm : X.mg "len" = none) (he : PE X e te) (hg : Gl X "len" := by rfl) (hs : starEach [e] X.env = (false, eval e X.env) :: starEach [] X.env := by rfl) :
    PE X (.Call (.Name "len" p) [e] [] pos) (tCB (fun xs H Q => ∃ p ys, xs = [.ref p] ∧ (SqL X.K H p ys ∨ SqT X.K H p ys) ∧ Q (.int ys.length) H) (tCons te tNil)) :=
  pe_callB call_len_seq hg hm PySem.boot_len (pa_cons he pa_nil hs) (by decide) (by decide) hs rfl
section
variable {P : Program} {w : World} {K : PySem.W.Frag} {mg : Str → Option Value} {base : Heap} {D : Adr}
noncomputable def spIsq (K : PySem.W.Frag) : Sp := fun vs H Q _ => ∃ (a : Addr) (xs : List V), vs = [.ref a] ∧ SqL K H a xs ∧ Q (.bl (decide (1 ≤ xs.length ∧ xs.length ≤ 8))) H
theorem scIsq : FnScope ["seq"] ["seq"] (defScope sIsq) := ⟨rfl, rfl, rfl, by decide +kernel, rfl, by decide +kernel, by decide +kernel⟩
theorem ok_isq (T : Txt K mg D) : FnOk P w K mg base CX0 1 D.isq D.isqD ["seq"] (spIsq K) := by
  refine T.fIsq.ok scIsq (fun vs H Q E h => ?_) (fun cdv A outer s H vs Q E hr h => ?_)
  · obtain ⟨a, xs, rfl, _⟩ := h
    rfl
  · obtain ⟨a, xs, rfl, hS, k⟩ := h
    refine ⟨_, pss_one (ps_ret (pe_chain op_le op_le pe_int (pe_len T.blen (pv 0)) (pgi T.gLS))), ?_⟩
    dsimp only [cxOf, Cx.nox]
    refine ⟨_, rfl, a, xs, rfl, .inl hS, _, _, rfl, rfl, _, rfl, ?_⟩
    refine ite2 (fun h1 => ?_) (fun h1 => ?_)
    · have h1' := of_decide_eq_true h1
      refine ⟨_, _, rfl, rfl, ?_⟩
      have e : decide ((xs.length : Int) ≤ 8) = decide (1 ≤ xs.length ∧ xs.length ≤ 8) := by
        rw [decide_eq_decide]
        omega
      show Q (.bl (decide ((xs.length : Int) ≤ 8))) H
      rw [e]
      exact k
    · have h1' : ¬ (1 : Int) ≤ (xs.length : Int) := fun z => h1 (decide_eq_true z)
      have e : false = decide (1 ≤ xs.length ∧ xs.length ≤ 8) := by
        rw [eq_comm, decide_eq_false_iff_not]
        omega
      show Q (.bl false) H
      rw [e]
      exact k
noncomputable def wtsOk (ns : List Int) : Bool := decide (ns.length % 3 = 0) && decide (ns.length ≤ 12) && ns.all fun n => decide (n ≤ 65535)
noncomputable def spWts (K : PySem.W.Frag) : Sp := fun vs H Q _ => ∃ (a : Addr) (ns : List Int), vs = [.ref a] ∧ SqL K H a (ns.map V.int) ∧ ns.length ≤ 3000 ∧ ∀ H', Same H H' → Q (.bl (wtsOk ns)) H'
theorem scWts : FnScope ["w", "weight"] ["w"] (defScope sWts) := ⟨rfl, rfl, rfl, by decide +kernel, rfl, by decide +kernel, by decide +kernel⟩
theorem Same.upd_new {H : Hp} {p : Addr} {o : HO} (h : H p = none) : Same H (upd H p o) := fun b u e => by
  rw [upd_ne (ne_of_none e h)]
  exact e
theorem get_ints {ns : List Int} {i : Nat} {y : V} (h : (ns.map V.int)[i]? = some y) : ∃ z, ns[i]? = some z ∧ y = V.int z := by
  rw [List.getElem?_map] at h
  obtain ⟨z, hz, e⟩ := Option.map_eq_some_iff.mp h
  exact ⟨z, hz, e.symm⟩
theorem take_snoc {α : Type} : ∀ {l : List α} {i : Nat} {x : α}, l[i]? = some x → l.take (i + 1) = l.take i ++ [x]
  | [], i, x, h => by simp at h
  | a :: l, 0, x, h => by
    have e : a = x := Option.some.inj h
    subst e
    rfl
  | a :: l, i + 1, x, h => by
    have ih := take_snoc (l := l) (i := i) (x := x) h
    show a :: l.take (i + 1) = a :: l.take i ++ [x]
    rw [ih]
    rfl
theorem ok_wts (T : Txt K mg D) : FnOk P w K mg base CX0 1 D.wts D.wtsD ["w"] (spWts K) := by
  refine T.fWts.ok scWts (fun vs H Q E h => ?_) (fun cdv A outer s H vs Q E hr h => ?_)
  · obtain ⟨a, xs, rfl, _⟩ := h
    rfl
  · obtain ⟨a, ns, rfl, hS, hlen, k⟩ := h
    refine ⟨_, pss_cons (ps_if (PW.pt (pw_or (pt_cmpR op_ne (pe_op op_mod (pe_len T.blen (pv 0)) (pgi T.gWE)) pe_int (nomark _))
        (pw_or1 (pt_cmpR op_gt (pe_len T.blen (pv 0)) (pgi T.gMW) (nomark _))))) (pss_one (ps_ret pe_bl)) pss_nil)
      (pss_one (ps_ret (pe_callB (cr_all rfl) (by rfl) T.ball PyProof.Rows.boot_all (pa_cons (pe_lc (own := [("weight", 1)]) rfl scWts.nd (pi_list (pv 0)) (blkOk_by (by show blkC ["w", "weight"] (defScope sWts) _ _ = true; decide +kernel))
        (fun _ _ _ _ _ => pg_name (i := 1) scWts.nd rfl (Or.inl rfl)) (fun _ _ _ _ _ => pts_nil) (fun _ _ _ _ _ => pe_cmpR op_le (pv 1) (pgi T.gGW) (nomark _))) pa_nil)))), ?_⟩
    dsimp only [cxOf, Cx.nox]
    refine ⟨_, rfl, a, _, rfl, .inl hS, _, _, rfl, rfl, (by show (0 : Int) < 3; decide), rfl, _, rfl, ?_⟩
    have no : wtsOk ns = false → Q (.bl false) H := fun e => by
      have q := k H (Same.refl H)
      rw [e] at q
      exact q
    refine ite2 (fun h1 => iteT ?_) (fun h1 => ?_)
    · refine no ?_
      have h2 : ¬ ns.length % 3 = 0 := fun e => by
        have e3 : ((ns.map V.int).length : Int) % 3 = 0 := by rw [List.length_map]; omega
        have h1 : (!decide (V.int (((ns.map V.int).length : Int) % 3) = V.int 0)) = true := h1
        rw [e3] at h1
        exact absurd h1 (by decide)
      unfold wtsOk
      rw [decide_eq_false h2]
      rfl
    · have h2 : ns.length % 3 = 0 := by
        refine Classical.byContradiction fun e => h1 ?_
        have e3 : ¬ V.int (((ns.map V.int).length : Int) % 3) = V.int 0 := fun z => by
          have z' := V.int.inj z
          rw [List.length_map] at z'
          omega
        rw [decide_eq_false e3]
        rfl
      refine ⟨_, rfl, a, _, rfl, .inl hS, _, _, rfl, rfl, _, rfl, ?_⟩
      refine ite2 (fun h3 => ?_) (fun h3 => ?_)
      · refine no ?_
        have h4 := of_decide_eq_true h3
        rw [List.length_map] at h4
        have h5 : ¬ ns.length ≤ 12 := by omega
        unfold wtsOk
        rw [decide_eq_false h5, Bool.and_false]
        rfl
      · have h4 : ns.length ≤ 12 := by
          refine Classical.byContradiction fun e => h3 (decide_eq_true ?_)
          rw [List.length_map]
          omega
        refine ⟨_, rfl, a, rfl, ⟨_, hS⟩, fun D hD => ?_⟩
        have s1 : Same H (upd H D (.lst [])) := Same.upd_new hD
        refine lc_list (K := K) (a := a) (xs := ns.map V.int) (fun i H' => H' D = some (.lst ((ns.take i).map fun n => V.bl (decide (n ≤ 65535)))) ∧ Same H H') ⟨upd_same, s1⟩ (fun i H' _ h => h.2.seq hS) ?_ ?_
        · rintro i x H' hi ⟨hd, hs⟩
          obtain ⟨z, hz, rfl⟩ := get_ints hi
          refine ⟨rfl, _, rfl, _, _, rfl, rfl, _, hd, ?_, ?_, ?_⟩
          · rw [List.length_map, List.length_take]
            exact small1000 (by omega)
          · rw [upd_same, take_snoc hz, List.map_append]
            rfl
          · intro b o e
            rw [upd_ne (ne_of_none e hD)]
            exact hs b o e
        · rintro H' ⟨hd, hs⟩
          rw [List.length_map, List.take_length] at hd
          refine ⟨D, ns.map fun n => decide (n ≤ 65535), rfl, SqL.of (by rw [hd, List.map_map]; rfl), ?_⟩
          have e : (ns.map fun n => decide (n ≤ 65535)).all id = wtsOk ns := by
            unfold wtsOk
            rw [decide_eq_true h2, decide_eq_true h4, List.all_map]
            rfl
          have q := k H' hs
          rw [← e] at q
          exact q
structure Elm where
  one : Int
  two : Int
  thr : Int
noncomputable def elms : List Int → List Elm
  | a :: b :: c :: r => ⟨a, b, c⟩ :: elms r
  | _ => []
noncomputable def TupsAt (H : Hp) (as : List Addr) (es : List Elm) : Prop := Paired (fun a e => H a = some (.tup [.int e.one, .int e.two, .int e.thr])) as es
noncomputable def ElmsAt (H : Hp) (l : Addr) (es : List Elm) : Prop := ∃ as : List Addr, H l = some (.lst (as.map V.ref)) ∧ TupsAt H as es
theorem TupsAt.keep {H H' : Hp} {as : List Addr} {es : List Elm} (h : TupsAt H as es) (s : ∀ b xs, H b = some (.tup xs) → H' b = some (.tup xs)) : TupsAt H' as es :=
  Paired.mapP h fun a e q => s _ _ q
theorem elms_len : ∀ ns : List Int, (elms ns).length = ns.length / 3
  | a :: b :: c :: r => by
    show (elms r).length + 1 = (r.length + 1 + 1 + 1) / 3
    rw [elms_len r]
    omega
  | [] => rfl
  | [_] => by simp [elms]
  | [_, _] => by simp [elms]
theorem elms_get : ∀ (ns : List Int) (i : Nat), i < ns.length / 3 → ∃ a b c, ns[3 * i]? = some a ∧ ns[3 * i + 1]? = some b ∧ ns[3 * i + 2]? = some c ∧ (elms ns)[i]? = some ⟨a, b, c⟩
  | [], i, h => by simp at h
  | [_], i, h => by simp at h
  | [_, _], i, h => by simp at h
  | a :: b :: c :: r, 0, h => ⟨a, b, c, rfl, rfl, rfl, rfl⟩
  | a :: b :: c :: r, i + 1, h => by
    obtain ⟨x, y, z, h1, h2, h3, h4⟩ := elms_get r i (by simp only [List.length_cons] at h; omega)
    exact ⟨x, y, z, h1, h2, h3, h4⟩
theorem Paired.snoc {α β : Type} {F : α → β → Prop} : ∀ {l : List α} {m : List β} {a : α} {b : β}, Paired F l m → F a b → Paired F (l ++ [a]) (m ++ [b])
  | _, _, _, _, .nil, h => .cons h .nil
  | _, _, _, _, .cons r t, h => .cons r (Paired.snoc t h)
noncomputable def spThr (K : PySem.W.Frag) : Sp := fun vs H Q _ => ∃ (a : Addr) (ns : List Int), vs = [.ref a] ∧ SqL K H a (ns.map V.int) ∧ ns.length ≤ 12 ∧ ns.length % 3 = 0 ∧ ∀ H' l, Same H H' → H l = none → ElmsAt H' l (elms ns) → Q (.ref l) H'
theorem scThr : FnScope ["w", "k"] ["w"] (defScope sThr) := ⟨rfl, rfl, rfl, by decide +kernel, rfl, by decide +kernel, by decide +kernel⟩
theorem ok_thr (T : Txt K mg D) : FnOk P w K mg base CX0 1 D.thr D.thrD ["w"] (spThr K) := by
  refine T.fThr.ok scThr (fun vs H Q E h => ?_) (fun cdv A outer s H vs Q E hr h => ?_)
  · obtain ⟨a, xs, rfl, _⟩ := h
    rfl
  · obtain ⟨a, ns, rfl, hS, hlen, h3, k⟩ := h
    refine ⟨_, pss_one (ps_ret (pe_lc (own := [("k", 1)]) rfl scThr.nd (pi_range3 (by rfl) T.brange (pa_cons pe_int (pa_cons (pe_len T.blen (pv 0)) (pa_cons (pgi T.gWE) pa_nil)))) (blkOk_by (by show blkC ["w", "k"] (defScope sThr) _ _ = true; decide +kernel))
        (fun _ _ _ _ _ => pg_name (i := 1) scThr.nd rfl (Or.inl rfl)) (fun _ _ _ _ _ => pts_nil)
        (fun _ _ _ _ _ => pe_tup (pa_cons (pe_ix (r := rIxL K) ix_list (pv 0) (pv 1) (fun _ _ => rfl)) (pa_cons (pe_ix (r := rIxL K) ix_list (pv 0) (pe_op op_add (pv 1) pe_int) (fun _ _ => rfl)) (pa_cons (pe_ix (r := rIxL K) ix_list (pv 0) (pe_op op_add (pv 1) pe_int) (fun _ _ => rfl)) pa_nil)))))), ?_⟩
    dsimp only [cxOf, Cx.nox]
    refine ⟨_, rfl, a, _, rfl, .inl hS, 0, _, 3, ns.length / 3, rfl, ?_, fun D hD => ?_⟩
    · have e : ((ns.map V.int).length : Int) = 3 * ((ns.length / 3 : Nat) : Int) := by
        rw [List.length_map]
        omega
      rw [e]
      exact RgC.three (by omega)
    · have s1 : Same H (upd H D (.lst [])) := Same.upd_new hD
      have bnd : ns.length ≤ 12 := hlen
      refine lc_rangeC (fun i H' => ∃ as : List Addr, H' D = some (.lst (as.map V.ref)) ∧ as.length = i ∧ TupsAt H' as ((elms ns).take i) ∧ Same H H') ⟨[], upd_same, rfl, .nil, s1⟩ ?_ ?_
      · rintro i H' hi ⟨as, hd, hl, ht, hs⟩
        obtain ⟨x, y, z, h1, h2, h3', h4⟩ := elms_get ns i hi
        have mp : ∀ {j : Nat} {v : Int}, ns[j]? = some v → (ns.map V.int)[j]? = some (V.int v) := fun {j v} e => by rw [List.getElem?_map, e]; rfl
        refine ⟨rfl, ⟨_, rfl, _, rfl, a, _, _, _, rfl, rfl, hs.seq hS, at_of (j := 3 * i) (by omega) (mp h1), _, rfl, _, rfl, _, _, rfl, rfl, a, _, _, _, rfl, rfl, hs.seq hS, at_of (j := 3 * i + 1) (by omega) (mp h2),
          _, rfl, _, rfl, _, _, rfl, rfl, a, _, _, _, rfl, rfl, hs.seq hS, at_of (j := 3 * i + 2) (by omega) (mp h3'), (by show 3 ≤ sizeLine; decide), fun p hp => ?_⟩⟩
        have hpD : D ≠ p := ne_of_none hd hp
        refine ⟨as.map V.ref, by rw [upd_ne hpD]; exact hd, by rw [List.length_map]; exact small1000 (by omega), as ++ [p], ?_, ?_, ?_, ?_⟩
        · rw [upd_same, List.map_append]
          rfl
        · rw [List.length_append, hl]
          rfl
        · rw [take_snoc h4]
          have kt : ∀ b xs, H' b = some (.tup xs) → (upd (upd H' p (.tup [V.int x, V.int y, V.int z])) D (.lst (as.map V.ref ++ [V.ref p]))) b = some (.tup xs) := fun b xs e => by
            rw [upd_ne (ne_of e hd (by intro q; cases q)), upd_ne (ne_of_none e hp)]
            exact e
          refine Paired.snoc (ht.keep kt) ?_
          show (upd (upd H' p (.tup [V.int x, V.int y, V.int z])) D (.lst (as.map V.ref ++ [V.ref p]))) p = some (.tup [V.int x, V.int y, V.int z])
          rw [upd_ne (Ne.symm hpD), upd_same]
        · intro b o e
          rw [upd_ne (ne_of_none e hD), upd_ne (ne_of_none (hs b o e) hp)]
          exact hs b o e
      · rintro H' ⟨as, hd, hl, ht, hs⟩
        rw [← elms_len, List.take_length] at ht
        exact k H' D hs hD ⟨as, hd, ht⟩
end
end Sh
end
section
set_option Elab.async false
set_option linter.all false
set_option maxRecDepth 100000
set_option maxHeartbeats 2000000
namespace Sh
open PySem PySem.Spec PyProof.Rows L2
open PySem.W (Codec)
theorem look1 {f : Str} {v : V} {r : List (Str × V)} : List.lookup f ((f, v) :: r) = some v := by simp [List.lookup]
theorem look2 {f g : Str} {v : V} {r : List (Str × V)} (h : ¬ f = g) : List.lookup f ((g, v) :: r) = List.lookup f r := by
  have e : (f == g) = false := beq_eq_false_iff_ne.mpr h
  simp only [List.lookup, e]
noncomputable def tf (o d : V) : List (Str × V) := [("options", o), ("entries", d)]
theorem tf_opt (o d : V) : (tf o d).lookup ("options" : Str) = some o := look1
theorem tf_ent (o d : V) : (tf o d).lookup ("entries" : Str) = some d := (look2 (by decide)).trans look1
theorem tf_no (o d : V) {m : Str} (h1 : ¬ m = "options") (h2 : ¬ m = "entries") : (tf o d).lookup m = none := (look2 h1).trans (look2 h2)
theorem tf_putO (o d v : V) : putF "options" v (tf o d) = tf v d := by
  show (if ("options" : Str) = "options" then [(("options" : Str), v), ("entries", d)] else _) = _
  rw [if_pos rfl]
  rfl
theorem tf_putE (o d v : V) : putF "entries" v (tf o d) = tf o v := by
  show (if ("options" : Str) = "entries" then _ else (("options" : Str), o) :: (if ("entries" : Str) = "entries" then [(("entries" : Str), v)] else _)) = _
  rw [if_neg (by decide), if_pos rfl]
  rfl
theorem tf_new (o d : V) : putF "entries" d (putF "options" o []) = tf o d := by
  show (if ("options" : Str) = "entries" then _ else (("options" : Str), o) :: [(("entries" : Str), d)]) = _
  rw [if_neg (by decide)]
  rfl
structure TabAt (C : Addr) (H : Hp) (t d : Addr) (o : Int) (kvs : List (List Key × V)) : Prop where
  ins : ∃ dx, H t = some (.ins C dx (tf (.int o) (.ref d)))
  dict : H d = some (.dT kvs)
noncomputable def But (t : Addr) (H H' : Hp) : Prop := ∀ b o, H b = some o → b ≠ t → H' b = some o
theorem TabAt.ne {C : Addr} {H : Hp} {t d : Addr} {o : Int} {kvs : List (List Key × V)} (B : TabAt C H t d o kvs) : t ≠ d := by
  obtain ⟨dx, h⟩ := B.ins
  exact ne_of h B.dict (by intro z; cases z)
theorem TabAt.same {C : Addr} {H H' : Hp} {t d : Addr} {o : Int} {kvs : List (List Key × V)} (B : TabAt C H t d o kvs) (s : Same H H') : TabAt C H' t d o kvs :=
  ⟨let ⟨dx, h⟩ := B.ins; ⟨dx, s _ _ h⟩, s _ _ B.dict⟩
noncomputable def keyOf (ns : List Int) : List Key := ns.map Sum.inl
theorem keyOf_V (ns : List Int) : (keyOf ns).map kV = ns.map V.int := by
  unfold keyOf
  rw [List.map_map]
  rfl
theorem keyOf_inj {a b : List Int} (h : keyOf a = keyOf b) : a = b := by
  have h' : (keyOf a).map kV = (keyOf b).map kV := by rw [h]
  rw [keyOf_V, keyOf_V] at h'
  exact (List.map_inj_right (fun x y e => V.int.inj e)).mp h'
section
variable {P : Program} {w : World} {K : PySem.W.Frag} {mg : Str → Option Value} {base : Heap} {D : Adr}
noncomputable def spTInit (C : Addr) : Sp := fun vs H Q _ => ∃ (p dx : Addr), vs = [.ref p] ∧ H p = some (.ins C dx []) ∧ ∀ (H' : Hp) (d : Addr), TabAt C H' p d 0 [] → But p H H' → H d = none → Q .non H'
theorem scTInit : FnScope ["self"] ["self"] (defScope sTInit) := ⟨rfl, rfl, rfl, by decide +kernel, rfl, by decide +kernel, by decide +kernel⟩
theorem ok_tinit (T : Txt K mg D) : FnOk P w K mg base CX0 1 D.tinit D.tinitD ["self"] (spTInit D.CT) := by
  refine T.fTInit.ok scTInit (fun vs H Q E h => ?_) (fun cdv A outer s H vs Q E hr h => ?_)
  · obtain ⟨p, dx, rfl, _⟩ := h
    rfl
  · obtain ⟨p, dx, rfl, hp, k⟩ := h
    refine ⟨_, pss_cons (ps_fld (pv 0) pe_int rfl) (pss_one (ps_fld (pv 0) pe_dnewT rfl)), ?_⟩
    dsimp only [cxOf, Cx.nox]
    refine ⟨_, rfl, p, D.CT, dx, [], rfl, hp, T.clT, T.nOpt, (by show 0 < 1000; decide), ?_⟩
    intro d hd
    have hpd : p ≠ d := ne_of_none upd_same hd
    have hd0 : H d = none := by
      rw [upd_ne (Ne.symm hpd)] at hd
      exact hd
    refine ⟨_, rfl, p, D.CT, dx, _, rfl, (by rw [upd_ne hpd]; exact upd_same), T.clT, T.nEnt, (by show 1 < 1000; decide), ?_⟩
    refine k _ d ⟨⟨dx, Eq.trans upd_same (congrArg (fun q => some (HO.ins D.CT dx q)) (tf_new _ _))⟩, ?_⟩ (fun b o e hb => ?_) hd0
    · rw [upd_ne (Ne.symm hpd)]
      exact upd_same
    · rw [upd_ne hb, upd_ne (ne_of_none e hd0), upd_ne hb]
      exact e
noncomputable def spBegin (C : Addr) : Sp := fun vs H Q _ => ∃ (t d : Addr) (o x : Int) (kvs : List (List Key × V)), vs = [.ref t, .int x] ∧ TabAt C H t d o kvs ∧ (1 < x → Q (.int (-1)) H) ∧
  (¬ 1 < x → ∀ (H' : Hp) (d' : Addr), TabAt C H' t d' x [] → But t H H' → H d' = none → Q (.int 0) H')
theorem scBegin : FnScope ["self", "options"] ["self", "options"] (defScope sBegin) := ⟨rfl, rfl, rfl, by decide +kernel, rfl, by decide +kernel, by decide +kernel⟩
theorem ok_begin (T : Txt K mg D) : FnOk P w K mg base CX0 1 D.begin D.beginD ["self", "options"] (spBegin D.CT) := by
  refine T.fBegin.ok scBegin (fun vs H Q E h => ?_) (fun cdv A outer s H vs Q E hr h => ?_)
  · obtain ⟨t, d, o, x, kvs, rfl, _⟩ := h
    rfl
  · obtain ⟨t, d, o, x, kvs, rfl, B, k1, k2⟩ := h
    obtain ⟨dx, ht⟩ := B.ins
    refine ⟨_, pss_cons (ps_if (pt_cmpR op_gt (pv 1) (pgi T.gGO) (nomark _)) (pss_one (ps_ret (pgi T.gUN))) pss_nil) (pss_cons (ps_fld (pv 0) (pv 1) rfl) (pss_cons (ps_fld (pv 0) pe_dnewT rfl) (pss_one (ps_ret pe_int)))), ?_⟩
    dsimp only [cxOf, Cx.nox]
    refine ⟨_, rfl, _, _, rfl, rfl, _, rfl, ite2 (fun h1 => k1 (of_decide_eq_true h1)) (fun h1 => ?_)⟩
    have k2 := k2 fun z => h1 (decide_eq_true z)
    refine ⟨_, rfl, _, rfl, t, D.CT, dx, _, rfl, ht, T.clT, T.nOpt, (by show 2 < 1000; decide), ?_⟩
    intro d' hd
    have htd : t ≠ d' := ne_of_none upd_same hd
    have hd0 : H d' = none := by
      rw [upd_ne (Ne.symm htd)] at hd
      exact hd
    refine ⟨_, rfl, t, D.CT, dx, _, rfl, (by rw [upd_ne htd]; exact upd_same), T.clT, T.nEnt, (by rw [tf_putO]; show 2 < 1000; decide), ?_⟩
    refine k2 _ d' ⟨⟨dx, Eq.trans upd_same (congrArg (fun q => some (HO.ins D.CT dx q)) (by rw [tf_putO, tf_putE]))⟩, ?_⟩ (fun b o e hb => ?_) hd0
    · rw [upd_ne (Ne.symm htd)]
      exact upd_same
    · rw [upd_ne hb, upd_ne (ne_of_none e hd0), upd_ne hb]
      exact e
noncomputable def spCount (C : Addr) : Sp := fun vs H Q _ => ∃ (t d : Addr) (o : Int) (kvs : List (List Key × V)), vs = [.ref t] ∧ TabAt C H t d o kvs ∧ Q (.int kvs.length) H
theorem scCount : FnScope ["self"] ["self"] (defScope sCount) := ⟨rfl, rfl, rfl, by decide +kernel, rfl, by decide +kernel, by decide +kernel⟩
theorem pe_lenT {X : Cx} {e : Expr} {te : TE} {p pos : Pos} (hm : X.mg "len" = none) (he : PE X e te) (hg : Gl X "len" := by rfl) (hs : starEach [e] X.env = (false, eval e X.env) :: starEach [] X.env := by rfl) :
    PE X (.Call (.Name "len" p) [e] [] pos) (tCB (fun xs H Q => ∃ a kvs, xs = [V.ref a] ∧ H a = some (.dT kvs) ∧ Q (.int kvs.length) H) (tCons te tNil)) :=
  pe_callB call_lenT hg hm PySem.boot_len (pa_cons he pa_nil hs) (by decide) (by decide) hs rfl
theorem pe_tuple {X : Cx} {e : Expr} {te : TE} {p pos : Pos} (hm : X.mg "tuple" = none) (he : PE X e te) (hg : Gl X "tuple" := by rfl) (hs : starEach [e] X.env = (false, eval e X.env) :: starEach [] X.env := by rfl) :
    PE X (.Call (.Name "tuple" p) [e] [] pos) (tCB (fun xs H Q => ∃ p ys, xs = [.ref p] ∧ ((SqL X.K H p ys ∧ ∀ l, H l = none → Q (.ref l) (upd H l (.tup ys))) ∨ (SqT X.K H p ys ∧ Q (.ref p) H))) (tCons te tNil)) :=
  pe_callTy call_tuple_of hg hm PyProof.Rows.boot_tuple (pa_cons he pa_nil hs) (by decide) (by decide) hs rfl
theorem ok_count (T : Txt K mg D) : FnOk P w K mg base CX0 1 D.count D.countD ["self"] (spCount D.CT) := by
  refine T.fCount.ok scCount (fun vs H Q E h => ?_) (fun cdv A outer s H vs Q E hr h => ?_)
  · obtain ⟨t, d, o, kvs, rfl, _⟩ := h
    rfl
  · obtain ⟨t, d, o, kvs, rfl, B, k⟩ := h
    obtain ⟨dx, ht⟩ := B.ins
    refine ⟨_, pss_one (ps_ret (pe_lenT T.blen (pe_fld (pv 0) rfl))), ?_⟩
    dsimp only [cxOf, Cx.nox]
    exact ⟨_, rfl, t, D.CT, dx, _, _, rfl, ht, T.clT, T.nEnt, tf_ent _ _, d, kvs, rfl, B.dict, k⟩
noncomputable def spDrop (K : PySem.W.Frag) (C : Addr) : Sp := fun vs H Q _ => ∃ (t d a : Addr) (o : Int) (kvs : List (List Key × V)) (ns : List Int), vs = [.ref t, .ref a] ∧ TabAt C H t d o kvs ∧ SqL K H a (ns.map V.int) ∧
  (valV kvs (keyOf ns) = none → ∀ H', Same H H' → Q (.int 0) H') ∧
  (∀ v, valV kvs (keyOf ns) = some v → ∀ H', But d H H' → TabAt C H' t d o (dropK kvs (keyOf ns)) → Q (.int 1) H')
theorem scDrop : FnScope ["self", "seq", "sequence"] ["self", "seq"] (defScope sDrop) := ⟨rfl, rfl, rfl, by decide +kernel, rfl, by decide +kernel, by decide +kernel⟩
theorem ok_drop (T : Txt K mg D) : FnOk P w K mg base CX0 1 D.drop D.dropD ["self", "seq"] (spDrop K D.CT) := by
  refine T.fDrop.ok scDrop (fun vs H Q E h => ?_) (fun cdv A outer s H vs Q E hr h => ?_)
  · obtain ⟨t, d, a, o, kvs, ns, rfl, _⟩ := h
    rfl
  · obtain ⟨t, d, a, o, kvs, ns, rfl, B, hS, k1, k2⟩ := h
    obtain ⟨dx, ht⟩ := B.ins
    have hu := hu_of hr
    refine ⟨_, pss_cons (ps_set (i := 2) scDrop.nd rfl (Or.inl rfl) (pe_tuple T.btuple (pv 1)))
      (pss_cons (ps_if (pt_cmp (pc_dnotin hu (pv 2) (pe_fld (pv 0) rfl))) (pss_one (ps_ret pe_int)) pss_nil)
      (pss_cons (ps_expr (pe_dpopT hu (pe_fld (pv 0) rfl) (pv 2) ⟨rfl, rfl, rfl, rfl⟩)) (pss_one (ps_ret pe_int)))), ?_⟩
    dsimp only [cxOf, Cx.nox]
    refine ⟨_, rfl, a, _, rfl, .inl ⟨hS, fun q hq => ?_⟩⟩
    have s1 : Same H (upd H q (.tup (ns.map V.int))) := Same.upd_new hq
    have B1 := B.same s1
    have ht1 := s1 _ _ ht
    have hk : upd H q (.tup (ns.map V.int)) q = some (.tup ((keyOf ns).map kV)) := by
      rw [upd_same, keyOf_V]
    refine ⟨_, rfl, _, rfl, t, D.CT, dx, _, _, rfl, ht1, T.clT, T.nEnt, tf_ent _ _, d, _, rfl, DGet.t B1.dict hk, _, rfl, ?_⟩
    cases e : valV kvs (keyOf ns) with
    | none => exact iteT (k1 e _ s1)
    | some v =>
      refine iteF ?_
      refine ⟨_, rfl, t, D.CT, dx, _, _, rfl, ht1, T.clT, T.nEnt, tf_ent _ _, d, rfl, .inr ⟨_, .inl B1.dict⟩, _, rfl, kvs, keyOf ns, v, q, B1.dict, rfl, hk, e, ?_⟩
      refine k2 v e _ (fun b u eb hb => ?_) ⟨⟨dx, ?_⟩, upd_same⟩
      · rw [upd_ne hb]
        exact s1 _ _ eb
      · rw [upd_ne B.ne]
        exact ht1
end
end Sh
end
section
set_option Elab.async false
set_option linter.all false
set_option maxRecDepth 100000
set_option maxHeartbeats 2000000
namespace Sh
open PySem PySem.Spec PyProof.Rows L2
open PySem.W (Codec)
theorem cut_ints (ns : List Int) {a b : Nat} (h1 : a ≤ b) (h2 : b ≤ ns.length) : cutV (ns.map V.int) (some (a : Int)) (some (b : Int)) = ((ns.drop a).take (b - a)).map V.int := by
  unfold cutV
  rw [HT.sIx_nat, HT.sIx_nat, List.length_map, Nat.min_eq_left (Nat.le_trans h1 h2), Nat.min_eq_left h2, ← List.map_drop, ← List.map_take]
noncomputable def stepN (kvs : List (List Key × V)) (r : List Int) : Nat → Nat
  | 0 => 1
  | n + 1 => if (valV kvs (keyOf (r.take (n + 1)))).isSome = true then n + 1 else stepN kvs r n
section
variable {P : Program} {w : World} {K : PySem.W.Frag} {mg : Str → Option Value} {base : Heap} {D : Adr}
noncomputable def spBehind (K : PySem.W.Frag) (C : Addr) : Sp := fun vs H Q _ => ∃ (t d a : Addr) (o : Int) (kvs : List (List Key × V)) (ns : List Int) (at_ : Nat), vs = [.ref t, .ref a, .int at_] ∧ TabAt C H t d o kvs ∧ SqL K H a (ns.map V.int) ∧ at_ < ns.length ∧ ns.length ≤ 3000 ∧
  ∀ H', Same H H' → Q (.int ((at_ + stepN kvs (ns.drop at_) (min 8 (ns.length - at_)) : Nat) : Int)) H'
theorem scBehind : FnScope ["self", "s", "at", "longest", "length"] ["self", "s", "at"] (defScope sBehind) := ⟨rfl, rfl, rfl, by decide +kernel, rfl, by decide +kernel, by decide +kernel⟩
theorem pe_min {X : Cx} {e e' : Expr} {te te' : TE} {p pos : Pos} (hc : X.calm = true) (hm : X.mg "min" = none) (he : PE X e te) (he' : PE X e' te') (hg : Gl X "min" := by rfl)
    (hs : starEach [e, e'] X.env = (false, eval e X.env) :: starEach [e'] X.env := by rfl) (hs2 : starEach [e'] X.env = (false, eval e' X.env) :: starEach [] X.env := by rfl) (hpl : (backTo pos (starEach [e'] X.env)).any (·.1) = false := by rfl) :
    PE X (.Call (.Name "min" p) [e, e'] [] pos) (tCB (fun xs H Q => ∃ i j, xs = [.int i, .int j] ∧ Q (.int (if j < i then j else i)) H) (tCons te (tCons te' tNil))) :=
  pe_callB (call_min2 hc) hg hm PyProof.Rows.boot_min (pa_cons he (pa_cons he' pa_nil hs2) hs) (by decide) (by decide) hs hpl
theorem ok_behind (T : Txt K mg D) : FnOk P w K mg base CX0 1 D.behind D.behindD ["self", "s", "at"] (spBehind K D.CT) := by
  refine T.fBehind.ok scBehind (fun vs H Q E h => ?_) (fun cdv A outer s H vs Q E hr h => ?_)
  · obtain ⟨t, d, a, o, kvs, ns, at_, rfl, _⟩ := h
    rfl
  · obtain ⟨t, d, a, o, kvs, ns, at_, rfl, B, hS, hat, hlen, k⟩ := h
    obtain ⟨dx, ht⟩ := B.ins
    have hu := hu_of hr
    refine ⟨_, pss_cons (ps_set (i := 3) scBehind.nd rfl (Or.inl rfl) (pe_min rfl T.bmin (pgi T.gLS) (pe_op op_sub (pe_len T.blen (pv 1)) (pv 2))))
      (pss_cons (ps_for PassesOwn.never rfl (pi_range3 (by rfl) T.brange (pa_cons (pv 3) (pa_cons pe_int (pa_cons (pe_un un_neg pe_int) pa_nil)))) (pg_name (i := 4) scBehind.nd rfl (Or.inl rfl))
        (pss_one (ps_if (pt_cmp (pc_din hu (pe_tuple T.btuple (pe_slice sl_list (pv 1) (po_some (pv 2)) (po_some (pe_op op_add (pv 2) (pv 4))))) (pe_fld (pv 0) rfl)))
          (pss_one (ps_ret (pe_op op_add (pv 2) (pv 4)))) pss_nil)))
      (pss_one (ps_ret (pe_op op_add (pv 2) pe_int)))), ?_⟩
    dsimp only [cxOf, Cx.nox]
    refine ⟨_, rfl, a, _, rfl, .inl hS, _, rfl, _, _, rfl, rfl, _, _, rfl, ?_⟩
    obtain ⟨m, em⟩ : ∃ m : Nat, m = min 8 (ns.length - at_) := ⟨_, rfl⟩
    have e0 : (if ((ns.map V.int).length : Int) - (at_ : Int) < 8 then ((ns.map V.int).length : Int) - (at_ : Int) else 8) = (m : Int) := by
      rw [List.length_map]
      split <;> omega
    rw [← em] at k
    rw [e0]
    have e1 : ((m : Int) - 0).toNat = m := by omega
    refine ⟨_, rfl, _, rfl, (m : Int), 0, -1, m, rfl, ?_, ?_⟩
    · have q := RgC.neg (i := (m : Int)) (j := 0) (by omega) (by omega) (by decide) (by decide)
      rw [e1] at q
      exact q
    refine for_rangeC (fun i σ H' => ∃ v : Option V, σ = [some (.ref t), some (.ref a), some (.int at_), some (.int m), v] ∧ Same H H' ∧ stepN kvs (ns.drop at_) m = stepN kvs (ns.drop at_) (m - i)) ⟨none, rfl, Same.refl H, rfl⟩ ?_ ?_
    · rintro i σ H' hi ⟨v, rfl, s1, es⟩
      obtain ⟨j, ej⟩ : ∃ j, m - i = j + 1 := ⟨m - i - 1, by omega⟩
      have ei : (m : Int) + (i : Nat) * (-1 : Int) = ((j + 1 : Nat) : Int) := by omega
      rw [ei]
      refine ⟨_, rfl, _, rfl, _, rfl, _, rfl, _, rfl, _, _, rfl, rfl, _, rfl, a, _, rfl, s1.seq hS, fun p hp => ?_⟩
      have e2 : cutV (ns.map V.int) (some (at_ : Int)) (some ((at_ : Int) + ((j + 1 : Nat) : Int))) = ((ns.drop at_).take (j + 1)).map V.int := by
        have e3 : (at_ : Int) + ((j + 1 : Nat) : Int) = ((at_ + (j + 1) : Nat) : Int) := by omega
        rw [e3, cut_ints ns (by omega) (by omega)]
        congr 2
        omega
      have s2 : Same H' (upd H' p (.lst (cutV (ns.map V.int) (some (at_ : Int)) (some ((at_ : Int) + ((j + 1 : Nat) : Int)))))) := Same.upd_new hp
      refine ⟨p, _, rfl, .inl ⟨SqL.of upd_same, fun q hq => ?_⟩⟩
      rw [e2] at hq s2 ⊢
      have s3 := s1.trans (s2.trans (Same.upd_new (o := .tup (((ns.drop at_).take (j + 1)).map V.int)) hq))
      have B3 := B.same s3
      refine (rF rfl (s3 _ _ ht) T.clT T.nEnt (tf_ent _ _) ⟨d, _, rfl, DGet.t B3.dict (k := keyOf ((ns.drop at_).take (j + 1))) (by rw [upd_same, keyOf_V]), _, rfl, ?_⟩)
      have es' : stepN kvs (ns.drop at_) m = if (valV kvs (keyOf ((ns.drop at_).take (j + 1)))).isSome = true then j + 1 else stepN kvs (ns.drop at_) j := by
        rw [es, ej]
        rfl
      refine ite2 (fun h1 => ?_) (fun h1 => ?_)
      · rw [if_pos h1] at es'
        refine ⟨_, rfl, _, rfl, _, _, rfl, rfl, ?_⟩
        have q := k _ s3
        rw [es'] at q
        have e4 : ((at_ + (j + 1) : Nat) : Int) = (at_ : Int) + ((j + 1 : Nat) : Int) := by omega
        rw [e4] at q
        exact q
      · rw [if_neg h1] at es'
        refine ⟨_, rfl, s3, ?_⟩
        rw [es']
        congr 1
        omega
    · rintro σ H' ⟨v, rfl, s1, es⟩
      refine ⟨_, rfl, _, _, rfl, rfl, ?_⟩
      have q := k _ s1
      rw [es, Nat.sub_self] at q
      have e4 : ((at_ + stepN kvs (ns.drop at_) 0 : Nat) : Int) = (at_ : Int) + 1 := by
        show ((at_ + 1 : Nat) : Int) = _
        omega
      rw [e4] at q
      exact q
end
end Sh
end
section
set_option Elab.async false
set_option linter.all false
set_option maxRecDepth 100000
set_option maxHeartbeats 2000000
namespace Sh
open PySem PySem.Spec PyProof.Rows L2
open PySem.W (Codec)
section
variable {P : Program} {w : World} {K : PySem.W.Frag} {mg : Str → Option Value} {base : Heap} {D : Adr}
theorem bWts (T : Txt K mg D) : Binds K D.wtsD ["w"] [] := T.fWts.binds fun _ _ _ _ _ _ => bind1 fun _ => rfl
theorem bIsq (T : Txt K mg D) : Binds K D.isqD ["seq"] [] := T.fIsq.binds fun _ _ _ _ _ _ => bind1 fun _ => rfl
theorem bThr (T : Txt K mg D) : Binds K D.thrD ["w"] [] := T.fThr.binds fun _ _ _ _ _ _ => bind1 fun _ => rfl
theorem bBehind (T : Txt K mg D) : Binds K D.behindD ["self", "s", "at"] [] := T.fBehind.binds fun _ _ _ _ _ _ => bind3 fun _ _ _ => rfl
noncomputable def spLong (K : PySem.W.Frag) : Sp := fun vs H Q _ => ∃ (a : Addr) (xs : List V), vs = [.ref a] ∧ SqL K H a xs ∧ Q (.bl (decide (64 < xs.length))) H
theorem scLong : FnScope ["text"] ["text"] (defScope sLong) := ⟨rfl, rfl, rfl, by decide +kernel, rfl, by decide +kernel, by decide +kernel⟩
theorem ok_long (T : Txt K mg D) : FnOk P w K mg base CX0 1 D.long D.longD ["text"] (spLong K) := by
  refine T.fLong.ok scLong (fun vs H Q E h => ?_) (fun cdv A outer s H vs Q E hr h => ?_)
  · obtain ⟨a, xs, rfl, _⟩ := h
    rfl
  · obtain ⟨a, xs, rfl, hS, k⟩ := h
    refine ⟨_, pss_one (ps_ret (pe_cmpR op_gt (pe_len T.blen (pv 0)) (pgi T.gLT) (nomark _))), ?_⟩
    try dsimp only [cxOf, Cx.nox]
    refine ⟨_, rfl, a, xs, rfl, .inl hS, _, _, rfl, rfl, ?_⟩
    have e : decide (64 < xs.length) = decide ((64 : Int) < (xs.length : Int)) := by
      rw [decide_eq_decide]
      omega
    rw [e] at k
    exact k
theorem bLong (T : Txt K mg D) : Binds K D.longD ["text"] [] := T.fLong.binds fun _ _ _ _ _ _ => bind1 fun _ => rfl
noncomputable def spStr : Sp := fun vs H Q _ => ∃ (k : Int), vs = [.int k] ∧ Q (.bl (decide (1 ≤ k ∧ k ≤ 3))) H
theorem scStr : FnScope ["strength"] ["strength"] (defScope sStr) := ⟨rfl, rfl, rfl, by decide +kernel, rfl, by decide +kernel, by decide +kernel⟩
theorem ok_str (T : Txt K mg D) : FnOk P w K mg base CX0 1 D.str D.strD ["strength"] spStr := by
  refine T.fStr.ok scStr (fun vs H Q E h => ?_) (fun cdv A outer s H vs Q E hr h => ?_)
  · obtain ⟨k, rfl, _⟩ := h
    rfl
  · obtain ⟨x, rfl, k⟩ := h
    refine ⟨_, pss_one (ps_ret (pe_chain op_le op_le pe_int (pv 0) (pgi T.gGS))), ?_⟩
    try dsimp only [cxOf, Cx.nox]
    refine ⟨_, rfl, _, _, rfl, rfl, _, rfl, ?_⟩
    refine ite2 (fun h1 => ?_) (fun h1 => ?_)
    · have h1' := of_decide_eq_true h1
      refine ⟨_, _, rfl, rfl, ?_⟩
      have e : decide (x ≤ 3) = decide (1 ≤ x ∧ x ≤ 3) := by
        rw [decide_eq_decide]
        omega
      show Q (.bl (decide (x ≤ 3))) H
      rw [e]
      exact k
    · have h1' : ¬ (1 : Int) ≤ x := fun z => h1 (decide_eq_true z)
      have e : false = decide (1 ≤ x ∧ x ≤ 3) := by
        rw [eq_comm, decide_eq_false_iff_not]
        omega
      show Q (.bl false) H
      rw [e]
      exact k
theorem bStr (T : Txt K mg D) : Binds K D.strD ["strength"] [] := T.fStr.binds fun _ _ _ _ _ _ => bind1 fun _ => rfl
noncomputable def cutN (kvs : List (List Key × V)) (ns : List Int) (x : Int) : Int :=
  if (ns.length : Int) ≤ x then -1 else if 64 < ns.length then -2 else ((x.toNat + stepN kvs (ns.drop x.toNat) (min 8 (ns.length - x.toNat)) : Nat) : Int)
noncomputable def spCut (K : PySem.W.Frag) (C : Addr) : Sp := fun vs H Q _ => ∃ (t d a : Addr) (o x : Int) (kvs : List (List Key × V)) (ns : List Int), vs = [.ref t, .ref a, .int x] ∧ TabAt C H t d o kvs ∧ SqL K H a (ns.map V.int) ∧ 0 ≤ x ∧ ns.length ≤ 3000 ∧
  ∀ H', Same H H' → Q (.int (cutN kvs ns x)) H'
theorem scCut : FnScope ["self", "s", "at"] ["self", "s", "at"] (defScope sCut) := ⟨rfl, rfl, rfl, by decide +kernel, rfl, by decide +kernel, by decide +kernel⟩
theorem ok_cut (T : Txt K mg D) : FnOk P w K mg base CX0 2 D.cut D.cutD ["self", "s", "at"] (spCut K D.CT) := by
  refine T.fCut.ok scCut (fun vs H Q E h => ?_) (fun cdv A outer s H vs Q E hr h => ?_)
  · obtain ⟨t, d, a, o, x, kvs, ns, rfl, _⟩ := h
    rfl
  · obtain ⟨t, d, a, o, x, kvs, ns, rfl, B, hS, hx, hlen, k⟩ := h
    obtain ⟨dx, ht⟩ := B.ins
    refine ⟨_, pss_cons (ps_if (pt_cmpR op_ge (pv 2) (pe_len T.blen (pv 1)) (nomark _)) (pss_one (ps_ret (pgi T.gUN))) pss_nil)
      (pss_cons (ps_if (pt_val (pe_call (ok_long T) hr (by rfl) T.mLong T.fLong.kp (bLong T) .nil pass0 (pa_cons (pv 1) pa_nil))) (pss_one (ps_ret (pgi T.gTL))) pss_nil)
      (pss_one (ps_ret (pe_meth (pv 0) T.clT T.kBehind (ok_behind T) hr (bBehind T) .nil pass0 (pa_cons (pv 1) (pa_cons (pv 2) pa_nil)))))), ?_⟩
    try dsimp only [cxOf, Cx.nox]
    have q := k H (Same.refl H)
    unfold cutN at k q
    refine ⟨_, rfl, _, rfl, a, _, rfl, .inl hS, _, _, rfl, rfl, _, rfl, ite2 (fun h1 => ?_) (fun h1 => ?_)⟩
    · have h1 := of_decide_eq_true h1
      rw [List.length_map] at h1
      rw [if_pos h1] at q
      exact q
    · have h1 : ¬ (ns.length : Int) ≤ x := fun z => h1 (decide_eq_true (by rw [List.length_map]; exact z))
      rw [if_neg h1] at q k
      refine ⟨_, rfl, a, _, rfl, hS, _, rfl, ite2 (fun h2 => ?_) (fun h2 => ?_)⟩
      · have h2 := of_decide_eq_true h2
        rw [List.length_map] at h2
        rw [if_pos h2] at q
        exact q
      · have h2 : ¬ 64 < ns.length := fun z => h2 (decide_eq_true (by rw [List.length_map]; exact z))
        rw [if_neg (by omega)] at q k
        have ex : x = (x.toNat : Int) := by omega
        refine (rM rfl (ht) (tf_no _ _ (by decide) (by decide)) ⟨_, rfl, _, rfl, t, d, a, o, kvs, ns, x.toNat, (by rw [← ex]; rfl), B, hS, by omega, hlen, k⟩)
noncomputable def spAdd (K : PySem.W.Frag) (C : Addr) : Sp := fun vs H Q _ => ∃ (t d a b : Addr) (o : Int) (kvs : List (List Key × V)) (ns ws : List Int), vs = [.ref t, .ref a, .ref b] ∧ TabAt C H t d o kvs ∧ SqL K H a (ns.map V.int) ∧ SqL K H b (ws.map V.int) ∧ ws.length ≤ 3000 ∧ kvs.length ≤ 1000 ∧
  (¬ (wtsOk ws = true ∧ 1 ≤ ns.length ∧ ns.length ≤ 8) → ∀ H', Same H H' → Q (.int (-1)) H') ∧
  (wtsOk ws = true ∧ 1 ≤ ns.length ∧ ns.length ≤ 8 → (valV kvs (keyOf ns)).isSome = true → ∀ H', Same H H' → Q (.int (-3)) H') ∧
  (wtsOk ws = true ∧ 1 ≤ ns.length ∧ ns.length ≤ 8 → valV kvs (keyOf ns) = none → 64 ≤ kvs.length → ∀ H', Same H H' → Q (.int (-4)) H') ∧
  (wtsOk ws = true ∧ 1 ≤ ns.length ∧ ns.length ≤ 8 → valV kvs (keyOf ns) = none → ¬ 64 ≤ kvs.length → ∀ H' l, But d H H' → TabAt C H' t d o (kvs ++ [(keyOf ns, .ref l)]) → H l = none → ElmsAt H' l (elms ws) → Q (.int ((kvs.length + 1 : Nat) : Int)) H')
theorem scAdd : FnScope ["self", "seq", "w", "sequence"] ["self", "seq", "w"] (defScope sAdd) := ⟨rfl, rfl, rfl, by decide +kernel, rfl, by decide +kernel, by decide +kernel⟩
theorem ok_add (T : Txt K mg D) : FnOk P w K mg base CX0 2 D.add D.addD ["self", "seq", "w"] (spAdd K D.CT) := by
  refine T.fAdd.ok scAdd (fun vs H Q E h => ?_) (fun cdv A outer s H vs Q E hr h => ?_)
  · obtain ⟨t, d, a, b, o, kvs, ns, ws, rfl, _⟩ := h
    rfl
  · obtain ⟨t, d, a, b, o, kvs, ns, ws, rfl, B, hS, hW, hwl, hkl, k1, k2, k3, k4⟩ := h
    obtain ⟨dx, ht⟩ := B.ins
    have hu := hu_of hr
    refine ⟨_, pss_cons (ps_if (PW.pt (pw_or (pt_not (pt_val (pe_call (ok_wts T) hr (by rfl) T.mWts T.fWts.kp (bWts T) .nil pass0 (pa_cons (pv 2) pa_nil))))
        (pw_or1 (pt_not (pt_val (pe_call (ok_isq T) hr (by rfl) T.mIsq T.fIsq.kp (bIsq T) .nil pass0 (pa_cons (pv 1) pa_nil))))))) (pss_one (ps_ret (pgi T.gUN))) pss_nil)
      (pss_cons (ps_set (i := 3) scAdd.nd rfl (Or.inl rfl) (pe_tuple T.btuple (pv 1)))
      (pss_cons (ps_if (pt_cmp (pc_din hu (pv 3) (pe_fld (pv 0) rfl))) (pss_one (ps_ret (pgi T.gTA))) pss_nil)
      (pss_cons (ps_if (pt_cmpR op_ge (pe_lenT T.blen (pe_fld (pv 0) rfl)) (pgi T.gME) (nomark _)) (pss_one (ps_ret (pgi T.gFU))) pss_nil)
      (pss_cons (ps_dput hu (pe_fld (pv 0) rfl) (pv 3) (pe_call (ok_thr T) hr (by rfl) T.mThr T.fThr.kp (bThr T) .nil pass0 (pa_cons (pv 2) pa_nil)) rfl)
      (pss_one (ps_ret (pe_lenT T.blen (pe_fld (pv 0) rfl)))))))), ?_⟩
    try dsimp only [cxOf, Cx.nox]
    refine ⟨_, rfl, b, ws, rfl, hW, hwl, fun H1 s1 => ⟨_, rfl, ?_⟩⟩
    cases hw : wtsOk ws with
    | false =>
      refine iteT ?_
      exact k1 (fun z => by rw [hw] at z; exact absurd z.1 (by decide)) _ s1
    | true =>
      refine iteF ?_
      refine ⟨_, rfl, a, _, rfl, s1.seq hS, _, rfl, ?_⟩
      by_cases hn : 1 ≤ ns.length ∧ ns.length ≤ 8
      · have e : decide (1 ≤ (ns.map V.int).length ∧ (ns.map V.int).length ≤ 8) = true := decide_eq_true (by rw [List.length_map]; exact hn)
        rw [e]
        refine iteF ?_
        have ok : wtsOk ws = true ∧ 1 ≤ ns.length ∧ ns.length ≤ 8 := ⟨hw, hn⟩
        refine ⟨_, rfl, a, _, rfl, .inl ⟨s1.seq hS, fun q hq => ?_⟩⟩
        have s2 : Same H1 (upd H1 q (.tup (ns.map V.int))) := Same.upd_new hq
        have s3 := s1.trans s2
        have B3 := B.same s3
        have ht3 := s3 _ _ ht
        have hk : upd H1 q (.tup (ns.map V.int)) q = some (.tup ((keyOf ns).map kV)) := by
          rw [upd_same, keyOf_V]
        refine ⟨_, rfl, rF rfl (ht3) T.clT T.nEnt (tf_ent _ _) ⟨d, _, rfl, DGet.t B3.dict hk, _, rfl, ?_⟩⟩
        cases ev : valV kvs (keyOf ns) with
        | some v => exact iteT (k2 ok (by rw [ev]; rfl) _ s3)
        | none =>
          refine iteF ?_
          refine (rF rfl (ht3) T.clT T.nEnt (tf_ent _ _) ⟨d, kvs, rfl, B3.dict, _, _, rfl, rfl, _, rfl, ite2 (fun h1 => ?_) (fun h1 => ?_)⟩)
          · have h1 := of_decide_eq_true h1
            exact k3 ok ev (by omega) _ s3
          · have h1 : ¬ 64 ≤ kvs.length := fun z => h1 (decide_eq_true (by omega))
            have h12 : ws.length ≤ 12 ∧ ws.length % 3 = 0 := by
              unfold wtsOk at hw
              rw [Bool.and_eq_true, Bool.and_eq_true] at hw
              exact ⟨of_decide_eq_true hw.1.2, of_decide_eq_true hw.1.1⟩
            refine ⟨_, rfl, b, ws, rfl, s3.seq hW, h12.1, h12.2, fun H4 l s4 hl hE => ?_⟩
            have s5 := s3.trans s4
            have B5 := B.same s5
            refine (rF rfl (s5 _ _ ht) T.clT T.nEnt (tf_ent _ _) ⟨_, rfl, d, _, rfl, DPut.t B5.dict (s4 _ _ hk) (Nat.lt_of_le_of_lt hkl (by decide)), ?_⟩)
            rw [putK_new _ ev]
            have htd := B.ne
            have ht6 : upd H4 d (.dT (kvs ++ [(keyOf ns, V.ref l)])) t = some (.ins D.CT dx (tf (.int o) (.ref d))) := by
              rw [upd_ne htd]
              exact s5 _ _ ht
            refine (rF rfl (ht6) T.clT T.nEnt (tf_ent _ _) ⟨d, _, rfl, upd_same, ?_⟩)
            have ldn : l ≠ d := by
              obtain ⟨as, hl4, _⟩ := hE
              exact ne_of hl4 B5.dict (by intro z; cases z)
            have fin := k4 ok ev h1 (upd H4 d (.dT (kvs ++ [(keyOf ns, V.ref l)]))) l (fun c u ec hc => ?_) ⟨⟨dx, ht6⟩, upd_same⟩ (s3.free hl) ?_
            · rw [List.length_append]
              exact fin
            · rw [upd_ne hc]
              exact s5 _ _ ec
            · obtain ⟨as, hl4, hT⟩ := hE
              refine ⟨as, by rw [upd_ne ldn]; exact hl4, hT.keep fun c xs ec => ?_⟩
              rw [upd_ne (ne_of ec B5.dict (by intro z; cases z))]
              exact ec
      · have e : decide (1 ≤ (ns.map V.int).length ∧ (ns.map V.int).length ≤ 8) = false := decide_eq_false (by rw [List.length_map]; exact hn)
        rw [e]
        refine iteT ?_
        exact k1 (fun z => hn z.2) _ s1
end
end Sh
end
section
set_option Elab.async false
set_option linter.all false
set_option maxRecDepth 100000
set_option maxHeartbeats 2000000
namespace Sh
open PySem PySem.Spec PyProof.Rows L2
open PySem.W (Codec)
noncomputable def rf (a p : V) : List (Str × V) := [("calls", a), ("place", p)]
theorem rf_calls (a p : V) : (rf a p).lookup ("calls" : Str) = some a := look1
theorem rf_place (a p : V) : (rf a p).lookup ("place" : Str) = some p := (look2 (by decide)).trans look1
theorem rf_no (a p : V) {m : Str} (h1 : ¬ m = "calls") (h2 : ¬ m = "place") : (rf a p).lookup m = none := (look2 h1).trans (look2 h2)
theorem rf_put (a p v : V) : putF "place" v (rf a p) = rf a v := by
  show (if ("calls" : Str) = "place" then _ else (("calls" : Str), a) :: (if ("place" : Str) = "place" then [(("place" : Str), v)] else _)) = _
  rw [if_neg (by decide), if_pos rfl]
  rfl
theorem rf_new (a p : V) : putF "place" p (putF "calls" a []) = rf a p := by
  show (if ("calls" : Str) = "place" then _ else (("calls" : Str), a) :: [(("place" : Str), p)]) = _
  rw [if_neg (by decide)]
  rfl
noncomputable def RdAt (C : Addr) (H : Hp) (r a : Addr) (p : Nat) : Prop := ∃ dx, H r = some (.ins C dx (rf (.ref a) (.int p)))
theorem But.seq {C dx r : Addr} {fs : List (Str × V)} {H H' : Hp} {K : PySem.W.Frag} {a : Addr} {xs : List V} (k : But r H H') (hr : H r = some (.ins C dx fs)) (h : SqL K H a xs) : SqL K H' a xs := by
  rcases h with (h | ⟨o, h⟩) | h
  · exact .inl (.inl (k _ _ h (ne_of h hr (by intro z; cases z))))
  · exact .inl (.inr ⟨o, k _ _ h (ne_of h hr (by intro z; cases z))⟩)
  · exact .inr h
theorem But.trans {t : Addr} {H H1 H2 : Hp} (a : But t H H1) (b : But t H1 H2) : But t H H2 := fun c o e hc => b c o (a c o e hc) hc
theorem But.same {t : Addr} {H H1 H2 : Hp} (a : But t H H1) (b : Same H1 H2) : But t H H2 := fun c o e hc => b c o (a c o e hc)
theorem Same.but {t : Addr} {H H1 : Hp} (a : Same H H1) : But t H H1 := fun c o e _ => a c o e
section
variable {P : Program} {w : World} {K : PySem.W.Frag} {mg : Str → Option Value} {base : Heap} {D : Adr}
noncomputable def spRInit (C : Addr) : Sp := fun vs H Q _ => ∃ (r dx a : Addr), vs = [.ref r, .ref a] ∧ H r = some (.ins C dx []) ∧ ∀ H' : Hp, RdAt C H' r a 0 → But r H H' → Q .non H'
theorem scRInit : FnScope ["self", "calls"] ["self", "calls"] (defScope sRInit) := ⟨rfl, rfl, rfl, by decide +kernel, rfl, by decide +kernel, by decide +kernel⟩
theorem ok_rinit (T : Txt K mg D) : FnOk P w K mg base CX0 1 D.rinit D.rinitD ["self", "calls"] (spRInit D.CR) := by
  refine T.fRInit.ok scRInit (fun vs H Q E h => ?_) (fun cdv A outer s H vs Q E hr h => ?_)
  · obtain ⟨r, dx, a, rfl, _⟩ := h
    rfl
  · obtain ⟨r, dx, a, rfl, hp, k⟩ := h
    refine ⟨_, pss_cons (ps_fld (pv 0) (pv 1) rfl) (pss_one (ps_fld (pv 0) pe_int rfl)), ?_⟩
    dsimp only [cxOf, Cx.nox]
    refine ⟨_, rfl, _, rfl, r, D.CR, dx, [], rfl, hp, T.clR, T.nCalls, (by show 0 < 1000; decide), ?_⟩
    refine ⟨_, rfl, r, D.CR, dx, _, rfl, upd_same, T.clR, T.nPlace, (by show 1 < 1000; decide), ?_⟩
    refine k _ ⟨dx, Eq.trans upd_same (congrArg (fun q => some (HO.ins D.CR dx q)) (rf_new _ _))⟩ (fun b o e hb => ?_)
    rw [upd_ne hb, upd_ne hb]
    exact e
noncomputable def spMore (K : PySem.W.Frag) (C : Addr) : Sp := fun vs H Q _ => ∃ (r a : Addr) (p : Nat) (ns : List Int), vs = [.ref r] ∧ RdAt C H r a p ∧ SqL K H a (ns.map V.int) ∧ Q (.bl (decide (p < ns.length))) H
theorem scMore : FnScope ["self"] ["self"] (defScope sMore) := ⟨rfl, rfl, rfl, by decide +kernel, rfl, by decide +kernel, by decide +kernel⟩
theorem ok_more (T : Txt K mg D) : FnOk P w K mg base CX0 1 D.more D.moreD ["self"] (spMore K D.CR) := by
  refine T.fMore.ok scMore (fun vs H Q E h => ?_) (fun cdv A outer s H vs Q E hr h => ?_)
  · obtain ⟨r, a, p, ns, rfl, _⟩ := h
    rfl
  · obtain ⟨r, a, p, ns, rfl, ⟨dx, hp⟩, hS, k⟩ := h
    refine ⟨_, pss_one (ps_ret (pe_cmpR op_lt (pe_fld (pv 0) rfl) (pe_len T.blen (pe_fld (pv 0) rfl)) (nomark _))), ?_⟩
    dsimp only [cxOf, Cx.nox]
    refine ⟨_, rfl, r, D.CR, dx, _, _, rfl, hp, T.clR, T.nPlace, rf_place _ _, _, rfl, r, D.CR, dx, _, _, rfl, hp, T.clR, T.nCalls, rf_calls _ _, a, _, rfl, .inl hS, _, _, rfl, rfl, ?_⟩
    have e : decide (p < ns.length) = decide ((p : Int) < ((ns.map V.int).length : Int)) := by
      rw [decide_eq_decide, List.length_map]
      omega
    rw [e] at k
    exact k
noncomputable def spNum (K : PySem.W.Frag) (C : Addr) : Sp := fun vs H Q _ => ∃ (r a : Addr) (p : Nat) (ns : List Int) (z : Int), vs = [.ref r] ∧ RdAt C H r a p ∧ SqL K H a (ns.map V.int) ∧ ns[p]? = some z ∧
  ∀ H', RdAt C H' r a (p + 1) → But r H H' → Q (.int z) H'
theorem scNum : FnScope ["self", "number"] ["self"] (defScope sNum) := ⟨rfl, rfl, rfl, by decide +kernel, rfl, by decide +kernel, by decide +kernel⟩
theorem ok_num (T : Txt K mg D) : FnOk P w K mg base CX0 1 D.num D.numD ["self"] (spNum K D.CR) := by
  refine T.fNum.ok scNum (fun vs H Q E h => ?_) (fun cdv A outer s H vs Q E hr h => ?_)
  · obtain ⟨r, a, p, ns, z, rfl, _⟩ := h
    rfl
  · obtain ⟨r, a, p, ns, z, rfl, ⟨dx, hp⟩, hS, hz, k⟩ := h
    refine ⟨_, pss_cons (ps_set (i := 1) scNum.nd rfl (Or.inl rfl) (pe_ix ix_list (pe_fld (pv 0) rfl) (pe_fld (pv 0) rfl) (fun _ _ => rfl)))
      (pss_cons (ps_fldaug (pv 0) pe_int in_add) (pss_one (ps_ret (pv 1)))), ?_⟩
    dsimp only [cxOf, Cx.nox]
    refine ⟨_, rfl, r, D.CR, dx, _, _, rfl, hp, T.clR, T.nCalls, rf_calls _ _, _, rfl, r, D.CR, dx, _, _, rfl, hp, T.clR, T.nPlace, rf_place _ _, a, _, _, _, rfl, rfl, hS, at_of (j := p) (v := V.int z) rfl (by rw [List.getElem?_map, hz]; rfl), ?_⟩
    refine ⟨_, rfl, r, D.CR, dx, _, _, rfl, hp, T.clR, T.nPlace, rf_place _ _, _, _, rfl, rfl, dx, _, hp, (by show 2 < 1000; decide), ?_⟩
    refine ⟨_, rfl, ?_⟩
    refine k _ ⟨dx, Eq.trans upd_same (congrArg (fun q => some (HO.ins D.CR dx q)) (rf_put _ _ _))⟩ (fun b o e hb => ?_)
    rw [upd_ne hb]
    exact e
theorem bNum (T : Txt K mg D) : Binds K D.numD ["self"] [] := T.fNum.binds fun _ _ _ _ _ _ => bind1 fun _ => rfl
noncomputable def spRow (K : PySem.W.Frag) (C : Addr) : Sp := fun vs H Q _ => ∃ (r a : Addr) (p m : Nat) (ns : List Int), vs = [.ref r] ∧ RdAt C H r a p ∧ SqL K H a (ns.map V.int) ∧ ns[p]? = some (m : Int) ∧ p + 1 + m ≤ ns.length ∧
  ∀ H' l, RdAt C H' r a (p + 1 + m) → But r H H' → H l = none → H' l = some (.lst (((ns.drop (p + 1)).take m).map V.int)) → Q (.ref l) H'
theorem scRow : FnScope ["self", "length", "start"] ["self"] (defScope sRow) := ⟨rfl, rfl, rfl, by decide +kernel, rfl, by decide +kernel, by decide +kernel⟩
theorem ok_row (T : Txt K mg D) : FnOk P w K mg base CX0 2 D.row D.rowD ["self"] (spRow K D.CR) := by
  refine T.fRow.ok scRow (fun vs H Q E h => ?_) (fun cdv A outer s H vs Q E hr h => ?_)
  · obtain ⟨r, a, p, m, ns, rfl, _⟩ := h
    rfl
  · obtain ⟨r, a, p, m, ns, rfl, hp, hS, hz, hle, k⟩ := h
    obtain ⟨dx, hp⟩ := hp
    refine ⟨_, pss_cons (ps_set (i := 1) scRow.nd rfl (Or.inl rfl) (pe_meth0 (pv 0) T.clR T.kNum (ok_num T) hr (bNum T) .nil pass0))
      (pss_cons (ps_set (i := 2) scRow.nd rfl (Or.inl rfl) (pe_fld (pv 0) rfl))
      (pss_cons (ps_fldaug (pv 0) (pv 1) in_add)
      (pss_one (ps_ret (pe_slice sl_list (pe_fld (pv 0) rfl) (po_some (pv 2)) (po_some (pe_fld (pv 0) rfl))))))), ?_⟩
    dsimp only [cxOf, Cx.nox]
    refine ⟨_, rfl, r, dx, _, rfl, hp, rf_no _ _ (by decide) (by decide), r, a, p, ns, _, rfl, ⟨dx, hp⟩, hS, hz, fun H1 hp1 kp1 => ?_⟩
    have hS1 := kp1.seq hp hS
    obtain ⟨dx1, hp1⟩ := hp1
    refine ⟨_, rfl, r, D.CR, dx1, _, _, rfl, hp1, T.clR, T.nPlace, rf_place _ _, ?_⟩
    refine ⟨_, rfl, r, D.CR, dx1, _, _, rfl, hp1, T.clR, T.nPlace, rf_place _ _, _, rfl, _, _, rfl, rfl, dx1, _, hp1, (by show 2 < 1000; decide), ?_⟩
    rw [rf_put]
    have e1 : ((p + 1 : Nat) : Int) + (m : Int) = ((p + 1 + m : Nat) : Int) := by omega
    rw [e1]
    have kp2 : But r H1 (upd H1 r (.ins D.CR dx1 (rf (.ref a) (.int ((p + 1 + m : Nat) : Int))))) := fun b o e hb => by
      rw [upd_ne hb]
      exact e
    have hS2 := kp2.seq hp1 hS1
    refine ⟨_, rfl, r, D.CR, dx1, _, _, rfl, upd_same, T.clR, T.nCalls, rf_calls _ _, _, rfl, _, rfl, _, rfl, r, D.CR, dx1, _, _, rfl, upd_same, T.clR, T.nPlace, rf_place _ _, _, rfl, a, _, rfl, hS2, fun l hl => ?_⟩
    rw [cut_ints ns (by omega) hle, show p + 1 + m - (p + 1) = m by omega]
    have hrl : r ≠ l := ne_of_none upd_same hl
    have hl0 : H l = none := by
      cases q : H l with
      | none => rfl
      | some u =>
        have q2 := (kp1.trans kp2) l u q (Ne.symm hrl)
        rw [hl] at q2
        cases q2
    refine k _ l ⟨dx1, by rw [upd_ne hrl]; exact upd_same⟩ ((kp1.trans kp2).same (Same.upd_new hl)) hl0 upd_same
end
end Sh
end
section
set_option Elab.async false
set_option linter.all false
set_option maxRecDepth 100000
set_option maxHeartbeats 2000000
namespace Sh
open PySem PySem.Spec PyProof.Rows L2
noncomputable def ib (s : List UInt8) : List Int := s.map fun c => (c.toNat : Int)
theorem ib_text {ns : List Int} (h : ∀ z ∈ ns, 0 ≤ z ∧ z ≤ 255) : ib (SmNeutral.text ns) = ns := by
  unfold ib SmNeutral.text
  rw [List.map_map]
  conv => rhs; rw [← List.map_id ns]
  refine List.map_congr_left fun z hz => ?_
  obtain ⟨h1, h2⟩ := h z hz
  show ((UInt8.ofNat z.toNat).toNat : Int) = z
  rw [UInt8.toNat_ofNat_of_lt' (by show z.toNat < 256; omega)]
  omega
theorem ib_inj {a b : List UInt8} (h : ib a = ib b) : a = b := by
  refine (List.map_inj_right (fun x y e => ?_)).mp h
  have e' : x.toNat = y.toNat := by omega
  exact UInt8.toNat_inj.mp e'
theorem ib_len (s : List UInt8) : (ib s).length = s.length := List.length_map ..
theorem ib_take (s : List UInt8) (n : Nat) : (ib s).take n = ib (s.take n) := (List.map_take ..).symm
theorem ib_drop (s : List UInt8) (n : Nat) : (ib s).drop n = ib (s.drop n) := (List.map_drop ..).symm
theorem ib_mem {s : List UInt8} {z : Int} (h : z ∈ ib s) : 0 ≤ z ∧ z ≤ 255 := by
  obtain ⟨c, _, rfl⟩ := List.mem_map.mp h
  have := c.toNat_lt
  omega
noncomputable def toElm (e : Sm.Element) : Elm := ⟨e.one, e.two, e.three⟩
noncomputable def EntOk (H : Hp) (kv : List Key × V) (e : Sm.Entry) : Prop := kv.1 = keyOf (ib e.seq) ∧ ∃ l, kv.2 = .ref l ∧ ElmsAt H l (e.els.map toElm)
noncomputable def Ents (H : Hp) (kvs : List (List Key × V)) (es : List Sm.Entry) : Prop := Paired (EntOk H) kvs es
theorem key_eq {s u : List UInt8} : keyOf (ib s) = keyOf (ib u) ↔ s = u := ⟨fun h => ib_inj (keyOf_inj h), fun h => by rw [h]⟩
theorem Ents.find {H : Hp} (s : List UInt8) : ∀ {kvs : List (List Key × V)} {es : List Sm.Entry}, Ents H kvs es →
    (es.find? (fun e => e.seq == s) = none ∧ valV kvs (keyOf (ib s)) = none) ∨ (∃ e l, es.find? (fun e => e.seq == s) = some e ∧ valV kvs (keyOf (ib s)) = some (.ref l) ∧ ElmsAt H l (e.els.map toElm)) := by
  intro kvs es r
  induction r with
  | nil => exact .inl ⟨rfl, rfl⟩
  | @cons kv e kvs es h t ih =>
    obtain ⟨h1, l, h2, h3⟩ := h
    by_cases q : e.seq = s
    · refine .inr ⟨e, l, ?_, ?_, h3⟩
      · rw [List.find?_cons, beq_iff_eq.mpr q]
      · rw [valV_pos (by rw [h1, q]), h2]
    · have q' : ¬ kv.1 = keyOf (ib s) := fun z => q (key_eq.mp (h1.symm.trans z))
      rw [List.find?_cons, beq_eq_false_iff_ne.mpr q, valV_neg q']
      exact ih
theorem Ents.has {H : Hp} {c : Sm.Coll} {kvs : List (List Key × V)} (r : Ents H kvs c.entries) (s : List UInt8) : (valV kvs (keyOf (ib s))).isSome = c.has s := by
  unfold Sm.Coll.has
  rcases r.find s with ⟨h1, h2⟩ | ⟨e, l, h1, h2, _⟩
  · rw [h2]
    have : ∀ e ∈ c.entries, ¬ (e.seq == s) = true := List.find?_eq_none.mp h1
    rw [eq_comm, Option.isSome_none, List.any_eq_false]
    exact this
  · rw [h2]
    rw [eq_comm, Option.isSome_some, List.any_eq_true]
    have q := List.find?_some h1
    exact ⟨e, List.mem_of_find?_eq_some h1, q⟩
theorem Ents.drop {H : Hp} (s : List UInt8) : ∀ {kvs : List (List Key × V)} {es : List Sm.Entry}, Ents H kvs es → Ents H (dropK kvs (keyOf (ib s))) (es.filter fun e => e.seq != s) := by
  intro kvs es r
  induction r with
  | nil => exact .nil
  | @cons kv e kvs es h t ih =>
    have h1 := h.1
    by_cases q : e.seq = s
    · rw [dropK_pos (by rw [h1, q]), List.filter_cons, if_neg (by simp [q])]
      exact ih
    · rw [dropK_neg (fun z => q (key_eq.mp (h1.symm.trans z))), List.filter_cons, if_pos (by simp [q])]
      exact .cons h ih
theorem Ents.len {H : Hp} {kvs : List (List Key × V)} {es : List Sm.Entry} (r : Ents H kvs es) : kvs.length = es.length := Paired.length r
theorem longest_more (es : List Sm.Entry) (r : List UInt8) : ∀ n, r.length ≤ n → Sm.longest es r n = Sm.longest es r r.length := by
  intro n h
  induction n with
  | zero =>
    have : r.length = 0 := by omega
    rw [this]
  | succ n ih =>
    by_cases e : r.length = n + 1
    · rw [e]
    · rw [← ih (by omega)]
      show (match es.find? (fun e => e.seq == r.take (n + 1) && e.seq.length == n + 1) with | some e => some e | none => Sm.longest es r n) = _
      have : es.find? (fun e => e.seq == r.take (n + 1) && e.seq.length == n + 1) = none := by
        rw [List.find?_eq_none]
        intro x _ hx
        rw [Bool.and_eq_true, beq_iff_eq, beq_iff_eq] at hx
        have := hx.2
        rw [hx.1, List.length_take] at this
        omega
      rw [this]
theorem longest_min (es : List Sm.Entry) (r : List UInt8) : Sm.longest es r 8 = Sm.longest es r (min 8 r.length) := by
  by_cases h : 8 ≤ r.length
  · rw [Nat.min_eq_left h]
  · rw [Nat.min_eq_right (by omega), longest_more es r 8 (by omega)]
theorem longest_succ (es : List Sm.Entry) (r : List UInt8) (n : Nat) (h : n + 1 ≤ r.length) :
    Sm.longest es r (n + 1) = match es.find? (fun e => e.seq == r.take (n + 1)) with | some e => some e | none => Sm.longest es r n := by
  have e : (fun e : Sm.Entry => e.seq == r.take (n + 1) && e.seq.length == n + 1) = fun e => e.seq == r.take (n + 1) := by
    funext x
    by_cases q : x.seq = r.take (n + 1)
    · rw [q, List.length_take, Nat.min_eq_left h]
      simp
    · rw [beq_eq_false_iff_ne.mpr q]
      rfl
  show (match es.find? (fun e => e.seq == r.take (n + 1) && e.seq.length == n + 1) with | some e => some e | none => Sm.longest es r n) = _
  rw [e]
theorem stepN_longest {H : Hp} {kvs : List (List Key × V)} {es : List Sm.Entry} (R : Ents H kvs es) (r : List UInt8) : ∀ n, n ≤ r.length → stepN kvs (ib r) n = (match Sm.longest es r n with | some e => e.seq.length | none => 1) := by
  intro n
  induction n with
  | zero => intro _; rfl
  | succ n ih =>
    intro h
    rw [longest_succ es r n h]
    show (if (valV kvs (keyOf ((ib r).take (n + 1)))).isSome = true then n + 1 else stepN kvs (ib r) n) = _
    rw [ib_take]
    rcases R.find (r.take (n + 1)) with ⟨h1, h2⟩ | ⟨e, l, h1, h2, _⟩
    · rw [h1, h2, if_neg (by simp)]
      exact ih (by omega)
    · rw [h1, h2, if_pos (show (some (V.ref l)).isSome = true from rfl)]
      have q := List.find?_some h1
      have q2 : e.seq = r.take (n + 1) := beq_iff_eq.mp q
      show n + 1 = e.seq.length
      rw [q2, List.length_take, Nat.min_eq_left h]
theorem stepN_stands {H : Hp} {kvs : List (List Key × V)} {es : List Sm.Entry} (R : Ents H kvs es) (r : List UInt8) : stepN kvs (ib r) (min 8 r.length) = (Sm.stands es r).1 := by
  rw [stepN_longest R r _ (Nat.min_le_right _ _), ← longest_min]
  unfold Sm.stands
  split <;> rename_i h <;> rw [h]
theorem elemsIn_ok : ∀ (f : Nat) (ws : List Int), (∀ z ∈ ws, 0 ≤ z) → ws.length % 3 = 0 → ws.length ≤ 3 * f → (ws.all fun n => decide (n ≤ 65535)) = true → ∃ l, Sm.elementsIn f (SmNeutral.nats ws) = some l ∧ l.map toElm = elms ws
  | f, [], _, _, _, _ => ⟨[], by cases f <;> rfl, rfl⟩
  | f, [_], _, h, _, _ => by simp at h
  | f, [_, _], _, h, _, _ => by simp at h
  | 0, a :: b :: c :: r, _, _, h, _ => by simp at h
  | f + 1, a :: b :: c :: r, h0, h3, hl, h => by
    simp only [List.all_cons, Bool.and_eq_true, decide_eq_true_eq] at h
    obtain ⟨ha, hb, hc, hr⟩ := h
    have ha0 := h0 a (by simp)
    have hb0 := h0 b (by simp)
    have hc0 := h0 c (by simp)
    simp only [List.length_cons] at h3 hl
    obtain ⟨l, e1, e2⟩ := elemsIn_ok f r (fun z hz => h0 z (by simp [hz])) (by omega) (by omega) hr
    refine ⟨⟨a.toNat, b.toNat, c.toNat⟩ :: l, ?_, ?_⟩
    · show (if a.toNat < 65536 ∧ b.toNat < 65536 ∧ c.toNat < 65536 then (Sm.elementsIn f (SmNeutral.nats r)).map _ else none) = _
      rw [if_pos ⟨by omega, by omega, by omega⟩, e1]
      rfl
    · show toElm ⟨a.toNat, b.toNat, c.toNat⟩ :: l.map toElm = ⟨a, b, c⟩ :: elms r
      rw [e2]
      unfold toElm
      rw [Int.toNat_of_nonneg ha0, Int.toNat_of_nonneg hb0, Int.toNat_of_nonneg hc0]
theorem elemsIn_no : ∀ (f : Nat) (ws : List Int) (l : List Sm.Element), (∀ z ∈ ws, 0 ≤ z) → Sm.elementsIn f (SmNeutral.nats ws) = some l → ws.length % 3 = 0 ∧ ws.length ≤ 3 * f ∧ (ws.all fun n => decide (n ≤ 65535)) = true
  | f, [], l, _, _ => ⟨rfl, Nat.zero_le _, rfl⟩
  | 0, [_], l, _, h => by simp [SmNeutral.nats, Sm.elementsIn] at h
  | 0, [_, _], l, _, h => by simp [SmNeutral.nats, Sm.elementsIn] at h
  | f + 1, [_], l, _, h => by simp [SmNeutral.nats, Sm.elementsIn] at h
  | f + 1, [_, _], l, _, h => by simp [SmNeutral.nats, Sm.elementsIn] at h
  | 0, a :: b :: c :: r, l, _, h => by simp [SmNeutral.nats, Sm.elementsIn] at h
  | f + 1, a :: b :: c :: r, l, h0, h => by
    have ha0 := h0 a (by simp)
    have hb0 := h0 b (by simp)
    have hc0 := h0 c (by simp)
    have h : (if a.toNat < 65536 ∧ b.toNat < 65536 ∧ c.toNat < 65536 then (Sm.elementsIn f (SmNeutral.nats r)).map (fun l => (⟨a.toNat, b.toNat, c.toNat⟩ : Sm.Element) :: l) else none) = some l := h
    by_cases q : a.toNat < 65536 ∧ b.toNat < 65536 ∧ c.toNat < 65536
    · rw [if_pos q] at h
      obtain ⟨l', e1, _⟩ := Option.map_eq_some_iff.mp h
      obtain ⟨i1, i2, i3⟩ := elemsIn_no f r l' (fun z hz => h0 z (by simp [hz])) e1
      refine ⟨by simp only [List.length_cons]; omega, by simp only [List.length_cons]; omega, ?_⟩
      simp only [List.all_cons, Bool.and_eq_true, decide_eq_true_eq]
      exact ⟨by omega, by omega, by omega, i3⟩
    · rw [if_neg q] at h
      cases h
theorem wts_some {ws : List Int} (h0 : ∀ z ∈ ws, 0 ≤ z) (h : wtsOk ws = true) : ∃ l, Sm.elementsIn 4 (SmNeutral.nats ws) = some l ∧ l.map toElm = elms ws := by
  unfold wtsOk at h
  rw [Bool.and_eq_true, Bool.and_eq_true, decide_eq_true_eq, decide_eq_true_eq] at h
  exact elemsIn_ok 4 ws h0 h.1.1 (by omega) h.2
theorem wts_none {ws : List Int} (h0 : ∀ z ∈ ws, 0 ≤ z) (h : ¬ wtsOk ws = true) : Sm.elementsIn 4 (SmNeutral.nats ws) = none := by
  cases e : Sm.elementsIn 4 (SmNeutral.nats ws) with
  | none => rfl
  | some l =>
    obtain ⟨h1, h2, h3⟩ := elemsIn_no 4 ws l h0 e
    refine absurd ?_ h
    unfold wtsOk
    rw [decide_eq_true h1, decide_eq_true (show ws.length ≤ 12 by omega), h3]
    rfl
end Sh
end
section
set_option Elab.async false
set_option linter.all false
set_option maxRecDepth 100000
set_option maxHeartbeats 2000000
namespace Sh
open PySem PySem.Spec PyProof.Rows L2
theorem told_cons (a : List Int) (r : List (List Int)) : PyFlat.told (a :: r) = (a.length : Int) :: a ++ PyFlat.told r := by
  unfold PyFlat.told
  rw [List.flatMap_cons]
theorem bytes_of {r : List Int} (h : r.all (PyInside.within 0 255) = true) : ∃ s, r = ib s := by
  refine ⟨SmNeutral.text r, (ib_text fun z hz => ?_).symm⟩
  have q := List.all_eq_true.mp h z hz
  unfold PyInside.within at q
  rw [Bool.and_eq_true, decide_eq_true_eq, decide_eq_true_eq] at q
  exact q
inductive Good : List (List Int) → Prop
  | begin_ (x : Int) : 0 ≤ x → Good [[0, x]]
  | add (s : List UInt8) (ws : List Int) : s.length ≤ 200 → ws.length ≤ 200 → (∀ z ∈ ws, 0 ≤ z) → Good [[1], ib s, ws]
  | drop (s : List UInt8) : s.length ≤ 200 → Good [[2], ib s]
  | count : Good [[3]]
  | cut (x : Int) (s : List UInt8) : 0 ≤ x → s.length ≤ 200 → Good [[4, x], ib s]
  | compare (k : Int) (a b : List UInt8) : 0 ≤ k → a.length ≤ 200 → b.length ≤ 200 → Good [[5, k], ib a, ib b]
  | find (k f : Int) (s p : List UInt8) : 0 ≤ k → 0 ≤ f → s.length ≤ 200 → p.length ≤ 200 → Good [[6, k, f], ib s, ib p]
  | key (s : List UInt8) : s.length ≤ 200 → Good [[7], ib s]
  | low (s : List UInt8) : s.length ≤ 200 → Good [[8], ib s]
  | high (s : List UInt8) : s.length ≤ 200 → Good [[9], ib s]
theorem len0 {α : Type} {l : List α} (h : l.length = 0) : l = [] := List.eq_nil_of_length_eq_zero h
theorem len1 {α : Type} {l : List α} (h : l.length = 1) : ∃ a, l = [a] := by
  match l, h with
  | [a], _ => exact ⟨a, rfl⟩
theorem len2 {α : Type} {l : List α} (h : l.length = 2) : ∃ a b, l = [a, b] := by
  match l, h with
  | [a, b], _ => exact ⟨a, b, rfl⟩
theorem in_row {lo hi : Int} {least most : Nat} {b : List (Int × Int × Nat × Nat)} {r : List Int} {rs : List (List Int)} (h : PyInside.lists ((lo, hi, least, most) :: b) (r :: rs) = true) : r.length ≤ most ∧ r.all (PyInside.within lo hi) = true ∧ PyInside.lists b rs = true := by
  have h : (decide (least ≤ r.length) && decide (r.length ≤ most) && r.all (PyInside.within lo hi) && PyInside.lists b rs) = true := h
  rw [Bool.and_eq_true, Bool.and_eq_true, Bool.and_eq_true, decide_eq_true_eq, decide_eq_true_eq] at h
  exact ⟨h.1.1.2, h.1.2, h.2⟩
theorem in_num {lo hi : Int} {b : List (Int × Int)} {x : Int} {xs : List Int} (h : PyInside.each ((lo, hi) :: b) (x :: xs) = true) : lo ≤ x ∧ x ≤ hi ∧ PyInside.each b xs = true := by
  have h : (PyInside.within lo hi x && PyInside.each b xs) = true := h
  unfold PyInside.within at h
  rw [Bool.and_eq_true, Bool.and_eq_true, decide_eq_true_eq, decide_eq_true_eq] at h
  exact ⟨h.1.1, h.1.2, h.2⟩
theorem nonneg_of {r : List Int} {hi : Int} (h : r.all (PyInside.within 0 hi) = true) : ∀ z ∈ r, 0 ≤ z := fun z hz => by
  have q := List.all_eq_true.mp h z hz
  unfold PyInside.within at q
  rw [Bool.and_eq_true, decide_eq_true_eq, decide_eq_true_eq] at q
  exact q.1
theorem good_of {c : List (List Int)} (h : PyFlat.okCall PyWqasag.shape c) (hb : PyInside.call PyWqasag.bound c = true) : Good c := by
  obtain ⟨p, a, xs, rfl, hs⟩ := h
  have hb : (PyInside.each (PyWqasag.bound p).1 a && PyInside.lists (PyWqasag.bound p).2 xs) = true := hb
  rw [Bool.and_eq_true] at hb
  obtain ⟨h1, h2⟩ := hb
  unfold PyWqasag.shape at hs
  unfold PyWqasag.bound at h1 h2
  by_cases p0 : p = 0
  · subst p0
    rw [if_pos rfl] at hs h1 h2
    have e := Prod.mk.inj (Option.some.inj hs)
    obtain ⟨x, rfl⟩ := len1 e.1.symm
    obtain rfl := len0 e.2.symm
    exact .begin_ x (in_num h1).1
  rw [if_neg p0] at hs h1 h2
  by_cases p1 : p = 1
  · subst p1
    rw [if_pos rfl] at hs h1 h2
    have e := Prod.mk.inj (Option.some.inj hs)
    obtain rfl := len0 e.1.symm
    obtain ⟨r0, r1, rfl⟩ := len2 e.2.symm
    obtain ⟨b1, b2, b3⟩ := in_row h2
    obtain ⟨b4, b5, b6⟩ := in_row b3
    obtain ⟨s, rfl⟩ := bytes_of b2
    exact .add s r1 (by rw [← ib_len]; exact b1) b4 (nonneg_of b5)
  rw [if_neg p1] at hs h1 h2
  by_cases p2 : p = 2
  · subst p2
    rw [if_pos rfl] at hs h1 h2
    have e := Prod.mk.inj (Option.some.inj hs)
    obtain rfl := len0 e.1.symm
    obtain ⟨r0, rfl⟩ := len1 e.2.symm
    obtain ⟨b1, b2, b3⟩ := in_row h2
    obtain ⟨s, rfl⟩ := bytes_of b2
    exact .drop s (by rw [← ib_len]; exact b1)
  rw [if_neg p2] at hs h1 h2
  by_cases p3 : p = 3
  · subst p3
    rw [if_pos rfl] at hs h1 h2
    have e := Prod.mk.inj (Option.some.inj hs)
    obtain rfl := len0 e.1.symm
    obtain rfl := len0 e.2.symm
    exact .count
  rw [if_neg p3] at hs h1 h2
  by_cases p4 : p = 4
  · subst p4
    rw [if_pos rfl] at hs h1 h2
    have e := Prod.mk.inj (Option.some.inj hs)
    obtain ⟨x, rfl⟩ := len1 e.1.symm
    obtain ⟨r0, rfl⟩ := len1 e.2.symm
    obtain ⟨b1, b2, b3⟩ := in_row h2
    obtain ⟨s, rfl⟩ := bytes_of b2
    exact .cut x s (in_num h1).1 (by rw [← ib_len]; exact b1)
  rw [if_neg p4] at hs h1 h2
  by_cases p5 : p = 5
  · subst p5
    rw [if_pos rfl] at hs h1 h2
    have e := Prod.mk.inj (Option.some.inj hs)
    obtain ⟨x, rfl⟩ := len1 e.1.symm
    obtain ⟨r0, r1, rfl⟩ := len2 e.2.symm
    obtain ⟨b1, b2, b3⟩ := in_row h2
    obtain ⟨b4, b5, b6⟩ := in_row b3
    obtain ⟨s, rfl⟩ := bytes_of b2
    obtain ⟨u, rfl⟩ := bytes_of b5
    exact .compare x s u (in_num h1).1 (by rw [← ib_len]; exact b1) (by rw [← ib_len]; exact b4)
  rw [if_neg p5] at hs h1 h2
  by_cases p6 : p = 6
  · subst p6
    rw [if_pos rfl] at hs h1 h2
    have e := Prod.mk.inj (Option.some.inj hs)
    obtain ⟨x, f, rfl⟩ := len2 e.1.symm
    obtain ⟨r0, r1, rfl⟩ := len2 e.2.symm
    obtain ⟨b1, b2, b3⟩ := in_row h2
    obtain ⟨b4, b5, b6⟩ := in_row b3
    obtain ⟨s, rfl⟩ := bytes_of b2
    obtain ⟨u, rfl⟩ := bytes_of b5
    exact .find x f s u (in_num h1).1 (in_num (in_num h1).2.2).1 (by rw [← ib_len]; exact b1) (by rw [← ib_len]; exact b4)
  rw [if_neg p6] at hs h1 h2
  by_cases p7 : p = 7
  · subst p7
    rw [if_pos rfl] at hs h1 h2
    have e := Prod.mk.inj (Option.some.inj hs)
    obtain rfl := len0 e.1.symm
    obtain ⟨r0, rfl⟩ := len1 e.2.symm
    obtain ⟨b1, b2, b3⟩ := in_row h2
    obtain ⟨s, rfl⟩ := bytes_of b2
    exact .key s (by rw [← ib_len]; exact b1)
  rw [if_neg p7] at hs h1 h2
  by_cases p8 : p = 8
  · subst p8
    rw [if_pos rfl] at hs h1 h2
    have e := Prod.mk.inj (Option.some.inj hs)
    obtain rfl := len0 e.1.symm
    obtain ⟨r0, rfl⟩ := len1 e.2.symm
    obtain ⟨b1, b2, b3⟩ := in_row h2
    obtain ⟨s, rfl⟩ := bytes_of b2
    exact .low s (by rw [← ib_len]; exact b1)
  rw [if_neg p8] at hs h1 h2
  by_cases p9 : p = 9
  · subst p9
    rw [if_pos rfl] at hs h1 h2
    have e := Prod.mk.inj (Option.some.inj hs)
    obtain rfl := len0 e.1.symm
    obtain ⟨r0, rfl⟩ := len1 e.2.symm
    obtain ⟨b1, b2, b3⟩ := in_row h2
    obtain ⟨s, rfl⟩ := bytes_of b2
    exact .high s (by rw [← ib_len]; exact b1)
  rw [if_neg p9] at hs
  cases hs
theorem asked_of {ns : List Int} (h : PyWqasag.answers_asked ns = true) : ∃ raw, PyFlat.calls PyWqasag.shape ns.length ns = some raw ∧ ns = PyFlat.put raw ∧ raw.length ≤ 60 ∧ ∀ c ∈ raw, Good c := by
  unfold PyWqasag.answers_asked at h
  cases e : PyFlat.calls PyWqasag.shape ns.length ns with
  | none =>
    rw [e] at h
    cases h
  | some raw =>
    rw [e] at h
    have h : (!raw.isEmpty && PyFlat.atMost 60 raw && PyInside.calls PyWqasag.bound raw && SmNeutral.asked (raw.map PyWqasag.whole)) = true := h
    rw [Bool.and_eq_true, Bool.and_eq_true, Bool.and_eq_true] at h
    obtain ⟨e1, e2⟩ := PyFlat.put_calls _ _ _ e
    refine ⟨raw, rfl, e1, of_decide_eq_true h.1.1.2, fun c hc => good_of (e2 c hc) ?_⟩
    exact List.all_eq_true.mp h.1.2 c hc
theorem map_whole : ∀ {cs : List (List (List Int))}, (∀ c ∈ cs, Good c) → cs.map PyWqasag.whole = cs
  | [], _ => rfl
  | c :: cs, h => by
    have e : PyWqasag.whole c = c := by cases h c (by simp) <;> rfl
    rw [List.map_cons, e, map_whole fun x hx => h x (by simp [hx])]
theorem answers_eq {ns : List Int} {raw : List (List (List Int))} (h : PyFlat.calls PyWqasag.shape ns.length ns = some raw) (hg : ∀ c ∈ raw, Good c) : PyWqasag.answers ns = PyFlat.told (PyFlat.played SmNeutral.step SmNeutral.start raw) := by
  unfold PyWqasag.answers PyWqasag.calls
  rw [h]
  show PyFlat.told (PyFlat.played SmNeutral.step SmNeutral.start (raw.map PyWqasag.whole)) = _
  rw [map_whole hg]
theorem nat1 (x : Int) (l : List Int) : SmNeutral.nat (x :: l) 0 = x.toNat := rfl
theorem nat2 (x y : Int) (l : List Int) : SmNeutral.nat (x :: y :: l) 1 = y.toNat := rfl
theorem text_ib (s : List UInt8) : SmNeutral.text (ib s) = s := ib_inj (ib_text fun z hz => ib_mem hz)
theorem step_begin (c : Sm.State) (x : Int) : SmNeutral.step c [[0, x]] = ((Sm.step c (.begin_ x.toNat)).1, SmNeutral.shown (Sm.step c (.begin_ x.toNat)).2) := rfl
theorem step_add (c : Sm.State) (s : List UInt8) (ws : List Int) : SmNeutral.step c [[1], ib s, ws] = ((Sm.step c (.add s (SmNeutral.nats ws))).1, SmNeutral.shown (Sm.step c (.add s (SmNeutral.nats ws))).2) := by
  show ((Sm.step c (.add (SmNeutral.text (ib s)) (SmNeutral.nats ws))).1, SmNeutral.shown (Sm.step c (.add (SmNeutral.text (ib s)) (SmNeutral.nats ws))).2) = _
  rw [text_ib]
theorem step_drop (c : Sm.State) (s : List UInt8) : SmNeutral.step c [[2], ib s] = ((Sm.step c (.drop s)).1, SmNeutral.shown (Sm.step c (.drop s)).2) := by
  show ((Sm.step c (.drop (SmNeutral.text (ib s)))).1, SmNeutral.shown (Sm.step c (.drop (SmNeutral.text (ib s)))).2) = _
  rw [text_ib]
theorem step_count (c : Sm.State) : SmNeutral.step c [[3]] = (c, [(c.entries.length : Int)]) := rfl
theorem step_cut (c : Sm.State) (x : Int) (s : List UInt8) : SmNeutral.step c [[4, x], ib s] = ((Sm.step c (.cut s x.toNat)).1, SmNeutral.shown (Sm.step c (.cut s x.toNat)).2) := by
  show ((Sm.step c (.cut (SmNeutral.text (ib s)) x.toNat)).1, SmNeutral.shown (Sm.step c (.cut (SmNeutral.text (ib s)) x.toNat)).2) = _
  rw [text_ib]
theorem step_compare (c : Sm.State) (k : Int) (a b : List UInt8) : SmNeutral.step c [[5, k], ib a, ib b] = ((Sm.step c (.compare a b k.toNat)).1, SmNeutral.shown (Sm.step c (.compare a b k.toNat)).2) := by
  show ((Sm.step c (.compare (SmNeutral.text (ib a)) (SmNeutral.text (ib b)) k.toNat)).1, SmNeutral.shown (Sm.step c (.compare (SmNeutral.text (ib a)) (SmNeutral.text (ib b)) k.toNat)).2) = _
  rw [text_ib, text_ib]
theorem step_find (c : Sm.State) (k f : Int) (s p : List UInt8) : SmNeutral.step c [[6, k, f], ib s, ib p] = ((Sm.step c (.find s p k.toNat f.toNat)).1, SmNeutral.shown (Sm.step c (.find s p k.toNat f.toNat)).2) := by
  show ((Sm.step c (.find (SmNeutral.text (ib s)) (SmNeutral.text (ib p)) k.toNat f.toNat)).1, SmNeutral.shown (Sm.step c (.find (SmNeutral.text (ib s)) (SmNeutral.text (ib p)) k.toNat f.toNat)).2) = _
  rw [text_ib, text_ib]
theorem step_key (c : Sm.State) (s : List UInt8) : SmNeutral.step c [[7], ib s] = ((Sm.step c (.key s)).1, SmNeutral.shown (Sm.step c (.key s)).2) := by
  show ((Sm.step c (.key (SmNeutral.text (ib s)))).1, SmNeutral.shown (Sm.step c (.key (SmNeutral.text (ib s)))).2) = _
  rw [text_ib]
theorem step_low (c : Sm.State) (s : List UInt8) : SmNeutral.step c [[8], ib s] = ((Sm.step c (.low s)).1, SmNeutral.shown (Sm.step c (.low s)).2) := by
  show ((Sm.step c (.low (SmNeutral.text (ib s)))).1, SmNeutral.shown (Sm.step c (.low (SmNeutral.text (ib s)))).2) = _
  rw [text_ib]
theorem step_high (c : Sm.State) (s : List UInt8) : SmNeutral.step c [[9], ib s] = ((Sm.step c (.high s)).1, SmNeutral.shown (Sm.step c (.high s)).2) := by
  show ((Sm.step c (.high (SmNeutral.text (ib s)))).1, SmNeutral.shown (Sm.step c (.high (SmNeutral.text (ib s)))).2) = _
  rw [text_ib]
end Sh
end
section
set_option Elab.async false
set_option linter.all false
set_option maxRecDepth 100000
set_option maxHeartbeats 2000000
namespace Sh
open PySem PySem.Spec PyProof.Rows L2
structure TabOk (c : Sm.Coll) : Prop where
  few : c.entries.length ≤ 64
  seq : ∀ e ∈ c.entries, 1 ≤ e.seq.length ∧ e.seq.length ≤ 8
  els : ∀ e ∈ c.entries, e.els.length ≤ 4 ∧ ∀ x ∈ e.els, x.one ≤ 65535 ∧ x.two ≤ 65535 ∧ x.three ≤ 65535
noncomputable def optOf (b : Bool) : Int := if b = true then 1 else 0
structure Rel (C : Addr) (H : Hp) (t wr : Addr) (c : Sm.Coll) : Prop where
  ex : ∃ d kvs, TabAt C H t d (optOf c.back) kvs ∧ Ents H kvs c.entries ∧ ∀ kv ∈ kvs, kv.2 ≠ V.ref wr
  ok : TabOk c
theorem ElmsAt.keep {H H' : Hp} {l : Addr} {es : List Elm} (h : ElmsAt H l es) (s : ∀ b o, H b = some o → (b = l ∨ ∃ xs, o = .tup xs) → H' b = some o) : ElmsAt H' l es := by
  obtain ⟨as, h1, h2⟩ := h
  exact ⟨as, s _ _ h1 (.inl rfl), h2.keep fun b xs e => s _ _ e (.inr ⟨xs, rfl⟩)⟩
theorem Ents.keep {H H' : Hp} {kvs : List (List Key × V)} {es : List Sm.Entry} {X : Addr → Prop} (h : Ents H kvs es) (hx : ∀ kv ∈ kvs, ∀ l, kv.2 = V.ref l → ¬ X l) (s : ∀ b o, H b = some o → (¬ X b ∧ ∃ xs, o = .lst xs) ∨ (∃ xs, o = .tup xs) → H' b = some o) : Ents H' kvs es := by
  induction h with
  | nil => exact .nil
  | @cons kv e kvs es q t ih =>
    obtain ⟨h1, l, h2, h3⟩ := q
    refine .cons ⟨h1, l, h2, ?_⟩ (ih fun kv' hm => hx kv' (List.mem_cons.mpr (Or.inr hm)))
    obtain ⟨as, h4, h5⟩ := h3
    exact ⟨as, s _ _ h4 (.inl ⟨hx kv (List.mem_cons.mpr (Or.inl rfl)) l h2, _, rfl⟩), h5.keep fun b xs eb => s _ _ eb (.inr ⟨xs, rfl⟩)⟩
theorem Rel.but {C : Addr} {H H' : Hp} {t wr : Addr} {c : Sm.Coll} {xs : List V} (R : Rel C H t wr c) (hw : H wr = some (.lst xs)) (k : But wr H H') : Rel C H' t wr c := by
  obtain ⟨d, kvs, B, En, hx⟩ := R.ex
  obtain ⟨dx, ht⟩ := B.ins
  refine ⟨⟨d, kvs, ⟨⟨dx, k _ _ ht (ne_of ht hw (by intro z; cases z))⟩, k _ _ B.dict (ne_of B.dict hw (by intro z; cases z))⟩, En.keep (X := fun l => l = wr) (fun kv hm l e z => hx kv hm (by rw [e, z])) (fun b o e h => k _ _ e ?_), hx⟩, R.ok⟩
  rcases h with ⟨h, _⟩ | ⟨ys, h⟩
  · exact h
  · subst h
    exact ne_of e hw (by intro z; cases z)
theorem seq_but {K : PySem.W.Frag} {H H' : Hp} {a wr : Addr} {xs : List V} (k : But wr H H') (h : SqL K H a xs) (hn : a ≠ wr ∨ ∀ G : Hp, SqL K G a xs) : SqL K H' a xs := by
  rcases hn with hn | hn
  · rcases h with (h | ⟨o, h⟩) | h
    · exact .inl (.inl (k _ _ h hn))
    · exact .inl (.inr ⟨o, k _ _ h hn⟩)
    · exact .inr h
  · exact hn H'
theorem seq_apart {K : PySem.W.Frag} {H : Hp} {a wr : Addr} {xs : List V} (h : SqL K H a xs) (hw : H wr = none) : a ≠ wr ∨ ∀ G : Hp, SqL K G a xs := by
  rcases h with (h | ⟨o, h⟩) | h
  · exact .inl (ne_of_none h hw)
  · exact .inl (ne_of_none h hw)
  · exact .inr fun G => .inr h
noncomputable def RdL (C : Addr) (H : Hp) (r a : Addr) (ns rest : List Int) : Prop := ∃ p, RdAt C H r a p ∧ ns.drop p = rest
theorem drop_step {ns : List Int} {p : Nat} {z : Int} {rest : List Int} (h : ns.drop p = z :: rest) : ns[p]? = some z ∧ ns.drop (p + 1) = rest := by
  have e1 : (ns.drop p)[0]? = some z := by rw [h]; rfl
  rw [List.getElem?_drop] at e1
  have e2 : (ns.drop p).drop 1 = rest := by rw [h]; rfl
  rw [List.drop_drop] at e2
  exact ⟨e1, e2⟩
section
variable {P : Program} {w : World} {K : PySem.W.Frag} {mg : Str → Option Value} {base : Heap} {D : Adr}
noncomputable def spNumL (K : PySem.W.Frag) (C : Addr) : Sp := fun vs H Q _ => ∃ (r a : Addr) (ns rest : List Int) (z : Int), vs = [.ref r] ∧ RdL C H r a ns (z :: rest) ∧ SqL K H a (ns.map V.int) ∧
  ∀ H', RdL C H' r a ns rest → But r H H' → SqL K H' a (ns.map V.int) → Q (.int z) H'
theorem ok_numL (T : Txt K mg D) : FnOk P w K mg base CX0 1 D.num D.numD ["self"] (spNumL K D.CR) :=
  (ok_num T).imp fun vs H Q E h => by
    obtain ⟨r, a, ns, rest, z, rfl, ⟨p, hp, hd⟩, hS, k⟩ := h
    obtain ⟨h1, h2⟩ := drop_step hd
    exact ⟨r, a, p, ns, z, rfl, hp, hS, h1, fun H' hp' kp => k H' ⟨p + 1, hp', h2⟩ kp (let ⟨_, q⟩ := hp; kp.seq q hS)⟩
noncomputable def spRowL (K : PySem.W.Frag) (C : Addr) : Sp := fun vs H Q _ => ∃ (r a : Addr) (ns x rest : List Int), vs = [.ref r] ∧ RdL C H r a ns ((x.length : Int) :: (x ++ rest)) ∧ SqL K H a (ns.map V.int) ∧
  ∀ H' l, RdL C H' r a ns rest → But r H H' → SqL K H' a (ns.map V.int) → H l = none → H' l = some (.lst (x.map V.int)) → Q (.ref l) H'
theorem ok_rowL (T : Txt K mg D) : FnOk P w K mg base CX0 2 D.row D.rowD ["self"] (spRowL K D.CR) :=
  (ok_row T).imp fun vs H Q E h => by
    obtain ⟨r, a, ns, x, rest, rfl, ⟨p, hp, hd⟩, hS, k⟩ := h
    obtain ⟨h1, h2⟩ := drop_step hd
    have h3 : (ns.drop (p + 1)).length = x.length + rest.length := by rw [h2, List.length_append]
    rw [List.length_drop] at h3
    have hlt : p < ns.length := (List.getElem?_eq_some_iff.mp h1).1
    refine ⟨r, a, p, x.length, ns, rfl, hp, hS, h1, by omega, fun H' l hp' kp hl hl' => ?_⟩
    have e1 : (ns.drop (p + 1)).take x.length = x := by rw [h2, List.take_left']; rfl
    rw [e1] at hl'
    refine k H' l ⟨p + 1 + x.length, hp', ?_⟩ kp (let ⟨_, q⟩ := hp; kp.seq q hS) hl hl'
    rw [← List.drop_drop, h2, List.drop_left']
    rfl
noncomputable def spMoreL (K : PySem.W.Frag) (C : Addr) : Sp := fun vs H Q _ => ∃ (r a : Addr) (ns rest : List Int), vs = [.ref r] ∧ RdL C H r a ns rest ∧ SqL K H a (ns.map V.int) ∧ Q (.bl (!rest.isEmpty)) H
theorem ok_moreL (T : Txt K mg D) : FnOk P w K mg base CX0 1 D.more D.moreD ["self"] (spMoreL K D.CR) :=
  (ok_more T).imp fun vs H Q E h => by
    obtain ⟨r, a, ns, rest, rfl, ⟨p, hp, hd⟩, hS, k⟩ := h
    refine ⟨r, a, p, ns, rfl, hp, hS, ?_⟩
    have e : decide (p < ns.length) = !rest.isEmpty := by
      have hl : rest.length = ns.length - p := by rw [← hd, List.length_drop]
      cases rest with
      | nil =>
        refine decide_eq_false ?_
        simp at hl
        omega
      | cons z r =>
        refine decide_eq_true ?_
        simp at hl
        omega
    rw [e]
    exact k
noncomputable def spAnswer (K : PySem.W.Frag) (CT CR : Addr) : Sp := fun vs H Q _ => ∃ (t r a wr : Addr) (ns rest : List Int) (c : List (List Int)) (col : Sm.Coll) (xs : List V), vs = [.ref t, .ref r] ∧ Rel CT H t wr col ∧ RdL CR H r a ns (PyFlat.put1 c ++ rest) ∧
  SqL K H a (ns.map V.int) ∧ Good c ∧ H wr = some (.lst xs) ∧
  ∀ H' q, Rel CT H' t wr (SmNeutral.step col c).1 → RdL CR H' r a ns rest → SqL K H' a (ns.map V.int) → H' wr = some (.lst xs) → q ≠ wr → H' q = some (.lst ((SmNeutral.step col c).2.map V.int)) → (SmNeutral.step col c).2.length ≤ 10000 → Q (.ref q) H'
theorem Good.ne {c : List (List Int)} (h : Good c) : PyFlat.put1 c ≠ [] := by
  cases h <;> simp [PyFlat.put1]
noncomputable def spAnswers (K : PySem.W.Frag) : Sp := fun vs H Q _ => ∃ (a : Addr) (ns : List Int), vs = [.ref a] ∧ SqL K H a (ns.map V.int) ∧ PyWqasag.answers_asked ns = true ∧
  ∀ (H' : Hp) (p : Addr), H' p = some (.lst ((PyWqasag.answers ns).map V.int)) → Q (.ref p) H'
theorem bTInit (T : Txt K mg D) : Binds K D.tinitD ["self"] [] := T.fTInit.binds fun _ _ _ _ _ _ => bind1 fun _ => rfl
theorem bRInit (T : Txt K mg D) : Binds K D.rinitD ["self", "calls"] [] := T.fRInit.binds fun _ _ _ _ _ _ => bind2 fun _ _ => rfl
theorem bMore (T : Txt K mg D) : Binds K D.moreD ["self"] [] := T.fMore.binds fun _ _ _ _ _ _ => bind1 fun _ => rfl
theorem bAnswer (T : Txt K mg D) : Binds K D.answerD ["table", "reader"] [] := T.fAnswer.binds fun _ _ _ _ _ _ => bind2 fun _ _ => rfl
theorem scAnswers : FnScope ["calls", "table", "reader", "written", "answered"] ["calls"] (defScope sAnswers) := ⟨rfl, rfl, rfl, by decide +kernel, rfl, by decide +kernel, by decide +kernel⟩
theorem ok_answers {k : Nat} (T : Txt K mg D) (GA : FnOk P w K mg base CX0 (k + 2) D.answer D.answerD ["table", "reader"] (spAnswer K D.CT D.CR)) : FnOk P w K mg base CX0 (k + 3) D.answers D.answersD ["calls"] (spAnswers K) := by
  refine T.fAnswers.ok scAnswers (fun vs H Q E h => ?_) (fun cdv A outer s H vs Q E hr h => ?_)
  · obtain ⟨a, ns, rfl, _⟩ := h
    rfl
  · obtain ⟨a, ns, rfl, hS, hask, kk⟩ := h
    obtain ⟨raw, hraw, hput, hlen, hgood⟩ := asked_of hask
    have hr1 : Room 1 _ := hr.mono (by omega)
    have hr2 : Room 2 _ := hr.mono (by omega)
    refine ⟨_, pss_cons (ps_set (i := 1) scAnswers.nd rfl (Or.inl rfl) (pe_make0 T.kTInit (ok_tinit T) hr2 (by rfl) T.mT (bTInit T) .nil pass0))
      (pss_cons (ps_set (i := 2) scAnswers.nd rfl (Or.inl rfl) (pe_make T.kRInit (ok_rinit T) hr2 (by rfl) T.mR (bRInit T) .nil pass0 (pa_cons (pv 0) pa_nil)))
      (pss_cons (ps_set (i := 3) scAnswers.nd rfl (Or.inl rfl) (pe_lst pa_nil))
      (pss_cons (ps_while PassesOwn.never (pt_val (pe_meth0 (pv 2) T.clR T.kMore (ok_moreL T) hr1 (bMore T) .nil pass0))
        (pss_cons (ps_set (i := 4) scAnswers.nd rfl (Or.inl rfl) (pe_call GA hr (by rfl) T.mAnswer T.fAnswer.kp (bAnswer T) .nil pass0 (pa_cons (pv 1) (pa_cons (pv 2) pa_nil))))
        (pss_cons (ps_expr (pe_bm PySem.F.plainAttrs_list PySem.F.slot_list_append PySem.F.type_list_append mt_append (pv 3) (pa_cons (pe_len T.blen (pv 4)) pa_nil)))
        (pss_one (ps_expr (pe_bm PySem.F.plainAttrs_list PySem.F.slot_list_extend PySem.F.type_list_extend mt_extend (pv 3) (pa_cons (pv 4) pa_nil)))))))
      (pss_one (ps_ret (pv 3)))))), ?_⟩
    dsimp only [cxOf, Cx.nox]
    intro t dt nt ndt net
    refine ⟨t, dt, rfl, upd_same, fun H1 d B1 k1 hd => ⟨rfl, ?_⟩⟩
    have s1 : Same H H1 := Same.made nt ndt k1
    refine ⟨_, rfl, fun r dr nr ndr ner => ⟨r, dr, a, rfl, upd_same, fun H2 hR k2 => ⟨rfl, ?_⟩⟩⟩
    have s2 : Same H1 H2 := Same.made nr ndr k2
    refine ⟨Nat.zero_le _, fun wr hw => ?_⟩
    have s3 : Same H2 (upd H2 wr (.lst [])) := Same.upd_new hw
    have R0 : Rel D.CT (upd H2 wr (.lst [])) t wr SmNeutral.start := by
      refine ⟨⟨d, [], (B1.same s2).same s3, .nil, fun kv hm => by simp at hm⟩, ⟨Nat.zero_le _, fun e he => ?_, fun e he => ?_⟩⟩
      · exact absurd he (by simp [SmNeutral.start, Sm.start])
      · exact absurd he (by simp [SmNeutral.start, Sm.start])
    have hRL : RdL D.CR (upd H2 wr (.lst [])) r a ns (PyFlat.put raw) := by
      obtain ⟨dx, hq⟩ := hR
      exact ⟨0, ⟨dx, s3 _ _ hq⟩, by rw [← hput]; rfl⟩
    have hap := seq_apart ((s1.trans s2).seq hS) hw
    have hS3 : SqL K (upd H2 wr (.lst [])) a (ns.map V.int) := ((s1.trans s2).trans s3).seq hS
    refine ⟨fun m σ H' => ∃ (raw' : List (List (List Int))) (col : Sm.Coll) (ws : List Int) (v4 : Option V), σ = [some (.ref a), some (.ref t), some (.ref r), some (.ref wr), v4] ∧ m = raw'.length ∧ raw'.length ≤ 60 ∧ (∀ c ∈ raw', Good c) ∧
        Rel D.CT H' t wr col ∧ RdL D.CR H' r a ns (PyFlat.put raw') ∧ SqL K H' a (ns.map V.int) ∧ H' wr = some (.lst (ws.map V.int)) ∧ ws.length + raw'.length * 10001 ≤ 10001 * 60 ∧
        PyWqasag.answers ns = ws ++ PyFlat.told (PyFlat.played SmNeutral.step col raw'),
      ⟨raw.length, raw, SmNeutral.start, [], none, rfl, rfl, hlen, hgood, R0, hRL, hS3, upd_same, by simp; omega, by rw [answers_eq hraw hgood]; rfl⟩, ?_⟩
    rintro m σ H' ⟨raw', col, ws, v4, rfl, rfl, hlen', hgood', R, hRL', hS', hwr, hsz, heq⟩
    obtain ⟨pp, ⟨dxr, hrr⟩, hdr⟩ := id hRL'
    refine (rM rfl (hrr) (rf_no _ _ (by decide) (by decide)) ⟨r, a, ns, _, rfl, hRL', hS', _, rfl, ?_⟩)
    cases raw' with
    | nil =>
      refine iteF ?_
      refine ⟨_, rfl, ?_⟩
      have e : PyWqasag.answers ns = ws := by
        rw [heq]
        show ws ++ PyFlat.told [] = ws
        exact List.append_nil ws
      exact kk H' wr (by rw [e]; exact hwr)
    | cons c raw' =>
      have hg := hgood' c (List.mem_cons.mpr (Or.inl rfl))
      have hne : (!(PyFlat.put (c :: raw')).isEmpty) = true := by
        have := hg.ne
        show (!(PyFlat.put1 c ++ PyFlat.put raw').isEmpty) = true
        cases e : PyFlat.put1 c with
        | nil => exact absurd e this
        | cons z l => rfl
      rw [hne]
      refine iteT ?_
      refine ⟨fun σ' H'' => ∃ (col : Sm.Coll) (ws : List Int) (v4 : Option V), σ' = [some (.ref a), some (.ref t), some (.ref r), some (.ref wr), v4] ∧ Rel D.CT H'' t wr col ∧ RdL D.CR H'' r a ns (PyFlat.put raw') ∧ SqL K H'' a (ns.map V.int) ∧
          H'' wr = some (.lst (ws.map V.int)) ∧ ws.length + raw'.length * 10001 ≤ 10001 * 60 ∧ PyWqasag.answers ns = ws ++ PyFlat.told (PyFlat.played SmNeutral.step col raw'), ?_, ?_⟩
      · rintro σ' H'' ⟨col, ws, v4, e1, e2, e3, e4, e5, e6, e7⟩
        exact ⟨raw'.length, Nat.lt_succ_self _, raw', col, ws, v4, e1, rfl, Nat.le_of_succ_le hlen', fun c' hc' => hgood' c' (List.mem_cons.mpr (Or.inr hc')), e2, e3, e4, e5, e6, e7⟩
      · refine ⟨_, rfl, _, rfl, t, r, a, wr, ns, PyFlat.put raw', c, col, _, rfl, R, hRL', hS', hg, hwr, fun H4 q R4 hRL4 hS4 hwr4 hq hq4 hl4 => ?_⟩
        obtain ⟨ans, eans⟩ : ∃ ans, ans = (SmNeutral.step col c).2 := ⟨_, rfl⟩
        rw [← eans] at hq4 hl4
        rw [List.length_cons] at hsz
        have hs16 : sizeLine = 16777216 := sizeLine_eq
        refine ⟨_, rfl, .inl ⟨rfl, _, SqL.of hwr4⟩, _, rfl, q, _, rfl, .inl (SqL.of hq4), wr, _, _, rfl, rfl, hwr4, (by rw [List.length_map]; omega), ?_⟩
        have e1 : ((ans.map V.int).length : Int) = (ans.length : Int) := by rw [List.length_map]
        rw [e1]
        refine ⟨_, rfl, .inl ⟨rfl, _, SqL.of upd_same⟩, _, rfl, wr, q, _, _, rfl, rfl, upd_same, (by rw [upd_ne hq]; exact hq4), (by rw [List.length_append, List.length_map, List.length_map]; show ws.length + 1 + ans.length ≤ _; omega), ?_⟩
        have kb : But wr H4 (upd (upd H4 wr (.lst (ws.map V.int ++ [V.int ans.length]))) wr (.lst (ws.map V.int ++ [V.int ans.length] ++ ans.map V.int))) := fun b o e hb => by
          rw [upd_ne hb, upd_ne hb]
          exact e
        refine ⟨(SmNeutral.step col c).1, ws ++ ((ans.length : Int) :: ans), _, rfl, R4.but hwr4 kb, ?_, ?_, ?_, ?_, ?_⟩
        · obtain ⟨p4, ⟨dx4, h4⟩, hd4⟩ := hRL4
          exact ⟨p4, ⟨dx4, kb _ _ h4 (ne_of h4 hwr4 (by intro z; cases z))⟩, hd4⟩
        · exact seq_but kb hS4 hap
        · rw [upd_same, List.map_append, List.append_assoc]
          rfl
        · rw [List.length_append, List.length_cons]
          omega
        · rw [heq]
          show ws ++ PyFlat.told ((SmNeutral.step col c).2 :: PyFlat.played SmNeutral.step (SmNeutral.step col c).1 raw') = _
          rw [told_cons, ← eans, List.append_assoc]
end
end Sh
end
section
set_option Elab.async false
set_option linter.all false
set_option maxRecDepth 100000
set_option maxHeartbeats 2000000
namespace L2
open PySem PySem.Spec PyProof.Rows PySem.SeqAt
noncomputable def lexG {α : Type} [DecidableEq α] (lt : α → α → Bool) : List α → List α → Bool
  | [], [] => false
  | [], _ :: _ => true
  | _ :: _, [] => false
  | x :: r, y :: s => if x = y then lexG lt r s else lt x y
theorem ltFrom_lex {α : Type} [DecidableEq α] (lt : α → α → Bool) (d : α) (xs ys : List α) : ∀ k i, i + k = min xs.length ys.length →
    ltFrom (fun j => decide (xs.getD j d = ys.getD j d)) (fun j => lt (xs.getD j d) (ys.getD j d)) xs.length ys.length k i = lexG lt (xs.drop i) (ys.drop i)
  | 0, i, h => by
    show decide (xs.length < ys.length) = _
    by_cases hl : xs.length < ys.length
    · have h1 : xs.drop i = [] := List.drop_eq_nil_of_le (by omega)
      have h2 : i < ys.length := by omega
      rw [decide_eq_true hl, h1, List.drop_eq_getElem_cons h2]
      rfl
    · have h1 : ys.drop i = [] := List.drop_eq_nil_of_le (by omega)
      rw [decide_eq_false hl, h1]
      cases xs.drop i <;> rfl
  | k + 1, i, h => by
    have h1 : i < xs.length := by omega
    have h2 : i < ys.length := by omega
    have ih := ltFrom_lex lt d xs ys k (i + 1) (by omega)
    have e1 : xs.getD i d = xs[i] := by simp [h1]
    have e2 : ys.getD i d = ys[i] := by simp [h2]
    rw [List.drop_eq_getElem_cons h1, List.drop_eq_getElem_cons h2]
    show (if decide (xs.getD i d = ys.getD i d) = true then ltFrom _ _ _ _ k (i + 1) else lt (xs.getD i d) (ys.getD i d)) = (if xs[i] = ys[i] then lexG lt (xs.drop (i + 1)) (ys.drop (i + 1)) else lt xs[i] ys[i])
    rw [ih, e1, e2]
    by_cases q : xs[i] = ys[i]
    · rw [decide_eq_true q, if_pos rfl, if_pos q]
    · rw [decide_eq_false q, if_neg Bool.false_ne_true, if_neg q]
theorem all_eq {α : Type} [DecidableEq α] (d : α) (xs ys : List α) (h : xs.length = ys.length) : ((List.range xs.length).all fun j => decide (xs.getD j d = ys.getD j d)) = decide (xs = ys) := by
  by_cases q : xs = ys
  · subst q
    rw [decide_eq_true rfl, List.all_eq_true]
    intro j _
    exact decide_eq_true rfl
  · rw [decide_eq_false q, List.all_eq_false]
    refine Classical.byContradiction fun z => q (List.ext_getElem h fun i h1 h2 => Classical.byContradiction fun n => z ⟨i, List.mem_range.mpr h1, fun w => n ?_⟩)
    have w := of_decide_eq_true w
    rw [show xs.getD i d = xs[i] by simp [h1], show ys.getD i d = ys[i] by simp [h2]] at w
    exact w
theorem IntsAre.at : ∀ {vs : List Value} {ns : List Int} (h : IntsAre vs ns) (j : Nat) (hj : j < vs.length), ∃ t, vs[j] = .int (ns.getD j 0) t
  | _, _, .cons n t h, 0, hj => ⟨t, rfl⟩
  | _, _, .cons n t h, j + 1, hj => by
    obtain ⟨t', e⟩ := IntsAre.at h j (Nat.lt_of_succ_lt_succ hj)
    exact ⟨t', e⟩
theorem IntsAre.inj : ∀ {vs : List Value} {ns ms : List Int}, IntsAre vs ns → IntsAre vs ms → ns = ms
  | _, _, _, .nil, .nil => rfl
  | _, _, _, .cons n t h, .cons _ _ h' => by rw [IntsAre.inj h h']
noncomputable def IntL (s : Shared) (a : Addr) (ns : List Int) : Prop := ∃ its : List Value, s.heap.IsList a its.toArray ∧ IntsAre its ns
theorem IsList.inj {h : Heap} {a : Addr} {x y : Array Value} (p : h.IsList a x) (q : h.IsList a y) : x = y := by
  obtain ⟨o, ho, hc, n, hd⟩ := p
  obtain ⟨o', ho', hc', n', hd'⟩ := q
  have e : o = o' := Option.some.inj (ho.symm.trans ho')
  subst e
  have e := hd.symm.trans hd'
  injection e
theorem IntL.inj {s : Shared} {a : Addr} {ns ms : List Int} (p : IntL s a ns) (q : IntL s a ms) : ns = ms := by
  obtain ⟨x, hx, ix⟩ := p
  obtain ⟨y, hy, iy⟩ := q
  have e : x.toArray = y.toArray := IsList.inj hx hy
  have e : x = y := by simpa using e
  subst e
  exact IntsAre.inj ix iy
section
variable {A : Around} {s : Shared} {a b : Addr} {ns ms : List Int}
theorem IntL.rc (p : IntL s a ns) (q : IntL s b ms) (hu : A.units < cLine) : RcAt A s (.ref a) (.ref b) (decide (ns = ms)) := by
  obtain ⟨x, hx, ix⟩ := p
  obtain ⟨y, hy, iy⟩ := q
  have l1 : x.toArray.size = ns.length := by rw [List.size_toArray]; exact ix.length
  have l2 : y.toArray.size = ms.length := by rw [List.size_toArray]; exact iy.length
  by_cases hl : ns.length = ms.length
  · have h := RcAt.lists (A := A) (e := fun j => decide (ns.getD j 0 = ms.getD j 0)) hx hy (by omega) hu (fun j h1 h2 => by
      obtain ⟨t1, e1⟩ := IntsAre.at ix j (by simpa using h1)
      obtain ⟨t2, e2⟩ := IntsAre.at iy j (by simpa using h2)
      rw [show x.toArray[j] = x[j]'(by simpa using h1) from rfl, show y.toArray[j] = y[j]'(by simpa using h2) from rfl, e1, e2]
      have q := SeqAt.EqAt.int_int (A := A.in1) (s := s) (ns.getD j 0) t1 (ms.getD j 0) t2
      have e : decide (ns.getD j 0 = ms.getD j 0) = (ns.getD j 0 == ms.getD j 0) := by
        rw [Bool.eq_iff_iff]; simp
      rw [e]
      exact q)
    rw [l1, all_eq 0 ns ms hl] at h
    exact h
  · rw [decide_eq_false (fun z => hl (by rw [z]))]
    exact RcAt.lists_lengths hx hy (by rw [l1, l2]; simpa using hl) hu
theorem IntL.eq (p : IntL s a ns) (q : IntL s b ms) (hu : A.units < cLine) : EqAt A s (.ref a) (.ref b) (decide (ns = ms)) := by
  by_cases h : a = b
  · subst h
    rw [decide_eq_true (p.inj q)]
    exact EqAt.same _
  · exact EqAt.of_refs h (p.rc q hu)
theorem IntL.lt (p : IntL s a ns) (q : IntL s b ms) (hu : A.units < cLine) : LtAt A s (.ref a) (.ref b) (lexG (fun i j => decide (i < j)) ns ms) := by
  obtain ⟨x, hx, ix⟩ := p
  obtain ⟨y, hy, iy⟩ := q
  have l1 : x.toArray.size = ns.length := by rw [List.size_toArray]; exact ix.length
  have l2 : y.toArray.size = ms.length := by rw [List.size_toArray]; exact iy.length
  have h := LtAt.lists (A := A) (e := fun j => decide (ns.getD j 0 = ms.getD j 0)) (lt := fun j => decide (ns.getD j 0 < ms.getD j 0)) hx hy hu (fun j h1 h2 => by
      obtain ⟨t1, e1⟩ := IntsAre.at ix j (by simpa using h1)
      obtain ⟨t2, e2⟩ := IntsAre.at iy j (by simpa using h2)
      rw [show x.toArray[j] = x[j]'(by simpa using h1) from rfl, show y.toArray[j] = y[j]'(by simpa using h2) from rfl, e1, e2]
      have q := SeqAt.EqAt.int_int (A := A.in1) (s := s) (ns.getD j 0) t1 (ms.getD j 0) t2
      have e : decide (ns.getD j 0 = ms.getD j 0) = (ns.getD j 0 == ms.getD j 0) := by
        rw [Bool.eq_iff_iff]; simp
      rw [e]
      exact q) (fun j h1 h2 _ => by
      obtain ⟨t1, e1⟩ := IntsAre.at ix j (by simpa using h1)
      obtain ⟨t2, e2⟩ := IntsAre.at iy j (by simpa using h2)
      rw [show x.toArray[j] = x[j]'(by simpa using h1) from rfl, show y.toArray[j] = y[j]'(by simpa using h2) from rfl, e1, e2]
      exact fun prog w E Q hq => HT.rcLt_int A.in1 s _ t1 _ t2 prog w E Q hq)
  rw [l1, l2, ltFrom_lex (fun i j => decide (i < j)) 0 ns ms _ 0 (by omega)] at h
  exact h
end
noncomputable def LLq (K : PySem.W.Frag) (H : Hp) (a : Addr) (ls : List (List Int)) : Prop := ∃ as : List Addr, SqL K H a (as.map V.ref) ∧ Paired (fun p ns => SqL K H p (ns.map V.int)) as ls
theorem Paired.at {α β : Type} {F : α → β → Prop} : ∀ {l : List α} {m : List β}, Paired F l m → ∀ (j : Nat) (da : α) (db : β), j < l.length → F (l.getD j da) (m.getD j db)
  | _, _, .cons r _, 0, _, _, _ => r
  | _, _, .cons _ t, j + 1, da, db, h => Paired.at t j da db (Nat.lt_of_succ_lt_succ h)
  | _, _, .nil, j, _, _, h => absurd h (Nat.not_lt_zero _)
section
variable {X : Cx} {pins : List (Addr × Obj)} {σ : St} {H : Hp} {s : Shared}
theorem intL_of (I : Inv X pins σ H s) {a : Addr} {ns : List Int} (h : SqL X.K H a (ns.map V.int)) : IntL s a ns := by
  obtain ⟨its, rv, hl, _⟩ := I.list h
  exact ⟨its, hl.isList, intsAre_of rv⟩
theorem refs_get2 : ∀ {as : List Addr} {us : List Value}, Vals (as.map V.ref) us → ∀ (j : Nat) (hj : j < us.length), us[j] = .ref (as.getD j 0)
  | [], _, .nil, j, h => absurd h (Nat.not_lt_zero _)
  | a :: as, _, .cons r t, 0, _ => r
  | a :: as, _, .cons r t, j + 1, h => refs_get2 t j (Nat.lt_of_succ_lt_succ h)
theorem LLq.heap (I : Inv X pins σ H s) {a : Addr} {ls : List (List Int)} (h : LLq X.K H a ls) : ∃ its : List Value, s.heap.IsList a its.toArray ∧ its.length = ls.length ∧ ∀ j (hj : j < its.length), ∃ p, its[j] = .ref p ∧ IntL s p (ls.getD j []) := by
  obtain ⟨as, h1, h2⟩ := h
  obtain ⟨its, rv, hl, _⟩ := I.list h1
  have e : its.length = as.length := by rw [← rv.length, List.length_map]
  refine ⟨its, hl.isList, by rw [e]; exact Paired.length h2, fun j hj => ⟨as.getD j 0, refs_get2 rv j hj, intL_of I (Paired.at h2 j 0 [] (by omega))⟩⟩
end
theorem op_eqLL {X : Cx} (hu : X.A.units + 64 < cLine) : OpR X (compareOp .Eq) (fun x y H Q => ∃ a b ls ms, x = .ref a ∧ y = .ref b ∧ LLq X.K H a ls ∧ LLq X.K H b ms ∧ Q (.bl (decide (ls = ms))) H) := by
  intro pins s σ H x y v u Q I rx ry h
  obtain ⟨a, b, ls, ms, rfl, rfl, ha, hb, q⟩ := h
  cases rx
  cases ry
  obtain ⟨its, hl, e1, f1⟩ := ha.heap I
  obtain ⟨its2, hl2, e2, f2⟩ := hb.heap I
  have l1 : its.toArray.size = ls.length := by rw [List.size_toArray]; exact e1
  have l2 : its2.toArray.size = ms.length := by rw [List.size_toArray]; exact e2
  have fin : EP X pins σ Q (.bool (decide (ls = ms))) s := ⟨.bl (decide (ls = ms)), H, I, rfl, q⟩
  by_cases hlen : ls.length = ms.length
  · have h := RcAt.lists (A := X.A) (e := fun j => decide (ls.getD j [] = ms.getD j [])) hl hl2 (by omega) (by omega) (fun j h1 h2 => by
      obtain ⟨p1, g1, i1⟩ := f1 j (by simpa using h1)
      obtain ⟨p2, g2, i2⟩ := f2 j (by simpa using h2)
      rw [show its.toArray[j] = its[j]'(by simpa using h1) from rfl, show its2.toArray[j] = its2[j]'(by simpa using h2) from rfl, g1, g2]
      exact IntL.eq i1 i2 (by show X.A.units + 1 < cLine; omega))
    rw [l1, all_eq [] ls ms hlen] at h
    exact h X.prog X.w _ _ fin
  · rw [decide_eq_false (fun z => hlen (by rw [z]))] at fin
    exact RcAt.lists_lengths hl hl2 (by rw [l1, l2]; simpa using hlen) (by omega) X.prog X.w _ _ fin
noncomputable def lexLL : List (List Int) → List (List Int) → Bool := lexG (lexG fun i j => decide (i < j))
theorem op_ltLL {X : Cx} (hu : X.A.units + 64 < cLine) : OpR X (compareOp .Lt) (fun x y H Q => ∃ a b ls ms, x = .ref a ∧ y = .ref b ∧ LLq X.K H a ls ∧ LLq X.K H b ms ∧ Q (.bl (lexLL ls ms)) H) := by
  intro pins s σ H x y v u Q I rx ry h
  obtain ⟨a, b, ls, ms, rfl, rfl, ha, hb, q⟩ := h
  cases rx
  cases ry
  obtain ⟨its, hl, e1, f1⟩ := ha.heap I
  obtain ⟨its2, hl2, e2, f2⟩ := hb.heap I
  have l1 : its.toArray.size = ls.length := by rw [List.size_toArray]; exact e1
  have l2 : its2.toArray.size = ms.length := by rw [List.size_toArray]; exact e2
  have fin : EP X pins σ Q (.bool (lexLL ls ms)) s := ⟨.bl (lexLL ls ms), H, I, rfl, q⟩
  have h := LtAt.lists (A := X.A) (e := fun j => decide (ls.getD j [] = ms.getD j [])) (lt := fun j => lexG (fun i j => decide (i < j)) (ls.getD j []) (ms.getD j [])) hl hl2 (by omega) (fun j h1 h2 => by
      obtain ⟨p1, g1, i1⟩ := f1 j (by simpa using h1)
      obtain ⟨p2, g2, i2⟩ := f2 j (by simpa using h2)
      rw [show its.toArray[j] = its[j]'(by simpa using h1) from rfl, show its2.toArray[j] = its2[j]'(by simpa using h2) from rfl, g1, g2]
      exact IntL.eq i1 i2 (by show X.A.units + 1 < cLine; omega)) (fun j h1 h2 _ => by
      obtain ⟨p1, g1, i1⟩ := f1 j (by simpa using h1)
      obtain ⟨p2, g2, i2⟩ := f2 j (by simpa using h2)
      rw [show its.toArray[j] = its[j]'(by simpa using h1) from rfl, show its2.toArray[j] = its2[j]'(by simpa using h2) from rfl, g1, g2]
      exact IntL.lt i1 i2 (by show X.A.units + 1 < cLine; omega))
  rw [l1, l2, ltFrom_lex (lexG fun i j => decide (i < j)) [] ls ms _ 0 (by omega)] at h
  exact h X.prog X.w _ _ fin
end L2
end
section
set_option Elab.async false
set_option linter.all false
set_option maxRecDepth 100000
set_option maxHeartbeats 2000000
namespace PySem
namespace F
theorem lri_no_len : typeLookup (.type "list_reverseiterator") "__len__" = pure none := by rw [typeLookup_type, builtinLookup_eq_fast]; kernel_rfl
theorem lri_hint : typeLookup (.type "list_reverseiterator") "__length_hint__" = pure (some (.builtin "list_reverseiterator.__length_hint__")) := by rw [typeLookup_type, builtinLookup_eq_fast]; kernel_rfl
theorem sub_lri_self : isSubtype (.type "list_reverseiterator") (.type "list_reverseiterator") = pure true := by rw [isSubtype_type]; kernel_rfl
end F
section
variable {prog : Program} {w : World} {A : Around} {s : Shared} {R : Result → Shared → Prop} {E : Value → Shared → Prop} {Q : Value → Shared → Prop}
theorem wpAny_hint_rev {I l : Addr} {i : Int} {Q : Bool → Shared → Prop} (hr : s.heap.IsRevIter I l i) (h : Q false s) : wpAny (model prog w) A (Builtin.List.listLengthHint (.ref I)) Q E s := by
  unfold Builtin.List.listLengthHint
  refine wpAny_bind (wpAny_specialOf hr.typeIs F.lri_no_len ?_)
  show wpAny _ A (specialOf (Value.ref I) (Str.ofString "__length_hint__") >>= _) _ _ _
  refine wpAny_bind (wpAny_specialOf hr.typeIs F.lri_hint ?_)
  generalize hid : ("list_reverseiterator.__length_hint__" : String) = id0
  wp_delta
  rw [show splitId id0 = some ("list_reverseiterator", "__length_hint__") from by subst hid; decide +kernel]
  subst hid
  refine wpAny_bind (wpAny_isInstance (T := "list_reverseiterator") (b := true) hr.typeIs F.sub_lri_self ?_)
  refine wpAny_ite_split (fun hab => absurd hab (by decide)) (fun _ => ?_)
  refine wpAny_ite_split (fun _ => ?_) (fun hab => absurd (by decide +kernel) hab)
  refine wpAny_ite_split (fun hab => absurd hab (by decide +kernel)) (fun _ => ?_)
  exact wpAny_pure h
theorem wpAny_extend_rev {l I : Addr} {items : Array Value} (hh : A.handled = none) (hne : l ≠ I) (hit : s.heap.IsRevIter I l ((items.size : Int) - 1)) (hl : s.heap.IsList l items) (hn : items.size ≤ sizeLine)
    (S : Addr) (res : Value) (c₀ : Nat) (hS : s.heap.get? S = some { cls := .type "list", data := .seq #[] c₀ }) (hSI : S ≠ I) (hSl : S ≠ l)
    (hR : ∀ h' tk acc' c', (∀ b o, b ≠ S → b ≠ I → s.heap.get? b = some o → h'.get? b = some o) → h'.get? S = some { cls := .type "list", dict := none, data := .seq acc' c', slots := #[] } →
      ItemsOf (fun i v => items[items.size - 1 - i]? = some v) acc' items.size → R (.ok (.ret res)) { s with heap := h', toks := tk }) :
    wpAny (model prog w) A.in1 (Builtin.List.listExtendWith (.ref S) (.ref I) res)
      (fun fin s' => match fin with | .done f => R (.ok f) s' | .again c' => c'.quiet = true ∧ codeAny (model prog w) A c' R s') (fun e s' => R (.error e) s') s := by
  have hSf : S ∉ [I, l] := fun hm => by
    rcases List.mem_cons.mp hm with e | hm
    · exact hSI e
    · exact hSl (List.mem_singleton.mp hm)
  have W := (Walks.listRev (prog := prog) (w := w) (A := A.in1) hh I l hne items).toS
  have hst : (0 ≤ items.size ∧ s.heap.IsRevIter I l ((items.size : Int) - 1 - ((0 : Nat) : Int)) ∧ s.heap.IsList l items) := ⟨Nat.zero_le _, by simpa using hit, hl⟩
  unfold Builtin.List.listExtendWith
  refine wpAny_bind (wpAny_typeOf hit.typeIs ?_)
  have h1 : Builtin.List.listSameRef (.ref S) (.ref I) = false := by simp [Builtin.List.listSameRef, hSI]
  have h2 : (Value.type "list_reverseiterator" == Value.type "list") = false := by decide
  have h3 : (Value.type "list_reverseiterator" == Value.type "tuple") = false := by decide
  simp only [h1, h2, h3, Bool.or_false, Bool.false_eq_true, if_false]
  refine wpAny_bind (wpAny_pyIter_revIter hit ?_)
  refine wpAny_bind (wpAny_holding (wpAny_hint_rev hit ?_))
  refine wpAny_ite_split (fun hab => absurd hab (by decide +kernel)) (fun _ => ?_)
  refine wpAny_pure ⟨plainId_quiet F.plain_extend_loop _, ?_⟩
  refine codeAny_extend_loopS W hn S hSf res items.size 0 _ #[] c₀ rfl (Nat.zero_le _) hst hS (ItemsOf.nil _) fun s' acc' c' hm hS' hacc => ?_
  rw [Moved.eq_with hm]
  refine hR s'.heap s'.toks acc' c' (fun b o hb hb2 e => hm.heap b o (fun hmem => ?_) e) hS' hacc
  rcases List.mem_cons.mp hmem with e' | hmem
  · exact hb e'
  · exact hb2 (List.mem_singleton.mp hmem)
theorem wpAny_list_init_rev {l I : Addr} {items : Array Value} (hh : A.handled = none) (hne : l ≠ I) (hit : s.heap.IsRevIter I l ((items.size : Int) - 1)) (hl : s.heap.IsList l items) (hn : items.size ≤ sizeLine)
    (S : Addr) (hS : s.heap.get? S = some { cls := .type "list", data := .seq #[] }) (hSI : S ≠ I) (hSl : S ≠ l)
    (hR : ∀ h' tk acc' c', (∀ b o, b ≠ S → b ≠ I → s.heap.get? b = some o → h'.get? b = some o) → h'.get? S = some { cls := .type "list", dict := none, data := .seq acc' c', slots := #[] } →
      ItemsOf (fun i v => items[items.size - 1 - i]? = some v) acc' items.size → R (.ok (.ret .none)) { s with heap := h', toks := tk }) :
    wpAny (model prog w) A.in1 (Builtin.«list.__init__» ⟨[.ref S, .ref I], []⟩)
      (fun fin s' => match fin with | .done f => R (.ok f) s' | .again c' => c'.quiet = true ∧ codeAny (model prog w) A c' R s') (fun e s' => R (.error e) s') s := by
  show wpAny _ _ (do let old ← Builtin.List.listItems (.ref S); Builtin.List.listUpdate (.ref S) (fun _ => #[]); letGo old.toList.reverse; Builtin.List.listExtendWith (.ref S) (.ref I) .none) _ _ s
  refine wpAny_bind ?_
  unfold Builtin.List.listItems
  refine wpAny_bind (wpAny_seqItems hS rfl (wpAny_pure ?_))
  show wpAny _ _ (updateSeq S (fun _ => #[]) >>= fun _ => letGo (#[] : Array Value).toList.reverse >>= fun _ => Builtin.List.listExtendWith (.ref S) (.ref I) .none) _ _ s
  refine wpAny_bind (wpAny_updateSeq hS rfl ?_)
  have hS₂ := Heap.get?_update_self (Obj.mapSeq (fun _ => (#[] : Array Value))) hS rfl
  have oth : ∀ b o, b ≠ S → s.heap.get? b = some o → (s.heap.update S (Obj.mapSeq (fun _ => (#[] : Array Value)))).get? b = some o :=
    fun b o hb e => (Heap.get?_update_other _ _ (Ne.symm hb)).trans e
  refine wpAny_bind (wpAny_letGo ?_)
  refine wpAny_extend_rev hh hne (hit.at fun o e => oth I o (Ne.symm hSI) e) (hl.at fun o e => oth l o (Ne.symm hSl) e) hn S .none _ hS₂ hSI hSl fun h' tk acc' c' hk hS' hacc => ?_
  exact hR h' tk acc' c' (fun b o hb hb2 e => hk b o hb hb2 (oth b o hb e)) hS' hacc
theorem call_list_rev {l I : Addr} {items : Array Value} (hh : A.handled = none) (hne : l ≠ I) (hit : s.heap.IsRevIter I l ((items.size : Int) - 1)) (hl : s.heap.IsList l items) (hn : items.size ≤ sizeLine)
    (hQ : ∀ h' tk acc' c', (∀ b o, b ≠ I → s.heap.get? b = some o → h'.get? b = some o) →
      h'.get? s.heap.objs.size = some { cls := .type "list", dict := none, data := .seq acc' c', slots := #[] } → ItemsOf (fun i v => items[items.size - 1 - i]? = some v) acc' items.size → Q (.ref s.heap.objs.size) { s with heap := h', toks := tk }) :
    wpAny (model prog w) A (call (.type "list") [.ref I]) Q E s := by
  refine callType_codes (Q₁ := fun obj s₁ => obj = .ref s.heap.objs.size ∧ s₁ = { s with heap := s.heap.push { cls := .type "list", data := .seq #[] } }) F.called_list (F.typeCall_list_1 _) F.entry_list_init
    (code_list_new _ ⟨rfl, rfl⟩) fun obj s₁ h₁ => ?_
  obtain ⟨rfl, rfl⟩ := h₁
  have hS : (s.heap.push { cls := .type "list", data := .seq #[] }).get? s.heap.objs.size = some { cls := .type "list", data := .seq #[] } := Heap.get?_push_size _ rfl
  obtain ⟨oi, hoi, _⟩ := id hit
  obtain ⟨ol, hol, _⟩ := id hl
  have hSI : s.heap.objs.size ≠ I := fun e => Nat.lt_irrefl _ (e ▸ Heap.lt_size hoi)
  have hSl : s.heap.objs.size ≠ l := fun e => Nat.lt_irrefl _ (e ▸ Heap.lt_size hol)
  refine ⟨⟨_, hS, rfl⟩, F.args_list_init_2 _ _, wpAny_list_init_rev (A := A.in1) hh hne (hit.at fun o e => Heap.get?_push_of_some _ e) (hl.at fun o e => Heap.get?_push_of_some _ e) hn _ hS hSI hSl fun h' tk acc' c' hk hS' hacc => ?_⟩
  exact ⟨rfl, hQ h' tk acc' c' (fun b o hb e => hk b o (Nat.ne_of_lt (Heap.lt_size e)) hb (Heap.get?_push_of_some _ e)) hS' hacc⟩
end
end PySem
namespace L2
open PySem PySem.Spec PyProof.Rows
noncomputable def tRevL (K : PySem.W.Frag) (ta : TA) : TE := fun σ H Q => ta σ H fun vs H1 => ∃ (a : Addr) (xs : List V), vs = [.ref a] ∧ SqL K H1 a xs ∧ ∀ l, H1 l = none → Q (.ref l) (upd H1 l (.lst xs.reverse))
theorem vals_rev : ∀ {xs : List V} {its : List Value}, Vals xs its → Vals xs.reverse its.reverse
  | _, _, .nil => .nil
  | _, _, .cons r t => by
    rw [List.reverse_cons, List.reverse_cons]
    exact Vals.append (vals_rev t) (.cons r .nil)
theorem rev_items {xs : List V} {its : List Value} (rv : Vals xs its) {acc : Array Value} (h : ItemsOf (fun i v => its.toArray[its.toArray.size - 1 - i]? = some v) acc its.toArray.size) : Vals xs.reverse acc.toList := by
  have e : acc.toList = its.reverse := by
    refine List.ext_getElem? fun i => ?_
    by_cases hi : i < its.length
    · have hs : acc.size = its.length := by rw [h.1]; simp
      have q := h.2 i acc[i] (by simp [hs, hi])
      rw [List.getElem?_reverse hi]
      rw [Array.getElem?_toList, Array.getElem?_eq_getElem (by omega)]
      rw [← q]
      simp
    · have hs : acc.toList.length = its.length := by rw [Array.length_toList, h.1]; simp
      rw [List.getElem?_eq_none (by omega), List.getElem?_eq_none (by simp; omega)]
  rw [e]
  exact vals_rev rv
theorem pe_listrev {X : Cx} {e : Expr} {ta : TA} {p pos p2 pos2 : Pos} (hcalm : X.calm = true) (hg : Gl X "list") (hm : X.mg "list" = none) (hg2 : Gl X "reversed") (hm2 : X.mg "reversed" = none) (ha : PA X [e] ta)
    (hs : starEach [e] X.env = [(false, eval e X.env)] := by rfl)
    (hs2 : starEach [.Call (.Name "reversed" p2) [e] [] pos2] X.env = (false, eval (.Call (.Name "reversed" p2) [e] [] pos2) X.env) :: starEach [] X.env := by rfl) :
    PE X (.Call (.Name "list" p) [.Call (.Name "reversed" p2) [e] [] pos2] [] pos) (tRevL X.K ta) := by
  intro pins s σ H Q I h
  refine wpAny_Call_Name_kw (ld_blt I hg hm PyProof.Rows.boot_list ?_)
  refine PyProof.Rows.callWith_type1 ?_ hs2 rfl
  rw [hs2]
  show wpAny _ _ (spliced ((false, eval (.Call (.Name "reversed" p2) [e] [] pos2) X.env) :: backTo pos (starEach [] X.env))) _ _ s
  refine Calls.spliced_cons ?_
  refine Call_ (ld_blt I hg2 hm2 boot_reversed5 (PyProof.Rows.callWith_type1 (thn (ha pos2 pins s σ H _ I h) fun us s1 ⟨vs, H1, I1, r1, q1⟩ => ?_) hs rfl))
  obtain ⟨a, xs, ev, hq, q⟩ := q1
  subst ev
  cases r1 with
  | cons r rr =>
    cases rr
    cases r
    obtain ⟨its, rv, p', hz⟩ := I1.list hq
    have hl := rv.length
    refine call_reversed_list p'.isList (Calls.spliced_nil ?_)
    obtain ⟨ol, hol, _⟩ := id p'.isList
    have hne : a ≠ s1.heap.objs.size := fun e => Nat.lt_irrefl _ (e ▸ Heap.lt_size hol)
    refine call_list_rev (l := a) (I := s1.heap.objs.size) (items := its.toArray) (I1.ok.hd hcalm) hne ⟨_, Heap.get?_push_size _ rfl, rfl, rfl⟩ (p'.isList.at fun o e => Heap.get?_push_of_some _ e) (by rw [List.size_toArray]; omega) fun h' tk acc' c' hk hS hacc => ?_
    have kp : ∀ b o', s1.heap.get? b = some o' → h'.get? b = some o' := fun b o' eb => hk b o' (fun z => Nat.lt_irrefl _ (z ▸ Heap.lt_size eb)) (Heap.get?_push_of_some _ eb)
    have hle : s1.heap.objs.size ≤ (s1.heap.push (revObj a ((its.toArray.size : Int) - 1))).objs.size := by
      have q : (s1.heap.push (revObj a ((its.toArray.size : Int) - 1))).get? s1.heap.objs.size = some (revObj a ((its.toArray.size : Int) - 1)) := Heap.get?_push_size _ rfl
      exact Nat.le_of_lt (Heap.lt_size q)
    refine ⟨.ref _, _, I1.laid (t' := tk) (o := .lst xs.reverse) kp hle ⟨by rw [List.length_reverse]; exact hz, acc'.toList, c', rev_items rv hacc, by simpa using hS⟩, rfl, q _ (I1.hok.fresh hle)⟩
end L2
end
section
set_option Elab.async false
set_option linter.all false
set_option maxRecDepth 100000
set_option maxHeartbeats 2000000
namespace Sh
open PySem PySem.Spec PyProof.Rows L2
open PySem.W (Codec)
noncomputable def sel (k : Nat) (e : Elm) : Int := match k with
  | 0 => e.one
  | 1 => e.two
  | _ => e.thr
noncomputable def lev (k : Nat) (es : List Elm) : List Int := (es.map (sel k)).filter fun z => decide (z ≠ 0)
noncomputable def levs (es : List Elm) : List (List Int) := [lev 0 es, lev 1 es, lev 2 es]
theorem lev_append (k : Nat) (a b : List Elm) : lev k (a ++ b) = lev k a ++ lev k b := by
  unfold lev
  rw [List.map_append, List.filter_append]
theorem lev_len (k : Nat) (es : List Elm) : (lev k es).length ≤ es.length := by
  unfold lev
  have := List.length_filter_le (fun z => decide (z ≠ 0)) (es.map (sel k))
  rw [List.length_map] at this
  exact this
noncomputable def LLs (H : Hp) (l : Addr) (as : List Addr) (ls : List (List Int)) : Prop := H l = some (.lst (as.map V.ref)) ∧ Paired (fun p ns => H p = some (.lst (ns.map V.int))) as ls
theorem LLs.q {K : PySem.W.Frag} {H : Hp} {l : Addr} {as : List Addr} {ls : List (List Int)} (h : LLs H l as ls) : LLq K H l ls := ⟨as, SqL.of h.1, Paired.mapP h.2 fun _ _ e => SqL.of e⟩
theorem LLs.same {H H' : Hp} {l : Addr} {as : List Addr} {ls : List (List Int)} (h : LLs H l as ls) (s : Same H H') : LLs H' l as ls := ⟨s _ _ h.1, Paired.mapP h.2 fun _ _ e => s _ _ e⟩
theorem LLq.same {K : PySem.W.Frag} {H H' : Hp} {l : Addr} {ls : List (List Int)} (h : LLq K H l ls) (s : Same H H') : LLq K H' l ls := by
  obtain ⟨as, h1, h2⟩ := h
  exact ⟨as, s.seq h1, Paired.mapP h2 fun _ _ e => s.seq e⟩
theorem ElmsAt.same {H H' : Hp} {l : Addr} {es : List Elm} (h : ElmsAt H l es) (s : Same H H') : ElmsAt H' l es := by
  obtain ⟨as, h1, h2⟩ := h
  exact ⟨as, s _ _ h1, h2.keep fun b xs e => s _ _ e⟩
theorem pr_get {α β : Type} {F : α → β → Prop} : ∀ {l : List α} {m : List β} {i : Nat} {a : α}, Paired F l m → l[i]? = some a → ∃ b, m[i]? = some b ∧ F a b
  | _, _, 0, a, .cons r t, h => by
    have e := Option.some.inj h
    subst e
    exact ⟨_, rfl, r⟩
  | _, _, i + 1, a, .cons r t, h => pr_get (i := i) t h
  | _, _, i, a, .nil, h => by simp at h
theorem get_refs {as : List Addr} {i : Nat} {y : V} (h : (as.map V.ref)[i]? = some y) : ∃ p, as[i]? = some p ∧ y = V.ref p := by
  rw [List.getElem?_map] at h
  obtain ⟨z, hz, e⟩ := Option.map_eq_some_iff.mp h
  exact ⟨z, hz, e.symm⟩
theorem at_sel {k : Nat} (hk : k < 3) (e : Elm) : atI [V.int e.one, V.int e.two, V.int e.thr] (k : Int) = some (V.int (sel k e)) := by
  match k, hk with
  | 0, _ => rfl
  | 1, _ => rfl
  | 2, _ => rfl
theorem three_of {α β : Type} {F : α → β → Prop} {as : List α} {x y z : β} (h : Paired F as [x, y, z]) : ∃ a b c, as = [a, b, c] ∧ F a x ∧ F b y ∧ F c z := by
  cases h with
  | cons r0 t0 =>
    cases t0 with
    | cons r1 t1 =>
      cases t1 with
      | cons r2 t2 =>
        cases t2
        exact ⟨_, _, _, rfl, r0, r1, r2⟩
section
variable {P : Program} {w : World} {K : PySem.W.Frag} {mg : Str → Option Value} {base : Heap} {D : Adr}
noncomputable def spLev : Sp := fun vs H Q _ => ∃ (a : Addr) (es : List Elm) (k : Nat), vs = [.ref a, .int k] ∧ ElmsAt H a es ∧ es.length ≤ 1000 ∧ k < 3 ∧
  ∀ H' l, Same H H' → H l = none → H' l = some (.lst ((lev k es).map V.int)) → Q (.ref l) H'
theorem scLev : FnScope ["threes", "which", "weights"] ["threes", "which"] (defScope sLev) := ⟨rfl, rfl, rfl, by decide +kernel, rfl, by decide +kernel, by decide +kernel⟩
theorem ok_lev (T : Txt K mg D) : FnOk P w K mg base CX0 1 D.lev D.levD ["threes", "which"] spLev := by
  refine T.fLev.ok scLev (fun vs H Q E h => ?_) (fun cdv A outer s H vs Q E hr h => ?_)
  · obtain ⟨a, es, k, rfl, _⟩ := h
    rfl
  · obtain ⟨a, es, k, rfl, ⟨as, ha, ht⟩, hlen, hk, kk⟩ := h
    refine ⟨_, pss_one (ps_ret (pe_lc (own := [("weights", 2)]) rfl scLev.nd (pi_list (pv 0)) (blkOk_by (by show blkC ["threes", "which", "weights"] (defScope sLev) _ _ = true; decide +kernel))
        (fun _ _ _ _ _ => pg_name (i := 2) scLev.nd rfl (Or.inl rfl)) (fun _ _ _ _ _ => pts_one (pt_cmpR op_ne (pe_ix (r := rIxT K) ix_tup (pv 2) (pv 1) (fun _ _ => rfl)) pe_int (nomark _)))
        (fun _ _ _ _ _ => pe_ix (r := rIxT K) ix_tup (pv 2) (pv 1) (fun _ _ => rfl)))), ?_⟩
    try dsimp only [cxOf, Cx.nox]
    refine ⟨_, rfl, a, rfl, ⟨_, SqL.of ha⟩, fun D hD => ?_⟩
    have s1 : Same H (upd H D (.lst [])) := Same.upd_new hD
    refine lc_list (K := K) (a := a) (xs := as.map V.ref) (fun i H' => H' D = some (.lst ((lev k (es.take i)).map V.int)) ∧ Same H H') ⟨upd_same, s1⟩ (fun i H' _ h => h.2.seq (SqL.of ha)) ?_ ?_
    · rintro i x H' hi ⟨hd, hs⟩
      obtain ⟨p, hp, rfl⟩ := get_refs hi
      obtain ⟨e, he, htp⟩ := pr_get ht hp
      have ht' := SqT.of (K := K) (hs _ _ htp)
      have hat := at_sel hk e
      refine ⟨rfl, _, rfl, _, rfl, p, _, _, _, rfl, rfl, ht', hat, rfl, _, rfl, ?_⟩
      have et := take_snoc he
      by_cases hz : sel k e = 0
      · rw [hz]
        refine iteF ⟨?_, hs⟩
        rw [hd, et, lev_append]
        unfold lev
        rw [List.map_cons, List.map_nil, hz]
        simp
      · have e1 : (!decide (V.int (sel k e) = V.int 0)) = true := by
          rw [decide_eq_false (fun z => hz (V.int.inj z))]
          rfl
        rw [e1]
        refine iteT ⟨_, rfl, _, rfl, p, _, _, _, rfl, rfl, ht', hat, _, hd, ?_, ?_, ?_⟩
        · rw [List.length_map]
          have := lev_len k (es.take i)
          rw [List.length_take] at this
          exact small1000 (by omega)
        · rw [upd_same, et, lev_append, List.map_append]
          have e2 : lev k [e] = [sel k e] := by
            unfold lev
            rw [List.map_cons, List.map_nil]
            simp [hz]
          rw [e2]
          rfl
        · intro b o eb
          rw [upd_ne (ne_of_none eb hD)]
          exact hs b o eb
    · rintro H' ⟨hd, hs⟩
      have el : as.length = es.length := Paired.length ht
      rw [List.length_map, el, List.take_length] at hd
      exact kk H' D hs hD hd
theorem bLev (T : Txt K mg D) : Binds K D.levD ["threes", "which"] [] := T.fLev.binds fun _ _ _ _ _ _ => bind2 fun _ _ => rfl
noncomputable def spStand : Sp := fun vs H Q _ => ∃ (a : Addr) (es : List Elm), vs = [.ref a] ∧ ElmsAt H a es ∧ es.length ≤ 1000 ∧
  ∀ H' l as, Same H H' → H l = none → LLs H' l as (levs es) → (∀ p ∈ as, H p = none ∧ p ≠ l) → Q (.ref l) H'
theorem scStand : FnScope ["threes"] ["threes"] (defScope sStand) := ⟨rfl, rfl, rfl, by decide +kernel, rfl, by decide +kernel, by decide +kernel⟩
theorem ok_stand (T : Txt K mg D) : FnOk P w K mg base CX0 2 D.stand D.standD ["threes"] spStand := by
  refine T.fStand.ok scStand (fun vs H Q E h => ?_) (fun cdv A outer s H vs Q E hr h => ?_)
  · obtain ⟨a, es, rfl, _⟩ := h
    rfl
  · obtain ⟨a, es, rfl, hE, hlen, kk⟩ := h
    refine ⟨_, pss_one (ps_ret (pe_lst (pa_cons (pe_call (ok_lev T) hr (by rfl) T.mLev T.fLev.kp (bLev T) .nil pass0 (pa_cons (pv 0) (pa_cons (pgi T.gF1) pa_nil)))
      (pa_cons (pe_call (ok_lev T) hr (by rfl) T.mLev T.fLev.kp (bLev T) .nil pass0 (pa_cons (pv 0) (pa_cons (pgi T.gF2) pa_nil)))
      (pa_cons (pe_call (ok_lev T) hr (by rfl) T.mLev T.fLev.kp (bLev T) .nil pass0 (pa_cons (pv 0) (pa_cons (pgi T.gF3) pa_nil))) pa_nil))))), ?_⟩
    try dsimp only [cxOf, Cx.nox]
    refine ⟨_, rfl, a, es, 0, rfl, hE, hlen, by decide, fun H1 l1 s1 n1 h1 => ?_⟩
    refine ⟨_, rfl, a, es, 1, rfl, hE.same s1, hlen, by decide, fun H2 l2 s2 n2 h2 => ?_⟩
    refine ⟨_, rfl, a, es, 2, rfl, hE.same (s1.trans s2), hlen, by decide, fun H3 l3 s3 n3 h3 => ?_⟩
    refine ⟨(by show 3 ≤ sizeLine; decide), fun l hl => ?_⟩
    have s4 : Same H3 (upd H3 l (.lst [V.ref l1, V.ref l2, V.ref l3])) := Same.upd_new hl
    have s12 := s1.trans s2
    have g1 := (s2.trans s3) _ _ h1
    have g2 := s3 _ _ h2
    refine kk _ l [l1, l2, l3] ((s12.trans s3).trans s4) ((s12.trans s3).free hl) ⟨upd_same, .cons (s4 _ _ g1) (.cons (s4 _ _ g2) (.cons (s4 _ _ h3) .nil))⟩ ?_
    intro p hp
    have c : p = l1 ∨ p = l2 ∨ p = l3 := by simpa using hp
    rcases c with rfl | rfl | rfl
    · exact ⟨n1, ne_of_none g1 hl⟩
    · exact ⟨s1.free n2, ne_of_none g2 hl⟩
    · exact ⟨s12.free n3, ne_of_none h3 hl⟩
theorem bStand (T : Txt K mg D) : Binds K D.standD ["threes"] [] := T.fStand.binds fun _ _ _ _ _ _ => bind1 fun _ => rfl
noncomputable def levsO (o : Int) (es : List Elm) : List (List Int) := [lev 0 es, if o = 1 then (lev 1 es).reverse else lev 1 es, lev 2 es]
noncomputable def spOpts : Sp := fun vs H Q _ => ∃ (a : Addr) (es : List Elm) (o : Int), vs = [.ref a, .int o] ∧ ElmsAt H a es ∧ es.length ≤ 1000 ∧
  ∀ H' l as, Same H H' → H l = none → LLs H' l as (levsO o es) → Q (.ref l) H'
theorem scOpts : FnScope ["threes", "options", "levels"] ["threes", "options"] (defScope sOpts) := ⟨rfl, rfl, rfl, by decide +kernel, rfl, by decide +kernel, by decide +kernel⟩
theorem ok_opts (T : Txt K mg D) : FnOk P w K mg base CX0 3 D.opts D.optsD ["threes", "options"] spOpts := by
  refine T.fOpts.ok scOpts (fun vs H Q E h => ?_) (fun cdv A outer s H vs Q E hr h => ?_)
  · obtain ⟨a, es, o, rfl, _⟩ := h
    rfl
  · obtain ⟨a, es, o, rfl, hE, hlen, kk⟩ := h
    refine ⟨_, pss_cons (ps_set (i := 2) scOpts.nd rfl (Or.inl rfl) (pe_call (ok_stand T) hr (by rfl) T.mStand T.fStand.kp (bStand T) .nil pass0 (pa_cons (pv 0) pa_nil)))
      (pss_cons (ps_if (pt_cmpR op_eq (pv 1) (pgi T.gFE) (nomark _))
        (pss_one (ps_asg (pe_listrev rfl (by rfl) T.blist (by rfl) T.breversed (pa_cons (pe_ix ix_list (pv 2) (pgi T.gF2) (fun _ _ => rfl)) pa_nil)) (pg_sub (pv 2) (pgi T.gF2) set_list))) pss_nil)
      (pss_one (ps_ret (pv 2)))), ?_⟩
    try dsimp only [cxOf, Cx.nox]
    refine ⟨_, rfl, a, es, rfl, hE, hlen, fun H1 l as s1 n1 hL hap => ?_⟩
    obtain ⟨hl, hps⟩ := hL
    obtain ⟨p0, p1, p2, rfl, q0, q1, q2⟩ := three_of hps
    refine ⟨_, rfl, rfl, _, rfl, ?_⟩
    by_cases ho : o = 1
    · subst ho
      refine iteT ?_
      refine ⟨_, rfl, l, _, _, _, rfl, rfl, SqL.of hl, at_of (j := 1) rfl rfl, p1, _, rfl, SqL.of q1, fun r hr1 => ?_⟩
      have s2 : Same H1 (upd H1 r (.lst ((lev 1 es).map V.int).reverse)) := Same.upd_new hr1
      refine ⟨_, rfl, l, _, _, 1, rfl, rfl, s2 _ _ hl, rfl, ?_⟩
      refine ⟨_, rfl, ?_⟩
      have nl : ∀ p, p ∈ [p0, p1, p2] → p ≠ l := fun p hp => (hap p hp).2
      have rl : r ≠ l := Ne.symm (ne_of_none hl hr1)
      refine kk _ l [p0, r, p2] (fun b ob e => ?_) n1 ⟨upd_same, .cons ?_ (.cons ?_ (.cons ?_ .nil))⟩
      · rw [upd_ne (ne_of_none e n1)]
        exact s2 _ _ (s1 _ _ e)
      · rw [upd_ne (nl p0 (by simp))]
        exact s2 _ _ q0
      · rw [upd_ne rl, upd_same, if_pos rfl, List.map_reverse]
      · rw [upd_ne (nl p2 (by simp))]
        exact s2 _ _ q2
    · rw [decide_eq_false (fun z => ho (V.int.inj z))]
      refine iteF ?_
      refine ⟨_, rfl, ?_⟩
      refine kk H1 l [p0, p1, p2] s1 n1 ⟨hl, .cons q0 (.cons ?_ (.cons q2 .nil))⟩
      rw [if_neg ho]
      exact q1
theorem bOpts (T : Txt K mg D) : Binds K D.optsD ["threes", "options"] [] := T.fOpts.binds fun _ _ _ _ _ _ => bind2 fun _ _ => rfl
noncomputable def ordN (a b : List (List Int)) : Int := if a = b then 0 else if lexLL a b = true then 1 else 2
noncomputable def spOrd (K : PySem.W.Frag) : Sp := fun vs H Q _ => ∃ (a b : Addr) (ls ms : List (List Int)), vs = [.ref a, .ref b] ∧ LLq K H a ls ∧ LLq K H b ms ∧ Q (.int (ordN ls ms)) H
theorem scOrd : FnScope ["a", "b"] ["a", "b"] (defScope sOrd) := ⟨rfl, rfl, rfl, by decide +kernel, rfl, by decide +kernel, by decide +kernel⟩
theorem ok_ord (T : Txt K mg D) : FnOk P w K mg base CX0 1 D.ord D.ordD ["a", "b"] (spOrd K) := by
  refine T.fOrd.ok scOrd (fun vs H Q E h => ?_) (fun cdv A outer s H vs Q E hr h => ?_)
  · obtain ⟨a, b, ls, ms, rfl, _⟩ := h
    rfl
  · obtain ⟨a, b, ls, ms, rfl, hA, hB, kk⟩ := h
    have hu := hr.units
    refine ⟨_, pss_cons (ps_if (pt_cmpR (op_eqLL hu) (pv 0) (pv 1) (nomark _)) (pss_one (ps_ret (pgi T.gEQ))) pss_nil)
      (pss_cons (ps_if (pt_cmpR (op_ltLL hu) (pv 0) (pv 1) (nomark _)) (pss_one (ps_ret (pgi T.gBE))) pss_nil)
      (pss_one (ps_ret (pgi T.gBH)))), ?_⟩
    try dsimp only [cxOf, Cx.nox]
    unfold ordN at kk
    refine ⟨_, rfl, _, rfl, a, b, ls, ms, rfl, rfl, hA, hB, _, rfl, ?_⟩
    by_cases h1 : ls = ms
    · rw [decide_eq_true h1]
      rw [if_pos h1] at kk
      exact iteT kk
    · rw [decide_eq_false h1]
      rw [if_neg h1] at kk
      refine iteF ?_
      refine ⟨_, rfl, _, rfl, a, b, ls, ms, rfl, rfl, hA, hB, _, rfl, ?_⟩
      cases h2 : lexLL ls ms with
      | true =>
        rw [if_pos h2] at kk
        exact iteT kk
      | false =>
        rw [if_neg (by rw [h2]; decide)] at kk
        exact iteF kk
theorem bOrd (T : Txt K mg D) : Binds K D.ordD ["a", "b"] [] := T.fOrd.binds fun _ _ _ _ _ _ => bind2 fun _ _ => rfl
end
end Sh
end
section
set_option Elab.async false
set_option linter.all false
set_option maxRecDepth 100000
set_option maxHeartbeats 2000000
namespace Sh
open PySem PySem.Spec PyProof.Rows L2
open PySem.W (Codec)
theorem cut_from (ns : List Int) (n : Nat) : cutV (ns.map V.int) (some (n : Int)) none = (ns.drop n).map V.int := by
  unfold cutV
  rw [HT.sIx_nat, HT.sIx_none, List.length_map, ← List.map_drop, ← List.map_take]
  congr 1
  by_cases h : n ≤ ns.length
  · rw [Nat.min_eq_left h]
    exact List.take_of_length_le (by rw [List.length_drop]; omega)
  · rw [Nat.min_eq_right (by omega), List.drop_eq_nil_of_le (Nat.le_refl _), List.drop_eq_nil_of_le (by omega)]
    exact List.take_nil
theorem cut_to (xs : List V) {n : Nat} (h : n ≤ xs.length) : cutV xs none (some (n : Int)) = xs.take n := by
  unfold cutV
  rw [HT.sIx_nat, HT.sIx_none, Nat.min_eq_left h]
  rfl
theorem pe_lenK {X : Cx} {e : Expr} {te : TE} {p pos : Pos} (K : PySem.W.Frag) (hK : X.K = K) (hm : X.mg "len" = none) (he : PE X e te) (hg : Gl X "len" := by rfl) (hs : starEach [e] X.env = (false, eval e X.env) :: starEach [] X.env := by rfl) :
    PE X (.Call (.Name "len" p) [e] [] pos) (tCB (fun xs H Q => ∃ p ys, xs = [.ref p] ∧ (SqL K H p ys ∨ SqT K H p ys) ∧ Q (.int ys.length) H) (tCons te tNil)) := by
  subst hK
  exact pe_len hm he hg hs
noncomputable def betw (fs ls : List (List Int)) (n : Nat) : List (List Int) := (List.range n).map fun k => (ls.getD k []).drop (fs.getD k []).length
theorem LLq.item {K : PySem.W.Frag} {H : Hp} {a : Addr} {ls : List (List Int)} (h : LLq K H a ls) {i : Nat} (hi : i < ls.length) : ∃ (xs : List V) (p : Addr), SqL K H a xs ∧ atI xs (i : Int) = some (V.ref p) ∧ SqL K H p ((ls.getD i []).map V.int) := by
  obtain ⟨as, h1, h2⟩ := h
  have e : as.length = ls.length := Paired.length h2
  have hi' : i < as.length := by omega
  refine ⟨_, as[i], h1, atI_nat ?_, ?_⟩
  · rw [List.getElem?_map, List.getElem?_eq_getElem hi']
    rfl
  · have q := L2.Paired.at h2 i 0 [] hi'
    have e2 : as.getD i 0 = as[i] := by simp [hi']
    rw [e2] at q
    exact q
theorem pr_mem {α β : Type} {F G : α → β → Prop} : ∀ {l : List α} {m : List β}, Paired F l m → (∀ a b, a ∈ l → F a b → G a b) → Paired G l m
  | _, _, .nil, _ => .nil
  | _, _, .cons r t, f => .cons (f _ _ (by simp) r) (pr_mem t fun a b hm h => f a b (by simp [hm]) h)
theorem three_at3 {α β : Type} {F : α → β → Prop} {a b c : α} {x y z : β} (h : Paired F [a, b, c] [x, y, z]) : F a x ∧ F b y ∧ F c z := by
  cases h with
  | cons r0 t0 =>
    cases t0 with
    | cons r1 t1 =>
      cases t1 with
      | cons r2 t2 => exact ⟨r0, r1, r2⟩
section
variable {P : Program} {w : World} {K : PySem.W.Frag} {mg : Str → Option Value} {base : Heap} {D : Adr}
noncomputable def spBetw (K : PySem.W.Frag) : Sp := fun vs H Q _ => ∃ (a b c : Addr) (fs ls ws : List (List Int)), vs = [.ref a, .ref b, .ref c] ∧ LLq K H a fs ∧ LLq K H b ls ∧ LLq K H c ws ∧ ws.length ≤ 3 ∧ ws.length ≤ fs.length ∧ ws.length ≤ ls.length ∧
  ∀ H', Same H H' → Q (.bl (decide (betw fs ls ws.length = ws))) H'
theorem scBetw : FnScope ["before_first", "before_last", "wanted", "behind_first", "k"] ["before_first", "before_last", "wanted"] (defScope sBetw) := ⟨rfl, rfl, rfl, by decide +kernel, rfl, by decide +kernel, by decide +kernel⟩
theorem ok_betw (T : Txt K mg D) : FnOk P w K mg base CX0 1 D.betw D.betwD ["before_first", "before_last", "wanted"] (spBetw K) := by
  refine T.fBetw.ok scBetw (fun vs H Q E h => ?_) (fun cdv A outer s H vs Q E hr h => ?_)
  · obtain ⟨a, b, c, fs, ls, ws, rfl, _⟩ := h
    rfl
  · obtain ⟨a, b, c, fs, ls, ws, rfl, hA, hB, hC, h3, h1, h2, kk⟩ := h
    have hu := hr.units
    obtain ⟨cs, hC1, hC2⟩ := id hC
    have ecl : cs.length = ws.length := Paired.length hC2
    refine ⟨_, pss_cons (ps_setLc (i := 3) (own := [("k", 4)]) rfl scBetw.nd rfl rfl (sw_true rfl rfl rfl (by decide +kernel)) (pi_range1 (by rfl) T.brange (pa_cons (pe_len T.blen (pv 2)) pa_nil))
        (blkOk_by (by show blkC ["before_first", "before_last", "wanted", "behind_first", "k"] (defScope sBetw) _ _ = true; decide +kernel))
        (fun _ _ _ _ _ => pg_name (i := 4) scBetw.nd rfl (Or.inl rfl)) (fun _ _ _ _ _ => pts_nil)
        (fun _ _ _ _ _ => pe_slice (r := rSlL K) sl_list (pe_ix (r := rIxL K) ix_list (pv 1) (pv 4) (fun _ _ => rfl)) (po_some (pe_lenK K rfl T.blen (pe_ix (r := rIxL K) ix_list (pv 0) (pv 4) (fun _ _ => rfl)))) po_none))
      (pss_one (ps_ret (pe_cmpR (op_eqLL hu) (pv 3) (pv 2) (nomark _)))), ?_⟩
    try dsimp only [cxOf, Cx.nox]
    refine ⟨_, rfl, c, _, rfl, .inl hC1, (ws.length : Int), ?_, ?_, ?_, fun Dd hD => ?_⟩
    · rw [List.length_map, ecl]
    · have : (-(2 ^ 62) : Int) ≤ 0 := by decide
      omega
    · have : (3 : Int) < 2 ^ 62 := by decide
      omega
    have s1 : Same H (upd H Dd (.lst [])) := Same.upd_new hD
    refine lc_range (fun i H' => ∃ as : List Addr, LLs H' Dd as (betw fs ls i) ∧ as.length = i ∧ Same H H') ⟨[], ⟨upd_same, .nil⟩, rfl, s1⟩ ?_ ?_
    · rintro i H' hi ⟨as, ⟨hd, hp⟩, hl, hs⟩
      have hi : i < ws.length := by omega
      obtain ⟨xa, pa, a1, a2, a3⟩ := LLq.item (LLq.same hA hs) (i := i) (by omega)
      obtain ⟨xb, pb, b1, b2, b3⟩ := LLq.item (LLq.same hB hs) (i := i) (by omega)
      have e0 : (0 : Int) + ((i : Nat) : Int) = (i : Int) := by omega
      rw [e0]
      refine ⟨rfl, _, rfl, _, rfl, b, _, _, _, rfl, rfl, b1, b2, _, rfl, _, rfl, a, _, _, _, rfl, rfl, a1, a2, pa, _, rfl, .inl a3, _, rfl, pb, _, rfl, b3, fun q hq => ?_⟩
      rw [List.length_map, cut_from]
      have s2 : Same H' (upd H' q (.lst (((ls.getD i []).drop (fs.getD i []).length).map V.int))) := Same.upd_new hq
      refine ⟨_, s2 _ _ hd, ?_, ?_⟩
      · rw [List.length_map]
        exact small1000 (by omega)
      · have qD : q ≠ Dd := Ne.symm (ne_of_none hd hq)
        refine ⟨as ++ [q], ⟨?_, ?_⟩, by rw [List.length_append]; show as.length + 1 = _; omega, fun bb o e => ?_⟩
        · rw [upd_same, List.map_append]
          rfl
        · have eb : betw fs ls (i + 1) = betw fs ls i ++ [(ls.getD i []).drop (fs.getD i []).length] := by
            unfold betw
            rw [List.range_succ, List.map_append]
            rfl
          rw [eb]
          refine Paired.snoc (pr_mem hp fun p ns hm e => ?_) ?_
          · have pd : p ≠ Dd := fun z => by
              subst z
              rw [hd] at e
              have e := Option.some.inj e
              injection e with e
              cases as with
              | nil => simp at hm
              | cons x r =>
                cases ns with
                | nil => simp at e
                | cons y t =>
                  rw [List.map_cons, List.map_cons] at e
                  injection e with e _
                  cases e
            rw [upd_ne pd]
            exact s2 _ _ e
          · rw [upd_ne qD]
            exact upd_same
        · rw [upd_ne (ne_of_none e hD)]
          exact s2 _ _ (hs _ _ e)
    · rintro H' ⟨as, hL, hl, hs⟩
      have en : ((ws.length : Int)).toNat = ws.length := by omega
      rw [en] at hL
      refine ⟨_, rfl, _, rfl, Dd, c, _, _, rfl, rfl, hL.q, LLq.same hC hs, kk H' hs⟩
theorem bBetw (T : Txt K mg D) : Binds K D.betwD ["before_first", "before_last", "wanted"] [] := T.fBetw.binds fun _ _ _ _ _ _ => bind3 fun _ _ _ => rfl
noncomputable def tri (z : Int) : List Int := [z / 65536, z / 256 % 256, z % 256]
noncomputable def inB (ns : List Int) : List Int := ns.flatMap tri
theorem inB_append (a b : List Int) : inB (a ++ b) = inB a ++ inB b := List.flatMap_append
theorem inB_len : ∀ ns : List Int, (inB ns).length = 3 * ns.length
  | [] => rfl
  | a :: l => by
    have e : inB (a :: l) = tri a ++ inB l := List.flatMap_cons
    rw [e, List.length_append, inB_len l, List.length_cons]
    show 3 + _ = _
    omega
noncomputable def spInb (K : PySem.W.Frag) : Sp := fun vs H Q _ => ∃ (a : Addr) (ns : List Int), vs = [.ref a] ∧ SqL K H a (ns.map V.int) ∧ ns.length ≤ 1000 ∧
  ∀ H' l, Same H H' → H l = none → H' l = some (.lst ((inB ns).map V.int)) → Q (.ref l) H'
theorem scInb : FnScope ["weights", "written", "weight"] ["weights"] (defScope sInb) := ⟨rfl, rfl, rfl, by decide +kernel, rfl, by decide +kernel, by decide +kernel⟩
theorem ok_inb (T : Txt K mg D) : FnOk P w K mg base CX0 1 D.inb D.inbD ["weights"] (spInb K) := by
  refine T.fInb.ok scInb (fun vs H Q E h => ?_) (fun cdv A outer s H vs Q E hr h => ?_)
  · obtain ⟨a, ns, rfl, _⟩ := h
    rfl
  · obtain ⟨a, ns, rfl, hS, hlen, kk⟩ := h
    refine ⟨_, pss_cons (ps_set (i := 1) scInb.nd rfl (Or.inl rfl) (pe_lst pa_nil))
      (pss_cons (ps_for PassesOwn.never rfl (pi_list (pv 0)) (pg_name (i := 2) scInb.nd rfl (Or.inl rfl))
        (pss_one (ps_expr (pe_bm PySem.F.plainAttrs_list PySem.F.slot_list_extend PySem.F.type_list_extend mt_extend (pv 1)
          (pa_cons (pe_lst (pa_cons (pe_op op_fdiv (pv 2) pe_int) (pa_cons (pe_op op_mod (pe_op op_fdiv (pv 2) pe_int) pe_int) (pa_cons (pe_op op_mod (pv 2) pe_int) pa_nil)))) pa_nil)))))
      (pss_one (ps_ret (pv 1)))), ?_⟩
    try dsimp only [cxOf, Cx.nox]
    refine ⟨Nat.zero_le _, fun wr hw => ?_⟩
    have s1 : Same H (upd H wr (.lst [])) := Same.upd_new hw
    have hap := seq_apart hS hw
    refine ⟨_, rfl, a, rfl, ⟨_, s1.seq hS⟩, ?_⟩
    refine for_list (K := K) (a := a) (xs := ns.map V.int) (fun i σ H' => ∃ v : Option V, σ = [some (.ref a), some (.ref wr), v] ∧ H' wr = some (.lst ((inB (ns.take i)).map V.int)) ∧ Same H H') ⟨none, rfl, upd_same, s1⟩ (fun i σ H' _ h => let ⟨_, _, _, hs⟩ := h; hs.seq hS) ?_ ?_
    · rintro i x σ H' hi ⟨v, rfl, hd, hs⟩
      obtain ⟨z, hz, rfl⟩ := get_ints hi
      have hi' : i < ns.length := (List.getElem?_eq_some_iff.mp hz).1
      refine ⟨_, rfl, .inl ⟨rfl, _, SqL.of hd⟩, _, rfl, _, _, rfl, rfl, ⟨by decide, by decide⟩, _, rfl, _, _, rfl, rfl, ⟨by decide, by decide⟩, _, _, rfl, rfl, (by show (0 : Int) < 256; decide), _, rfl, _, _, rfl, rfl, (by show (0 : Int) < 256; decide), (by show 3 ≤ sizeLine; decide), fun q hq => ?_⟩
      have s2 : Same H' (upd H' q (.lst [V.int (z / 65536), V.int (z / 256 % 256), V.int (z % 256)])) := Same.upd_new hq
      have hwq : wr ≠ q := ne_of_none hd hq
      have hlt : (inB (ns.take i)).length ≤ 3000 := by
        rw [inB_len, List.length_take]
        omega
      refine ⟨wr, q, _, _, rfl, rfl, s2 _ _ hd, upd_same, ?_, ?_⟩
      · rw [List.length_map]
        show _ + 3 ≤ sizeLine
        have : sizeLine = 16777216 := sizeLine_eq
        omega
      · refine ⟨_, rfl, ?_, fun b o e => ?_⟩
        · rw [upd_same, take_snoc hz, inB_append, List.map_append]
          rfl
        · rw [upd_ne (ne_of_none e hw)]
          exact s2 _ _ (hs _ _ e)
    · rintro σ H' ⟨v, rfl, hd, hs⟩
      rw [List.length_map, List.take_length] at hd
      exact ⟨_, rfl, kk H' wr hs hw hd⟩
theorem bInb (T : Txt K mg D) : Binds K D.inbD ["weights"] [] := T.fInb.binds fun _ _ _ _ _ _ => bind1 fun _ => rfl
noncomputable def spKeyOf : Sp := fun vs H Q _ => ∃ (l p0 p1 p2 : Addr) (l0 l1 l2 : List Int), vs = [.ref l] ∧ LLs H l [p0, p1, p2] [l0, l1, l2] ∧ l0.length ≤ 300 ∧ l1.length ≤ 300 ∧ l2.length ≤ 300 ∧
  ∀ H' r, Same H H' → H r = none → H' r = some (.lst ((inB (l0 ++ [0] ++ l1 ++ [0] ++ l2)).map V.int)) → Q (.ref r) H'
theorem scKeyOf : FnScope ["levels"] ["levels"] (defScope sKeyOf) := ⟨rfl, rfl, rfl, by decide +kernel, rfl, by decide +kernel, by decide +kernel⟩
theorem ok_keyOf (T : Txt K mg D) : FnOk P w K mg base CX0 2 D.keyOf D.keyOfD ["levels"] spKeyOf := by
  refine T.fKeyOf.ok scKeyOf (fun vs H Q E h => ?_) (fun cdv A outer s H vs Q E hr h => ?_)
  · obtain ⟨l, p0, p1, p2, l0, l1, l2, rfl, _⟩ := h
    rfl
  · obtain ⟨l, p0, p1, p2, l0, l1, l2, rfl, ⟨hl, hp⟩, b0, b1, b2, kk⟩ := h
    obtain ⟨q0, q1, q2⟩ := three_at3 hp
    have hsz : sizeLine = 16777216 := sizeLine_eq
    refine ⟨_, pss_one (ps_ret (pe_call (ok_inb T) hr (by rfl) T.mInb T.fInb.kp (bInb T) .nil pass0 (pa_cons
      (pe_op op_cat (pe_op op_cat (pe_op op_cat (pe_op op_cat (pe_ix ix_list (pv 0) (pgi T.gF1) (fun _ _ => rfl)) (pe_lst (pa_cons pe_int pa_nil))) (pe_ix ix_list (pv 0) (pgi T.gF2) (fun _ _ => rfl))) (pe_lst (pa_cons pe_int pa_nil))) (pe_ix ix_list (pv 0) (pgi T.gF3) (fun _ _ => rfl))) pa_nil))), ?_⟩
    try dsimp only [cxOf, Cx.nox]
    refine ⟨_, rfl, l, _, _, _, rfl, rfl, SqL.of hl, at_of (j := 0) rfl rfl, (by show 1 ≤ sizeLine; decide), fun c hc => ?_⟩
    have s1 : Same H (upd H c (.lst [V.int 0])) := Same.upd_new hc
    refine ⟨p0, c, _, _, rfl, rfl, s1 _ _ q0, upd_same, (by rw [List.length_map]; show _ + 1 ≤ sizeLine; omega), fun d1 hd1 => ?_⟩
    have s2 := s1.trans (Same.upd_new (o := .lst (l0.map V.int ++ [V.int 0])) hd1)
    refine ⟨_, rfl, l, _, _, _, rfl, rfl, SqL.of (s2 _ _ hl), at_of (j := 1) rfl rfl, d1, p1, _, _, rfl, rfl, upd_same, s2 _ _ q1, (by rw [List.length_append, List.length_map, List.length_map]; show _ + 1 + _ ≤ sizeLine; omega), fun d2 hd2 => ?_⟩
    have s3 := s2.trans (Same.upd_new (o := .lst (l0.map V.int ++ [V.int 0] ++ l1.map V.int)) hd2)
    refine ⟨(by show 1 ≤ sizeLine; decide), fun c2 hc2 => ?_⟩
    have s4 := s3.trans (Same.upd_new (o := .lst [V.int 0]) hc2)
    have g2 := Same.upd_new (o := .lst [V.int 0]) hc2 d2 _ upd_same
    refine ⟨d2, c2, _, _, rfl, rfl, g2, upd_same, (by rw [List.length_append, List.length_append, List.length_map, List.length_map]; show _ + 1 + _ + 1 ≤ sizeLine; omega), fun d3 hd3 => ?_⟩
    have s5 := s4.trans (Same.upd_new (o := .lst (l0.map V.int ++ [V.int 0] ++ l1.map V.int ++ [V.int 0])) hd3)
    refine ⟨_, rfl, l, _, _, _, rfl, rfl, SqL.of (s5 _ _ hl), at_of (j := 2) rfl rfl, d3, p2, _, _, rfl, rfl, upd_same, s5 _ _ q2, (by rw [List.length_append, List.length_append, List.length_append, List.length_map, List.length_map, List.length_map]; show _ + 1 + _ + 1 + _ ≤ sizeLine; omega), fun d4 hd4 => ?_⟩
    have s6 := s5.trans (Same.upd_new (o := .lst (l0.map V.int ++ [V.int 0] ++ l1.map V.int ++ [V.int 0] ++ l2.map V.int)) hd4)
    refine ⟨d4, l0 ++ [0] ++ l1 ++ [0] ++ l2, rfl, SqL.of ?_, ?_, fun H' r s7 hr' hr2 => ?_⟩
    · rw [upd_same]
      simp only [List.map_append]
      rfl
    · simp only [List.length_append]
      show _ + 1 + _ + 1 + _ ≤ 1000
      omega
    · exact kk H' r (s6.trans s7) (s6.free hr') hr2
theorem bKeyOf (T : Txt K mg D) : Binds K D.keyOfD ["levels"] [] := T.fKeyOf.binds fun _ _ _ _ _ _ => bind1 fun _ => rfl
noncomputable def spLowOf : Sp := fun vs H Q _ => ∃ (l p0 p1 p2 : Addr) (l0 l1 l2 : List Int), vs = [.ref l] ∧ LLs H l [p0, p1, p2] [l0, l1, l2] ∧ l0.length ≤ 300 ∧
  ∀ H' r, Same H H' → H r = none → H' r = some (.lst ((inB l0).map V.int)) → Q (.ref r) H'
theorem scLowOf : FnScope ["levels"] ["levels"] (defScope sLowOf) := ⟨rfl, rfl, rfl, by decide +kernel, rfl, by decide +kernel, by decide +kernel⟩
theorem ok_lowOf (T : Txt K mg D) : FnOk P w K mg base CX0 2 D.lowOf D.lowOfD ["levels"] spLowOf := by
  refine T.fLowOf.ok scLowOf (fun vs H Q E h => ?_) (fun cdv A outer s H vs Q E hr h => ?_)
  · obtain ⟨l, p0, p1, p2, l0, l1, l2, rfl, _⟩ := h
    rfl
  · obtain ⟨l, p0, p1, p2, l0, l1, l2, rfl, ⟨hl, hp⟩, b0, kk⟩ := h
    obtain ⟨q0, q1, q2⟩ := three_at3 hp
    refine ⟨_, pss_one (ps_ret (pe_call (ok_inb T) hr (by rfl) T.mInb T.fInb.kp (bInb T) .nil pass0 (pa_cons (pe_ix ix_list (pv 0) (pgi T.gF1) (fun _ _ => rfl)) pa_nil))), ?_⟩
    try dsimp only [cxOf, Cx.nox]
    exact ⟨_, rfl, l, _, _, _, rfl, rfl, SqL.of hl, at_of (j := 0) rfl rfl, p0, l0, rfl, SqL.of q0, by omega, kk⟩
theorem bLowOf (T : Txt K mg D) : Binds K D.lowOfD ["levels"] [] := T.fLowOf.binds fun _ _ _ _ _ _ => bind1 fun _ => rfl
noncomputable def spHighOf : Sp := fun vs H Q _ => ∃ (l p0 p1 p2 : Addr) (l0 l1 l2 : List Int), vs = [.ref l] ∧ LLs H l [p0, p1, p2] [l0, l1, l2] ∧ l0.length ≤ 300 ∧
  ∀ H' r, Same H H' → H r = none → H' r = some (.lst ((inB l0 ++ [255, 255, 255]).map V.int)) → Q (.ref r) H'
theorem scHighOf : FnScope ["levels"] ["levels"] (defScope sHighOf) := ⟨rfl, rfl, rfl, by decide +kernel, rfl, by decide +kernel, by decide +kernel⟩
theorem ok_highOf (T : Txt K mg D) : FnOk P w K mg base CX0 3 D.highOf D.highOfD ["levels"] spHighOf := by
  refine T.fHighOf.ok scHighOf (fun vs H Q E h => ?_) (fun cdv A outer s H vs Q E hr h => ?_)
  · obtain ⟨l, p0, p1, p2, l0, l1, l2, rfl, _⟩ := h
    rfl
  · obtain ⟨l, p0, p1, p2, l0, l1, l2, rfl, hL, b0, kk⟩ := h
    have hsz : sizeLine = 16777216 := sizeLine_eq
    refine ⟨_, pss_one (ps_ret (pe_op op_cat (pe_call (ok_lowOf T) hr (by rfl) T.mLowOf T.fLowOf.kp (bLowOf T) .nil pass0 (pa_cons (pv 0) pa_nil)) (pe_lst (pa_cons pe_int (pa_cons pe_int (pa_cons pe_int pa_nil)))))), ?_⟩
    try dsimp only [cxOf, Cx.nox]
    refine ⟨_, rfl, l, p0, p1, p2, l0, l1, l2, rfl, hL, b0, fun H1 r s1 hr1 hr2 => ?_⟩
    refine ⟨(by show 3 ≤ sizeLine; decide), fun c hc => ?_⟩
    have s2 : Same H1 (upd H1 c (.lst [V.int 255, V.int 255, V.int 255])) := Same.upd_new hc
    refine ⟨r, c, _, _, rfl, rfl, s2 _ _ hr2, upd_same, (by rw [List.length_map, inB_len]; show _ + 3 ≤ sizeLine; omega), fun d hd => ?_⟩
    have s3 := (s1.trans s2).trans (Same.upd_new (o := .lst ((inB l0).map V.int ++ [V.int 255, V.int 255, V.int 255])) hd)
    refine kk _ d s3 ((s1.trans s2).free hd) ?_
    rw [upd_same, List.map_append]
    rfl
theorem bHighOf (T : Txt K mg D) : Binds K D.highOfD ["levels"] [] := T.fHighOf.binds fun _ _ _ _ _ _ => bind1 fun _ => rfl
noncomputable def spWlen : Sp := fun vs H Q _ => ∃ (a : Addr) (ns : List Int), vs = [.ref a] ∧ H a = some (.lst (ns.map V.int)) ∧ ns.length ≤ 10000 ∧
  ∀ H' r, Same H H' → H r = none → H' r = some (.lst (((ns.length : Int) :: ns).map V.int)) → Q (.ref r) H'
theorem scWlen : FnScope ["numbers"] ["numbers"] (defScope sWlen) := ⟨rfl, rfl, rfl, by decide +kernel, rfl, by decide +kernel, by decide +kernel⟩
theorem ok_wlen (T : Txt K mg D) : FnOk P w K mg base CX0 1 D.wlen D.wlenD ["numbers"] spWlen := by
  refine T.fWlen.ok scWlen (fun vs H Q E h => ?_) (fun cdv A outer s H vs Q E hr h => ?_)
  · obtain ⟨a, ns, rfl, _⟩ := h
    rfl
  · obtain ⟨a, ns, rfl, ha, hlen, kk⟩ := h
    have hsz : sizeLine = 16777216 := sizeLine_eq
    refine ⟨_, pss_one (ps_ret (pe_op op_cat (pe_lst (pa_cons (pe_len T.blen (pv 0)) pa_nil)) (pv 0))), ?_⟩
    try dsimp only [cxOf, Cx.nox]
    refine ⟨_, rfl, a, _, rfl, .inl (SqL.of ha), (by show 1 ≤ sizeLine; decide), fun c hc => ?_⟩
    have s1 : Same H (upd H c (.lst [V.int ((ns.map V.int).length : Int)])) := Same.upd_new hc
    refine ⟨_, rfl, c, a, _, _, rfl, rfl, upd_same, s1 _ _ ha, (by rw [List.length_map]; show 1 + _ ≤ sizeLine; omega), fun d hd => ?_⟩
    refine kk _ d (s1.trans (Same.upd_new hd)) (s1.free hd) ?_
    rw [upd_same, List.length_map]
    rfl
theorem bWlen (T : Txt K mg D) : Binds K D.wlenD ["numbers"] [] := T.fWlen.binds fun _ _ _ _ _ _ => bind1 fun _ => rfl
end
end Sh
end
section
set_option Elab.async false
set_option linter.all false
set_option maxRecDepth 100000
set_option maxHeartbeats 2000000
namespace Sh
open PySem PySem.Spec PyProof.Rows L2
theorem longest_mem {es : List Sm.Entry} {r : List UInt8} : ∀ {n : Nat} {e : Sm.Entry}, Sm.longest es r n = some e → e ∈ es ∧ e.seq.length ≤ n ∧ e.seq = r.take e.seq.length ∧ 1 ≤ e.seq.length
  | 0, e, h => by cases h
  | n + 1, e, h => by
    have h : (match es.find? (fun e => e.seq == r.take (n + 1) && e.seq.length == n + 1) with | some e => some e | none => Sm.longest es r n) = some e := h
    cases q : es.find? (fun e => e.seq == r.take (n + 1) && e.seq.length == n + 1) with
    | some x =>
      rw [q] at h
      cases h
      have p := List.find?_some q
      rw [Bool.and_eq_true, beq_iff_eq, beq_iff_eq] at p
      refine ⟨List.mem_of_find?_eq_some q, by omega, ?_, by omega⟩
      rw [p.2]
      exact p.1
    | none =>
      rw [q] at h
      obtain ⟨a, b, c, d⟩ := longest_mem (n := n) (e := e) h
      exact ⟨a, by omega, c, d⟩
theorem stands_cases (es : List Sm.Entry) (r : List UInt8) : (∃ e, e ∈ es ∧ Sm.longest es r 8 = some e ∧ Sm.stands es r = (e.seq.length, e.els)) ∨ (Sm.longest es r 8 = none ∧ Sm.stands es r = (1, (r.take 1).map fun b => ⟨65536 + b.toNat, 1, 1⟩)) := by
  unfold Sm.stands
  cases h : Sm.longest es r 8 with
  | some e => exact .inl ⟨e, (longest_mem h).1, rfl, rfl⟩
  | none => exact .inr ⟨rfl, rfl⟩
theorem stands_pos (es : List Sm.Entry) (r : List UInt8) : 1 ≤ (Sm.stands es r).1 := by
  unfold Sm.stands
  cases h : Sm.longest es r 8 with
  | some e => exact (longest_mem h).2.2.2
  | none => exact Nat.le_refl _
theorem stands_le (es : List Sm.Entry) {r : List UInt8} (hr : r ≠ []) : (Sm.stands es r).1 ≤ r.length := by
  have h1 : 1 ≤ r.length := by
    cases r with
    | nil => exact absurd rfl hr
    | cons a l => simp
  unfold Sm.stands
  cases h : Sm.longest es r 8 with
  | some e =>
    have q := (longest_mem h).2.2.1
    show e.seq.length ≤ r.length
    have q2 : e.seq.length = min e.seq.length r.length := by
      conv => lhs; rw [q]
      exact List.length_take
    omega
  | none => exact h1
theorem cuts_nil (es : List Sm.Entry) (f : Nat) : Sm.cuts es f [] = [] := by
  cases f <;> rfl
theorem drop_less (es : List Sm.Entry) (a : UInt8) (l : List UInt8) : ((a :: l).drop (Sm.stands es (a :: l)).1).length ≤ l.length := by
  have hp := stands_pos es (a :: l)
  rw [List.length_drop, List.length_cons]
  omega
theorem cuts_fuel (es : List Sm.Entry) : ∀ (f g : Nat) (r : List UInt8), r.length ≤ f → r.length ≤ g → Sm.cuts es f r = Sm.cuts es g r
  | _, _, [], _, _ => by rw [cuts_nil, cuts_nil]
  | 0, _, a :: l, h, _ => by simp at h
  | _, 0, a :: l, _, h => by simp at h
  | f + 1, g + 1, a :: l, h1, h2 => by
    have hd := drop_less es a l
    rw [List.length_cons] at h1 h2
    show Sm.stands es (a :: l) :: Sm.cuts es f ((a :: l).drop (Sm.stands es (a :: l)).1) = Sm.stands es (a :: l) :: Sm.cuts es g ((a :: l).drop (Sm.stands es (a :: l)).1)
    rw [cuts_fuel es f g _ (by omega) (by omega)]
theorem cutAll_nil (es : List Sm.Entry) : Sm.cutAll es [] = [] := rfl
theorem cutAll_cons (es : List Sm.Entry) {r : List UInt8} (hr : r ≠ []) : Sm.cutAll es r = Sm.stands es r :: Sm.cutAll es (r.drop (Sm.stands es r).1) := by
  cases r with
  | nil => exact absurd rfl hr
  | cons a l =>
    show Sm.stands es (a :: l) :: Sm.cuts es l.length ((a :: l).drop (Sm.stands es (a :: l)).1) = _
    unfold Sm.cutAll
    rw [cuts_fuel es l.length _ _ (drop_less es a l) (Nat.le_refl _)]
theorem cut_ind (es : List Sm.Entry) {M : List UInt8 → Prop} (h0 : M []) (h1 : ∀ r, r ≠ [] → M (r.drop (Sm.stands es r).1) → M r) : ∀ (n : Nat) (r : List UInt8), r.length ≤ n → M r
  | _, [], _ => h0
  | 0, a :: l, h => by simp at h
  | n + 1, a :: l, h => by
    refine h1 _ (by simp) (cut_ind es h0 h1 n _ ?_)
    have := drop_less es a l
    rw [List.length_cons] at h
    omega
theorem elementsOf_cons (c : Sm.Cut) (l : List Sm.Cut) : Sm.elementsOf (c :: l) = c.2 ++ Sm.elementsOf l := by
  unfold Sm.elementsOf
  rw [List.flatMap_cons]
theorem elementsOf_append (l m : List Sm.Cut) : Sm.elementsOf (l ++ m) = Sm.elementsOf l ++ Sm.elementsOf m := by
  unfold Sm.elementsOf
  rw [List.flatMap_append]
noncomputable def ElOk (x : Sm.Element) : Prop := x.one ≤ 65791 ∧ x.two ≤ 65535 ∧ x.three ≤ 65535
theorem stands_ok {c : Sm.Coll} (h : TabOk c) (r : List UInt8) : (Sm.stands c.entries r).2.length ≤ 4 ∧ ∀ x ∈ (Sm.stands c.entries r).2, ElOk x := by
  rcases stands_cases c.entries r with ⟨e, he, _, q⟩ | ⟨_, q⟩
  · rw [q]
    obtain ⟨h1, h2⟩ := h.els e he
    exact ⟨h1, fun x hx => ⟨by have := (h2 x hx).1; omega, (h2 x hx).2.1, (h2 x hx).2.2⟩⟩
  · rw [q]
    refine ⟨?_, fun x hx => ?_⟩
    · show ((r.take 1).map _).length ≤ 4
      rw [List.length_map, List.length_take]
      omega
    · obtain ⟨b, _, rfl⟩ := List.mem_map.mp hx
      have := b.toNat_lt
      exact ⟨by show 65536 + b.toNat ≤ 65791; omega, by show 1 ≤ 65535; decide, by show 1 ≤ 65535; decide⟩
theorem elements_ok {c : Sm.Coll} (h : TabOk c) (t : List UInt8) : (c.elements t).length ≤ 4 * t.length ∧ ∀ x ∈ c.elements t, ElOk x := by
  unfold Sm.Coll.elements Sm.elements
  refine cut_ind c.entries (M := fun t => (Sm.elementsOf (Sm.cutAll c.entries t)).length ≤ 4 * t.length ∧ ∀ x ∈ Sm.elementsOf (Sm.cutAll c.entries t), ElOk x) ⟨Nat.zero_le _, fun x hx => by cases hx⟩ (fun r hr ih => ?_) t.length t (Nat.le_refl _)
  rw [cutAll_cons c.entries hr, elementsOf_cons]
  obtain ⟨a1, a2⟩ := stands_ok h r
  have hp := stands_pos c.entries r
  have hl : 1 ≤ r.length := by
    cases r with
    | nil => exact absurd rfl hr
    | cons a l => simp
  have e := ih.1
  rw [List.length_drop] at e
  refine ⟨?_, fun x hx => ?_⟩
  · rw [List.length_append]
    omega
  · rcases List.mem_append.mp hx with hx | hx
    · exact a2 x hx
    · exact ih.2 x hx
theorem nonzero_le (l : List Nat) : (Sm.nonzero l).length ≤ l.length := List.length_filter_le _ _
theorem firsts_le (l : List Sm.Element) : (Sm.firsts l).length ≤ l.length := by
  have := nonzero_le (l.map fun x => x.one)
  rw [List.length_map] at this
  exact this
theorem seconds_le (b : Bool) (l : List Sm.Element) : (Sm.seconds b l).length ≤ l.length := by
  have h := nonzero_le (l.map fun x => x.two)
  rw [List.length_map] at h
  unfold Sm.seconds
  cases b
  · exact h
  · show (Sm.nonzero (l.map fun x => x.two)).reverse.length ≤ _
    rw [List.length_reverse]
    exact h
theorem thirds_le (l : List Sm.Element) : (Sm.thirds l).length ≤ l.length := by
  have := nonzero_le (l.map fun x => x.three)
  rw [List.length_map] at this
  exact this
theorem three_len : ∀ l : List Nat, (l.flatMap Sm.three).length = 3 * l.length
  | [] => rfl
  | a :: l => by
    rw [List.flatMap_cons, List.length_append, three_len l, List.length_cons]
    show 3 + _ = _
    omega
theorem key_len {c : Sm.Coll} (h : TabOk c) {t : List UInt8} (ht : t.length ≤ 64) : (c.key t).length ≤ 2400 := by
  have e := (elements_ok h t).1
  have e1 := firsts_le (c.elements t)
  have e2 := seconds_le c.back (c.elements t)
  have e3 := thirds_le (c.elements t)
  show ((Sm.firsts (c.elements t)).flatMap Sm.three ++ (Sm.three 0 ++ ((Sm.seconds c.back (c.elements t)).flatMap Sm.three ++ (Sm.three 0 ++ (Sm.thirds (c.elements t)).flatMap Sm.three)))).length ≤ 2400
  simp only [List.length_append, three_len]
  have : (Sm.three 0).length = 3 := rfl
  omega
theorem low_len {c : Sm.Coll} (h : TabOk c) {t : List UInt8} (ht : t.length ≤ 64) : (c.low t).length ≤ 1000 := by
  have e := (elements_ok h t).1
  have e1 := firsts_le (c.elements t)
  show ((Sm.firsts (c.elements t)).flatMap Sm.three).length ≤ 1000
  rw [three_len]
  omega
theorem three_ib {n : Nat} (h : n < 16777216) : ib (Sm.three n) = [((n / 65536 : Nat) : Int), ((n / 256 % 256 : Nat) : Int), ((n % 256 : Nat) : Int)] := by
  have q : ∀ m : Nat, m < 256 → (UInt8.ofNat m).toNat = m := fun m hm => UInt8.toNat_ofNat_of_lt' (by show m < 256; exact hm)
  have h2 : n / 65536 % 256 = n / 65536 := by omega
  show [((UInt8.ofNat (n / 65536 % 256)).toNat : Int), ((UInt8.ofNat (n / 256 % 256)).toNat : Int), ((UInt8.ofNat (n % 256)).toNat : Int)] = _
  rw [q _ (by omega), q _ (by omega), q _ (by omega), h2]
theorem ib_append (a b : List UInt8) : ib (a ++ b) = ib a ++ ib b := List.map_append ..
theorem joint_succ {l : List Sm.Cut} {i : Nat} {x : Sm.Cut} (h : l[i]? = some x) : Sm.joint l (i + 1) = Sm.joint l i + x.1 := by
  unfold Sm.joint
  rw [take_snoc h, List.map_append, List.sum_append]
  simp
theorem joint_end (es : List Sm.Entry) (t : List UInt8) : Sm.joint (Sm.cutAll es t) (Sm.cutAll es t).length = t.length := by
  unfold Sm.joint
  rw [List.take_length]
  refine cut_ind es (M := fun t => ((Sm.cutAll es t).map fun x => x.1).sum = t.length) rfl (fun r hr ih => ?_) t.length t (Nat.le_refl _)
  rw [cutAll_cons es hr, List.map_cons, List.sum_cons, ih, List.length_drop]
  have := stands_le es hr
  omega
theorem cut_at (es : List Sm.Entry) : ∀ (n : Nat) (t : List UInt8), t.length ≤ n → ∀ (i : Nat) (x : Sm.Cut), (Sm.cutAll es t)[i]? = some x → Sm.joint (Sm.cutAll es t) i < t.length ∧ x = Sm.stands es (t.drop (Sm.joint (Sm.cutAll es t) i))
  | _, [], _, i, x, h => by simp [cutAll_nil] at h
  | 0, a :: l, h, _, _, _ => by simp at h
  | n + 1, a :: l, h, i, x, hx => by
    rw [cutAll_cons es (show (a :: l) ≠ [] by simp)] at hx ⊢
    cases i with
    | zero =>
      have e : Sm.stands es (a :: l) = x := Option.some.inj hx
      exact ⟨by show 0 < _; simp, e.symm⟩
    | succ i =>
      have hd := drop_less es a l
      rw [List.length_cons] at h
      obtain ⟨h1, h2⟩ := cut_at es n _ (by omega) i x hx
      have e : Sm.joint (Sm.stands es (a :: l) :: Sm.cutAll es ((a :: l).drop (Sm.stands es (a :: l)).1)) (i + 1) = (Sm.stands es (a :: l)).1 + Sm.joint (Sm.cutAll es ((a :: l).drop (Sm.stands es (a :: l)).1)) i := rfl
      rw [List.length_drop] at h1
      rw [e]
      refine ⟨by omega, ?_⟩
      rw [h2, List.drop_drop]
end Sh
end
section
set_option Elab.async false
set_option linter.all false
set_option maxRecDepth 100000
set_option maxHeartbeats 2000000
namespace Sh
open PySem PySem.Spec PyProof.Rows L2
open PySem.W (Codec)
theorem longest_find {es : List Sm.Entry} {r : List UInt8} : ∀ {m : Nat} {e : Sm.Entry}, m ≤ r.length → Sm.longest es r m = some e → es.find? (fun x => x.seq == r.take e.seq.length) = some e
  | 0, e, _, h => by cases h
  | m + 1, e, hm, h => by
    rw [longest_succ es r m hm] at h
    cases q : es.find? (fun x => x.seq == r.take (m + 1)) with
    | some x =>
      rw [q] at h
      cases h
      have p := List.find?_some q
      have p2 : e.seq = r.take (m + 1) := beq_iff_eq.mp p
      have p3 : e.seq.length = m + 1 := by rw [p2, List.length_take, Nat.min_eq_left hm]
      rw [p3]
      exact q
    | none =>
      rw [q] at h
      exact longest_find (by omega) h
theorem longest_none {es : List Sm.Entry} {r : List UInt8} : ∀ {m : Nat}, m ≤ r.length → Sm.longest es r m = none → ∀ j, 1 ≤ j → j ≤ m → es.find? (fun x => x.seq == r.take j) = none
  | 0, _, _, j, h1, h2 => by omega
  | m + 1, hm, h, j, h1, h2 => by
    rw [longest_succ es r m hm] at h
    cases q : es.find? (fun x => x.seq == r.take (m + 1)) with
    | some x =>
      rw [q] at h
      cases h
    | none =>
      rw [q] at h
      by_cases e : j = m + 1
      · rw [e]
        exact q
      · exact longest_none (by omega) h j h1 (by omega)
theorem Ents.stands {H : Hp} {kvs : List (List Key × V)} {es : List Sm.Entry} (R : Ents H kvs es) {r : List UInt8} (hr : r ≠ []) :
    (∃ l, valV kvs (keyOf (ib (r.take (Sm.stands es r).1))) = some (.ref l) ∧ ElmsAt H l ((Sm.stands es r).2.map toElm)) ∨
    (valV kvs (keyOf (ib (r.take (Sm.stands es r).1))) = none ∧ ∃ b rr, r = b :: rr ∧ (Sm.stands es r).2.map toElm = [⟨65536 + (b.toNat : Int), 1, 1⟩]) := by
  have hl : 1 ≤ r.length := by
    cases r with
    | nil => exact absurd rfl hr
    | cons a l => simp
  rcases stands_cases es r with ⟨e, he, hlo, q⟩ | ⟨hlo, q⟩
  · rw [longest_min] at hlo
    have f := longest_find (Nat.min_le_right _ _) hlo
    rw [q]
    refine .inl ?_
    rcases R.find (r.take e.seq.length) with ⟨h1, h2⟩ | ⟨e', l, h1, h2, h3⟩
    · rw [f] at h1
      cases h1
    · rw [f] at h1
      cases h1
      exact ⟨l, h2, h3⟩
  · rw [longest_min] at hlo
    have f := longest_none (Nat.min_le_right _ _) hlo 1 (Nat.le_refl _) (by omega)
    rw [q]
    refine .inr ⟨?_, ?_⟩
    · rcases R.find (r.take 1) with ⟨h1, h2⟩ | ⟨e', l, h1, h2, h3⟩
      · exact h2
      · rw [f] at h1
        cases h1
    · cases r with
      | nil => exact absurd rfl hr
      | cons b rr =>
        refine ⟨b, rr, rfl, ?_⟩
        show [toElm ⟨65536 + b.toNat, 1, 1⟩] = _
        unfold toElm
        show [(⟨((65536 + b.toNat : Nat) : Int), 1, 1⟩ : Elm)] = [⟨65536 + (b.toNat : Int), 1, 1⟩]
        congr 1
section
variable {P : Program} {w : World} {K : PySem.W.Frag} {mg : Str → Option Value} {base : Heap} {D : Adr}
structure Tb (C : Addr) (H : Hp) (t : Addr) (c : Sm.Coll) : Prop where
  ex : ∃ d kvs, TabAt C H t d (optOf c.back) kvs ∧ Ents H kvs c.entries
  ok : TabOk c
theorem Ents.same {H H' : Hp} {kvs : List (List Key × V)} {es : List Sm.Entry} (h : Ents H kvs es) (s : Same H H') : Ents H' kvs es := h.keep (X := fun _ => False) (fun _ _ _ _ z => z) (fun b o e _ => s _ _ e)
theorem Tb.same {C : Addr} {H H' : Hp} {t : Addr} {c : Sm.Coll} (h : Tb C H t c) (s : Same H H') : Tb C H' t c := by
  obtain ⟨d, kvs, B, En⟩ := h.ex
  exact ⟨⟨d, kvs, B.same s, En.same s⟩, h.ok⟩
noncomputable def spWat (K : PySem.W.Frag) (C : Addr) : Sp := fun vs H Q _ => ∃ (t a : Addr) (c : Sm.Coll) (s : List UInt8) (at_ : Nat), vs = [.ref t, .ref a, .int at_] ∧ Tb C H t c ∧ SqL K H a ((ib s).map V.int) ∧ at_ < s.length ∧ s.length ≤ 200 ∧
  ∀ H' l, Same H H' → ElmsAt H' l ((Sm.stands c.entries (s.drop at_)).2.map toElm) → Q (.ref l) H'
theorem scWat : FnScope ["self", "s", "at", "sequence"] ["self", "s", "at"] (defScope sWat) := ⟨rfl, rfl, rfl, by decide +kernel, rfl, by decide +kernel, by decide +kernel⟩
theorem ok_wat (T : Txt K mg D) : FnOk P w K mg base CX0 2 D.wat D.watD ["self", "s", "at"] (spWat K D.CT) := by
  refine T.fWat.ok scWat (fun vs H Q E h => ?_) (fun cdv A outer s H vs Q E hr h => ?_)
  · obtain ⟨t, a, c, s, at_, rfl, _⟩ := h
    rfl
  · obtain ⟨t, a, c, s, at_, rfl, hT, hS, hat, hlen, kk⟩ := h
    obtain ⟨d, kvs, B, En⟩ := hT.ex
    obtain ⟨dx, ht⟩ := id B.ins
    have hu := hu_of hr
    refine ⟨_, pss_cons (ps_set (i := 3) scWat.nd rfl (Or.inl rfl) (pe_tuple T.btuple (pe_slice sl_list (pv 1) (po_some (pv 2)) (po_some (pe_meth (pv 0) T.clT T.kBehind (ok_behind T) hr (bBehind T) .nil pass0 (pa_cons (pv 1) (pa_cons (pv 2) pa_nil)))))))
      (pss_cons (ps_if (pt_cmp (pc_din hu (pv 3) (pe_fld (pv 0) rfl))) (pss_one (ps_ret (pe_dget hu (pe_fld (pv 0) rfl) (pv 3) (fun _ _ => rfl)))) pss_nil)
      (pss_one (ps_ret (pe_lst (pa_cons (pe_tup (pa_cons (pe_op op_add (pgi T.gUL) (pe_ix ix_list (pv 1) (pv 2) (fun _ _ => rfl))) (pa_cons pe_int (pa_cons pe_int pa_nil)))) pa_nil))))), ?_⟩
    dsimp only [cxOf, Cx.nox]
    have hd : s.drop at_ ≠ [] := fun z => by
      have := congrArg List.length z
      rw [List.length_drop] at this
      simp at this
      omega
    have hle := stands_le c.entries hd
    rw [List.length_drop] at hle
    refine ⟨_, rfl, _, rfl, _, rfl, _, rfl, t, dx, _, rfl, ht, tf_no _ _ (by decide) (by decide), _, rfl, _, rfl, t, d, a, _, kvs, ib s, at_, rfl, B, hS, by rw [ib_len]; exact hat, by rw [ib_len]; omega, fun H1 s1 => ?_⟩
    have en : stepN kvs ((ib s).drop at_) (min 8 ((ib s).length - at_)) = (Sm.stands c.entries (s.drop at_)).1 := by
      rw [ib_drop, ib_len, ← List.length_drop, stepN_stands En]
    rw [en]
    refine ⟨_, rfl, a, _, rfl, s1.seq hS, fun p hp => ?_⟩
    rw [cut_ints (ib s) (by omega) (by rw [ib_len]; omega), Nat.add_sub_cancel_left, ib_drop, ib_take]
    obtain ⟨sq, esq⟩ : ∃ sq, sq = ib ((s.drop at_).take (Sm.stands c.entries (s.drop at_)).1) := ⟨_, rfl⟩
    rw [← esq]
    have s2 := s1.trans (Same.upd_new (o := .lst (sq.map V.int)) hp)
    refine ⟨p, _, rfl, .inl ⟨SqL.of upd_same, fun q hq => ?_⟩⟩
    have s3 := s2.trans (Same.upd_new (o := .tup (sq.map V.int)) hq)
    have B3 := B.same s3
    have hk : upd (upd H1 p (.lst (sq.map V.int))) q (.tup (sq.map V.int)) q = some (.tup ((keyOf sq).map kV)) := by
      rw [upd_same, keyOf_V]
    have g := DGet.t B3.dict hk
    refine ⟨_, rfl, _, rfl, t, D.CT, dx, _, _, rfl, s3 _ _ ht, T.clT, T.nEnt, tf_ent _ _, d, _, rfl, g, _, rfl, ?_⟩
    rcases En.stands hd with ⟨l, hv, hE⟩ | ⟨hv, b, rr, hb, hE⟩
    · rw [← esq] at hv
      rw [hv] at g ⊢
      refine iteT ?_
      exact ⟨_, rfl, t, D.CT, dx, _, _, rfl, s3 _ _ ht, T.clT, T.nEnt, tf_ent _ _, _, rfl, d, _, rfl, g, kk _ l s3 (hE.same s3)⟩
    · rw [← esq] at hv
      rw [hv]
      refine iteF ?_
      have hg : atI ((ib s).map V.int) (at_ : Int) = some (V.int (b.toNat : Int)) := by
        refine atI_nat ?_
        have e1 : (s.drop at_)[0]? = some b := by rw [hb]; rfl
        rw [List.getElem?_drop, Nat.add_zero] at e1
        unfold ib
        rw [List.getElem?_map, List.getElem?_map, e1]
        rfl
      refine ⟨_, rfl, _, rfl, a, _, _, _, rfl, rfl, s3.seq hS, hg, _, _, rfl, rfl, (by show 3 ≤ sizeLine; decide), fun e he => ?_⟩
      have s4 := s3.trans (Same.upd_new (o := .tup [V.int (65536 + (b.toNat : Int)), V.int 1, V.int 1]) he)
      refine ⟨(by show 1 ≤ sizeLine; decide), fun l hl => ?_⟩
      have s5 := s4.trans (Same.upd_new (o := .lst [V.ref e]) hl)
      refine kk _ l s5 ?_
      rw [hE]
      exact ⟨[e], upd_same, .cons (Same.upd_new hl _ _ upd_same) .nil⟩
theorem bWat (T : Txt K mg D) : Binds K D.watD ["self", "s", "at"] [] := T.fWat.binds fun _ _ _ _ _ _ => bind3 fun _ _ _ => rfl
end
end Sh
end
section
set_option Elab.async false
set_option linter.all false
set_option maxRecDepth 100000
set_option maxHeartbeats 2000000
namespace Sh
open PySem PySem.Spec PyProof.Rows L2
open PySem.W (Codec)
noncomputable def jl (c : Sm.Coll) (s : List UInt8) (n : Nat) : List Int := (List.range n).map fun k => ((Sm.joint (Sm.cutAll c.entries s) k : Nat) : Int)
theorem jl_succ (c : Sm.Coll) (s : List UInt8) (n : Nat) : jl c s (n + 1) = jl c s n ++ [((Sm.joint (Sm.cutAll c.entries s) n : Nat) : Int)] := by
  unfold jl
  rw [List.range_succ, List.map_append]
  rfl
theorem jl_len (c : Sm.Coll) (s : List UInt8) (n : Nat) : (jl c s n).length = n := by
  unfold jl
  rw [List.length_map, List.length_range]
theorem jl_get (c : Sm.Coll) (s : List UInt8) {n i : Nat} (h : i < n) : (jl c s n)[i]? = some ((Sm.joint (Sm.cutAll c.entries s) i : Nat) : Int) := by
  unfold jl
  rw [List.getElem?_map, List.getElem?_range h]
  rfl
theorem cut_init (xs : List V) (v : V) : cutV (xs ++ [v]) none (some (-1)) = xs := by
  unfold cutV
  have e : HT.sIx (xs ++ [v]).length (xs ++ [v]).length (some (-1)) = xs.length := by
    show (if (-1 : Int) < 0 then ((-1 : Int) + ((xs ++ [v]).length : Int)).toNat else min (-1 : Int).toNat (xs ++ [v]).length) = xs.length
    rw [if_pos (by decide), List.length_append]
    show ((-1 : Int) + ((xs.length + 1 : Nat) : Int)).toNat = xs.length
    omega
  rw [e, HT.sIx_none]
  show ((xs ++ [v]).drop 0).take (xs.length - 0) = xs
  rw [List.drop_zero, Nat.sub_zero, List.take_left']
  rfl
theorem cuts_len (es : List Sm.Entry) (t : List UInt8) : (Sm.cutAll es t).length ≤ t.length := by
  refine cut_ind es (M := fun t => (Sm.cutAll es t).length ≤ t.length) (Nat.le_refl _) (fun r hr ih => ?_) t.length t (Nat.le_refl _)
  rw [cutAll_cons es hr, List.length_cons]
  have h1 := stands_pos es r
  have h2 := stands_le es hr
  rw [List.length_drop] at ih
  omega
theorem joint_lt (es : List Sm.Entry) (t : List UInt8) {i : Nat} (h : i < (Sm.cutAll es t).length) : Sm.joint (Sm.cutAll es t) i < t.length :=
  (cut_at es t.length t (Nat.le_refl _) i _ (List.getElem?_eq_getElem h)).1
theorem joint_next (es : List Sm.Entry) (t : List UInt8) {i : Nat} (h : i < (Sm.cutAll es t).length) : Sm.joint (Sm.cutAll es t) (i + 1) = Sm.joint (Sm.cutAll es t) i + (Sm.stands es (t.drop (Sm.joint (Sm.cutAll es t) i))).1 := by
  have g := List.getElem?_eq_getElem h
  rw [joint_succ g, ← (cut_at es t.length t (Nat.le_refl _) i _ g).2]
theorem els_next (es : List Sm.Entry) (t : List UInt8) {i : Nat} (h : i < (Sm.cutAll es t).length) : Sm.elementsOf ((Sm.cutAll es t).take (i + 1)) = Sm.elementsOf ((Sm.cutAll es t).take i) ++ (Sm.stands es (t.drop (Sm.joint (Sm.cutAll es t) i))).2 := by
  have g := List.getElem?_eq_getElem h
  rw [take_snoc g, elementsOf_append, ← (cut_at es t.length t (Nat.le_refl _) i _ g).2]
  unfold Sm.elementsOf
  rw [List.flatMap_cons, List.flatMap_nil, List.append_nil]
theorem els_take {c : Sm.Coll} (hc : TabOk c) (t : List UInt8) (i : Nat) : (Sm.elementsOf ((Sm.cutAll c.entries t).take i)).length ≤ 4 * t.length := by
  have h := (elements_ok hc t).1
  unfold Sm.Coll.elements Sm.elements at h
  rw [← List.take_append_drop i (Sm.cutAll c.entries t), elementsOf_append, List.length_append] at h
  omega
section
variable {P : Program} {w : World} {K : PySem.W.Frag} {mg : Str → Option Value} {base : Heap} {D : Adr}
noncomputable def spJof (K : PySem.W.Frag) (C : Addr) : Sp := fun vs H Q _ => ∃ (t a : Addr) (c : Sm.Coll) (s : List UInt8), vs = [.ref t, .ref a] ∧ Tb C H t c ∧ SqL K H a ((ib s).map V.int) ∧ s.length ≤ 200 ∧
  ∀ H' l, Same H H' → H l = none → H' l = some (.lst ((jl c s ((Sm.cutAll c.entries s).length + 1)).map V.int)) → Q (.ref l) H'
theorem scJof : FnScope ["self", "s", "joints"] ["self", "s"] (defScope sJof) := ⟨rfl, rfl, rfl, by decide +kernel, rfl, by decide +kernel, by decide +kernel⟩
theorem ok_jof (T : Txt K mg D) : FnOk P w K mg base CX0 2 D.jof D.jofD ["self", "s"] (spJof K D.CT) := by
  refine T.fJof.ok scJof (fun vs H Q E h => ?_) (fun cdv A outer s H vs Q E hr h => ?_)
  · obtain ⟨t, a, c, s, rfl, _⟩ := h
    rfl
  · obtain ⟨t, a, c, s, rfl, hT, hS, hlen, kk⟩ := h
    refine ⟨_, pss_cons (ps_set (i := 2) scJof.nd rfl (Or.inl rfl) (pe_lst (pa_cons pe_int pa_nil)))
      (pss_cons (ps_while PassesOwn.never (pt_cmpR op_lt (pe_ix ix_list (pv 2) (pe_un un_neg pe_int) (fun _ _ => rfl)) (pe_len T.blen (pv 1)) (nomark _))
        (pss_one (ps_expr (pe_bm PySem.F.plainAttrs_list PySem.F.slot_list_append PySem.F.type_list_append mt_append (pv 2)
          (pa_cons (pe_meth (pv 0) T.clT T.kBehind (ok_behind T) hr (bBehind T) .nil pass0 (pa_cons (pv 1) (pa_cons (pe_ix ix_list (pv 2) (pe_un un_neg pe_int) (fun _ _ => rfl)) pa_nil))) pa_nil)))))
      (pss_one (ps_ret (pv 2)))), ?_⟩
    dsimp only [cxOf, Cx.nox]
    refine ⟨(by show 1 ≤ sizeLine; decide), fun jo hjo => ?_⟩
    have s0 : Same H (upd H jo (.lst [V.int 0])) := Same.upd_new hjo
    obtain ⟨n, en⟩ : ∃ n, n = (Sm.cutAll c.entries s).length := ⟨_, rfl⟩
    have hn : n ≤ 200 := by rw [en]; exact Nat.le_trans (cuts_len _ _) hlen
    rw [← en] at kk
    refine ⟨fun m σ H' => ∃ i, m = n - i ∧ i ≤ n ∧ σ = [some (.ref t), some (.ref a), some (.ref jo)] ∧ H' jo = some (.lst ((jl c s (i + 1)).map V.int)) ∧ Same H H', ⟨n, 0, rfl, Nat.zero_le _, rfl, upd_same, s0⟩, ?_⟩
    rintro m σ H' ⟨i, rfl, hi, rfl, hj, hs⟩
    have ej : (jl c s (i + 1)).map V.int = (jl c s i).map V.int ++ [V.int ((Sm.joint (Sm.cutAll c.entries s) i : Nat) : Int)] := by
      rw [jl_succ, List.map_append]
      rfl
    have hl : atI ((jl c s (i + 1)).map V.int) (-1) = some (V.int ((Sm.joint (Sm.cutAll c.entries s) i : Nat) : Int)) := by
      rw [ej]
      exact atI_last _ _
    refine ⟨_, rfl, _, rfl, jo, _, _, _, rfl, rfl, SqL.of hj, hl, _, rfl, a, _, rfl, .inl (hs.seq hS), _, _, rfl, rfl, _, rfl, ?_⟩
    by_cases hlt : i < n
    · have jlt := joint_lt c.entries s (i := i) (by omega)
      have e1 : decide (((Sm.joint (Sm.cutAll c.entries s) i : Nat) : Int) < (((ib s).map V.int).length : Int)) = true := by
        refine decide_eq_true ?_
        rw [List.length_map, ib_len]
        omega
      rw [e1]
      refine iteT ⟨fun σ' H'' => ∃ j, j = i + 1 ∧ σ' = [some (.ref t), some (.ref a), some (.ref jo)] ∧ H'' jo = some (.lst ((jl c s (j + 1)).map V.int)) ∧ Same H H'', ?_, ?_⟩
      · rintro σ' H'' ⟨j, rfl, e2, e3, e4⟩
        exact ⟨n - (i + 1), by omega, i + 1, rfl, hlt, e2, e3, e4⟩
      · obtain ⟨d, kvs, B, En⟩ := (hT.same hs).ex
        obtain ⟨dx, ht⟩ := id B.ins
        refine ⟨_, rfl, .inl ⟨rfl, _, SqL.of hj⟩, rM rfl (ht) (tf_no _ _ (by decide) (by decide)) ⟨_, rfl, _, rfl, _, rfl, jo, _, _, _, rfl, rfl, SqL.of hj, hl, t, d, a, _, kvs, ib s, Sm.joint (Sm.cutAll c.entries s) i, rfl, B, hs.seq hS, by rw [ib_len]; exact jlt, by rw [ib_len]; omega, fun H2 s2 => ?_⟩⟩
        have ens : Sm.joint (Sm.cutAll c.entries s) i + stepN kvs ((ib s).drop (Sm.joint (Sm.cutAll c.entries s) i)) (min 8 ((ib s).length - Sm.joint (Sm.cutAll c.entries s) i)) = Sm.joint (Sm.cutAll c.entries s) (i + 1) := by
          rw [ib_drop, ib_len, ← List.length_drop, stepN_stands En, joint_next c.entries s (by omega)]
        rw [ens]
        refine ⟨jo, _, _, rfl, rfl, s2 _ _ hj, ?_, ?_⟩
        · rw [List.length_map, jl_len]
          exact small1000 (by omega)
        · refine ⟨i + 1, rfl, rfl, ?_, fun b o e => ?_⟩
          · rw [upd_same, jl_succ c s (i + 1), List.map_append]
            rfl
          · rw [upd_ne (ne_of_none e hjo)]
            exact s2 _ _ (hs _ _ e)
    · have ei : i = n := by omega
      subst ei
      have e1 : decide (((Sm.joint (Sm.cutAll c.entries s) i : Nat) : Int) < (((ib s).map V.int).length : Int)) = false := by
        refine decide_eq_false ?_
        rw [List.length_map, ib_len, en, joint_end]
        omega
      rw [e1]
      refine iteF ?_
      exact ⟨_, rfl, kk H' jo hs hjo hj⟩
theorem bJof (T : Txt K mg D) : Binds K D.jofD ["self", "s"] [] := T.fJof.binds fun _ _ _ _ _ _ => bind2 fun _ _ => rfl
noncomputable def spWof (K : PySem.W.Frag) (C : Addr) : Sp := fun vs H Q _ => ∃ (t a : Addr) (c : Sm.Coll) (s : List UInt8), vs = [.ref t, .ref a] ∧ Tb C H t c ∧ SqL K H a ((ib s).map V.int) ∧ s.length ≤ 200 ∧
  ∀ H' l, Same H H' → H l = none → ElmsAt H' l ((c.elements s).map toElm) → Q (.ref l) H'
theorem scWof : FnScope ["self", "s", "threes", "joint"] ["self", "s"] (defScope sWof) := ⟨rfl, rfl, rfl, by decide +kernel, rfl, by decide +kernel, by decide +kernel⟩
theorem TupsAt.append {H : Hp} : ∀ {as bs : List Addr} {es fs : List Elm}, TupsAt H as es → TupsAt H bs fs → TupsAt H (as ++ bs) (es ++ fs)
  | _, _, _, _, .nil, h => h
  | _, _, _, _, .cons r t, h => .cons r (TupsAt.append t h)
theorem ok_wof (T : Txt K mg D) : FnOk P w K mg base CX0 3 D.wof D.wofD ["self", "s"] (spWof K D.CT) := by
  refine T.fWof.ok scWof (fun vs H Q E h => ?_) (fun cdv A outer s H vs Q E hr h => ?_)
  · obtain ⟨t, a, c, s, rfl, _⟩ := h
    rfl
  · obtain ⟨t, a, c, s, rfl, hT, hS, hlen, kk⟩ := h
    refine ⟨_, pss_cons (ps_set (i := 2) scWof.nd rfl (Or.inl rfl) (pe_lst pa_nil))
      (pss_cons (ps_for PassesOwn.never rfl (pi_list (pe_slice sl_list (pe_meth (pv 0) T.clT T.kJof (ok_jof T) hr (bJof T) .nil pass0 (pa_cons (pv 1) pa_nil)) po_none (po_some (pe_un un_neg pe_int)))) (pg_name (i := 3) scWof.nd rfl (Or.inl rfl))
        (pss_one (ps_expr (pe_bm PySem.F.plainAttrs_list PySem.F.slot_list_extend PySem.F.type_list_extend mt_extend (pv 2)
          (pa_cons (pe_meth (pv 0) T.clT T.kWat (ok_wat T) hr (bWat T) .nil pass0 (pa_cons (pv 1) (pa_cons (pv 3) pa_nil))) pa_nil)))))
      (pss_one (ps_ret (pv 2)))), ?_⟩
    dsimp only [cxOf, Cx.nox]
    refine ⟨Nat.zero_le _, fun wr hw => ?_⟩
    have s0 : Same H (upd H wr (.lst [])) := Same.upd_new hw
    obtain ⟨n, en⟩ : ∃ n, n = (Sm.cutAll c.entries s).length := ⟨_, rfl⟩
    have hn : n ≤ 200 := by rw [en]; exact Nat.le_trans (cuts_len _ _) hlen
    have T0 := hT.same s0
    obtain ⟨d0, kvs0, B0, _⟩ := T0.ex
    obtain ⟨dx0, ht0⟩ := id B0.ins
    refine (rM rfl (ht0) (tf_no _ _ (by decide) (by decide)) ⟨_, rfl, t, a, c, s, rfl, T0, s0.seq hS, hlen, fun H1 jo s1 nj hj => ?_⟩)
    rw [← en, jl_succ, List.map_append] at hj
    refine ⟨_, rfl, _, rfl, jo, _, rfl, SqL.of hj, fun J hJ => ?_⟩
    rw [show [((Sm.joint (Sm.cutAll c.entries s) n : Nat) : Int)].map V.int = [V.int ((Sm.joint (Sm.cutAll c.entries s) n : Nat) : Int)] from rfl, cut_init]
    have s2 : Same H1 (upd H1 J (.lst ((jl c s n).map V.int))) := Same.upd_new hJ
    have s02 : Same H (upd H1 J (.lst ((jl c s n).map V.int))) := (s0.trans s1).trans s2
    have hw2 := s2 _ _ (s1 _ _ (upd_same (H := H) (a := wr) (o := .lst [])))
    have hJw : J ≠ wr := Ne.symm (ne_of_none (s1 _ _ upd_same) hJ)
    refine ⟨J, rfl, ⟨_, SqL.of upd_same⟩, ?_⟩
    refine for_list (K := K) (a := J) (xs := (jl c s n).map V.int) (fun i σ H' => ∃ (v : Option V) (as : List Addr), σ = [some (.ref t), some (.ref a), some (.ref wr), v] ∧ H' wr = some (.lst (as.map V.ref)) ∧
        TupsAt H' as ((Sm.elementsOf ((Sm.cutAll c.entries s).take i)).map toElm) ∧ Same H H' ∧ H' J = some (.lst ((jl c s n).map V.int))) ⟨none, [], rfl, hw2, .nil, s02, upd_same⟩ (fun i σ H' _ h => let ⟨_, _, _, _, _, _, q⟩ := h; SqL.of q) ?_ ?_
    · rintro i x σ H' hi ⟨v, as, rfl, hd, ht, hs, hJ'⟩
      obtain ⟨z, hz, rfl⟩ := get_ints hi
      have hi' : i < n := by
        have := (List.getElem?_eq_some_iff.mp hz).1
        rw [jl_len] at this
        exact this
      have ez : z = ((Sm.joint (Sm.cutAll c.entries s) i : Nat) : Int) := by
        rw [jl_get c s hi'] at hz
        exact (Option.some.inj hz).symm
      subst ez
      have jlt := joint_lt c.entries s (i := i) (by omega)
      have T1 := hT.same hs
      obtain ⟨d, kvs, B, En⟩ := T1.ex
      obtain ⟨dx, ht1⟩ := id B.ins
      refine ⟨_, rfl, .inl ⟨rfl, _, SqL.of hd⟩, rM rfl (ht1) (tf_no _ _ (by decide) (by decide)) ⟨_, rfl, _, rfl, t, a, c, s, _, rfl, T1, hs.seq hS, jlt, hlen, fun H2 l s3 hE => ?_⟩⟩
      obtain ⟨bs, hl, hb⟩ := hE
      have en2 := els_next c.entries s (i := i) (by omega)
      have la : as.length = (Sm.elementsOf ((Sm.cutAll c.entries s).take i)).length := by rw [Paired.length ht, List.length_map]
      have lb : bs.length = (Sm.stands c.entries (s.drop (Sm.joint (Sm.cutAll c.entries s) i))).2.length := by rw [Paired.length hb, List.length_map]
      have b1 := els_take hT.ok s (i + 1)
      rw [en2, List.length_append] at b1
      refine ⟨wr, l, _, _, rfl, rfl, s3 _ _ hd, hl, ?_, ?_⟩
      · rw [List.length_map, List.length_map]
        have : sizeLine = 16777216 := sizeLine_eq
        omega
      · have hd2 := s3 _ _ hd
        have kp : ∀ b xs, H2 b = some (.tup xs) → upd H2 wr (.lst (as.map V.ref ++ bs.map V.ref)) b = some (.tup xs) := fun b xs e => by
          rw [upd_ne (ne_of e hd2 (by intro z; cases z))]
          exact e
        refine ⟨_, as ++ bs, rfl, ?_, ?_, fun b o e => ?_, ?_⟩
        · rw [upd_same, List.map_append]
        · rw [en2, List.map_append]
          exact TupsAt.append ((ht.keep fun b xs e => s3 _ _ e).keep kp) (hb.keep kp)
        · rw [upd_ne (ne_of_none e hw)]
          exact s3 _ _ (hs _ _ e)
        · rw [upd_ne hJw]
          exact s3 _ _ hJ'
    · rintro σ H' ⟨v, as, rfl, hd, ht, hs, _⟩
      rw [List.length_map, jl_len, en, List.take_length] at ht
      exact ⟨_, rfl, kk H' wr hs hw ⟨as, hd, ht⟩⟩
theorem bWof (T : Txt K mg D) : Binds K D.wofD ["self", "s"] [] := T.fWof.binds fun _ _ _ _ _ _ => bind2 fun _ _ => rfl
noncomputable def spLof (K : PySem.W.Frag) (C : Addr) : Sp := fun vs H Q _ => ∃ (t a : Addr) (c : Sm.Coll) (s : List UInt8), vs = [.ref t, .ref a] ∧ Tb C H t c ∧ SqL K H a ((ib s).map V.int) ∧ s.length ≤ 200 ∧
  ∀ H' l as, Same H H' → H l = none → LLs H' l as (levsO (optOf c.back) ((c.elements s).map toElm)) → Q (.ref l) H'
theorem scLof : FnScope ["self", "s"] ["self", "s"] (defScope sLof) := ⟨rfl, rfl, rfl, by decide +kernel, rfl, by decide +kernel, by decide +kernel⟩
theorem ok_lof (T : Txt K mg D) : FnOk P w K mg base CX0 4 D.lof D.lofD ["self", "s"] (spLof K D.CT) := by
  refine T.fLof.ok scLof (fun vs H Q E h => ?_) (fun cdv A outer s H vs Q E hr h => ?_)
  · obtain ⟨t, a, c, s, rfl, _⟩ := h
    rfl
  · obtain ⟨t, a, c, s, rfl, hT, hS, hlen, kk⟩ := h
    obtain ⟨d, kvs, B, En⟩ := hT.ex
    obtain ⟨dx, ht⟩ := id B.ins
    have hel := (elements_ok hT.ok s).1
    refine ⟨_, pss_one (ps_ret (pe_call (ok_opts T) hr (by rfl) T.mOpts T.fOpts.kp (bOpts T) .nil pass0 (pa_cons (pe_meth (pv 0) T.clT T.kWof (ok_wof T) hr (bWof T) .nil pass0 (pa_cons (pv 1) pa_nil)) (pa_cons (pe_fld (pv 0) rfl) pa_nil)))), ?_⟩
    dsimp only [cxOf, Cx.nox]
    refine (rM rfl (ht) (tf_no _ _ (by decide) (by decide)) ⟨_, rfl, t, a, c, s, rfl, hT, hS, hlen, fun H1 l1 s1 n1 hE => ?_⟩)
    refine (rF rfl (s1 _ _ ht) T.clT T.nOpt (tf_opt _ _) ⟨l1, _, _, rfl, hE, by rw [List.length_map]; omega, fun H2 l as s2 n2 hL => ?_⟩)
    exact kk H2 l as (s1.trans s2) (s1.free n2) hL
theorem bLof (T : Txt K mg D) : Binds K D.lofD ["self", "s"] [] := T.fLof.binds fun _ _ _ _ _ _ => bind2 fun _ _ => rfl
end
end Sh
end
section
set_option Elab.async false
set_option linter.all false
set_option maxRecDepth 100000
set_option maxHeartbeats 2000000
namespace Sh
open PySem PySem.Spec PyProof.Rows L2
open PySem.W (Codec)
noncomputable def bf (c : Sm.Coll) (s : List UInt8) (i : Nat) : List (List Int) := levs ((Sm.elementsOf ((Sm.cutAll c.entries s).take i)).map toElm)
noncomputable def LLf (wr be : Addr) (H : Hp) (p : Addr) (ls : List (List Int)) : Prop := p ≠ wr ∧ p ≠ be ∧ ∃ as, LLs H p as ls ∧ ∀ q ∈ as, q ≠ wr ∧ q ≠ be
theorem LLf.keep {wr be : Addr} {H H' : Hp} {p : Addr} {ls : List (List Int)} (h : LLf wr be H p ls) (k : ∀ b o, b ≠ wr → b ≠ be → H b = some o → H' b = some o) : LLf wr be H' p ls := by
  obtain ⟨h1, h2, as, ⟨h3, h4⟩, h5⟩ := h
  exact ⟨h1, h2, as, ⟨k _ _ h1 h2 h3, pr_mem h4 fun a b hm e => k _ _ (h5 a hm).1 (h5 a hm).2 e⟩, h5⟩
noncomputable def BfAt (K : PySem.W.Frag) (H : Hp) (l : Addr) (c : Sm.Coll) (s : List UInt8) (m : Nat) : Prop := ∃ bas : List Addr, H l = some (.lst (bas.map V.ref)) ∧ Paired (fun p i => LLq K H p (bf c s i)) bas (List.range m)
section
variable {P : Program} {w : World} {K : PySem.W.Frag} {mg : Str → Option Value} {base : Heap} {D : Adr}
noncomputable def spLbef (K : PySem.W.Frag) (C : Addr) : Sp := fun vs H Q _ => ∃ (t a j : Addr) (c : Sm.Coll) (s : List UInt8), vs = [.ref t, .ref a, .ref j] ∧ Tb C H t c ∧ SqL K H a ((ib s).map V.int) ∧ s.length ≤ 200 ∧
  H j = some (.lst ((jl c s ((Sm.cutAll c.entries s).length + 1)).map V.int)) ∧
  ∀ H' l, Same H H' → H l = none → BfAt K H' l c s ((Sm.cutAll c.entries s).length + 1) → Q (.ref l) H'
theorem scLbef : FnScope ["self", "s", "joints", "threes", "before", "joint"] ["self", "s", "joints"] (defScope sLbef) := ⟨rfl, rfl, rfl, by decide +kernel, rfl, by decide +kernel, by decide +kernel⟩
theorem ok_lbef (T : Txt K mg D) : FnOk P w K mg base CX0 3 D.lbef D.lbefD ["self", "s", "joints"] (spLbef K D.CT) := by
  refine T.fLbef.ok scLbef (fun vs H Q E h => ?_) (fun cdv A outer s H vs Q E hr h => ?_)
  · obtain ⟨t, a, j, c, s, rfl, _⟩ := h
    rfl
  · obtain ⟨t, a, j, c, s, rfl, hT, hS, hlen, hj, kk⟩ := h
    refine ⟨_, pss_cons (ps_set (i := 3) scLbef.nd rfl (Or.inl rfl) (pe_lst pa_nil))
      (pss_cons (ps_set (i := 4) scLbef.nd rfl (Or.inl rfl) (pe_lst (pa_cons (pe_call (ok_stand T) hr (by rfl) T.mStand T.fStand.kp (bStand T) .nil pass0 (pa_cons (pv 3) pa_nil)) pa_nil)))
      (pss_cons (ps_for PassesOwn.never rfl (pi_list (pe_slice sl_list (pv 2) po_none (po_some (pe_un un_neg pe_int)))) (pg_name (i := 5) scLbef.nd rfl (Or.inl rfl))
        (pss_cons (ps_expr (pe_bm PySem.F.plainAttrs_list PySem.F.slot_list_extend PySem.F.type_list_extend mt_extend (pv 3)
          (pa_cons (pe_meth (pv 0) T.clT T.kWat (ok_wat T) hr (bWat T) .nil pass0 (pa_cons (pv 1) (pa_cons (pv 5) pa_nil))) pa_nil)))
        (pss_one (ps_expr (pe_bm PySem.F.plainAttrs_list PySem.F.slot_list_append PySem.F.type_list_append mt_append (pv 4)
          (pa_cons (pe_call (ok_stand T) hr (by rfl) T.mStand T.fStand.kp (bStand T) .nil pass0 (pa_cons (pv 3) pa_nil)) pa_nil))))))
      (pss_one (ps_ret (pv 4))))), ?_⟩
    dsimp only [cxOf, Cx.nox]
    refine ⟨Nat.zero_le _, fun wr hw => ?_⟩
    have s0 : Same H (upd H wr (.lst [])) := Same.upd_new hw
    obtain ⟨n, en⟩ : ∃ n, n = (Sm.cutAll c.entries s).length := ⟨_, rfl⟩
    have hn : n ≤ 200 := by rw [en]; exact Nat.le_trans (cuts_len _ _) hlen
    rw [← en] at kk hj
    refine ⟨_, rfl, wr, [], rfl, ⟨[], upd_same, .nil⟩, Nat.zero_le _, fun H1 l0 as0 s1 n0 hL0 hap0 => ?_⟩
    have hw1 := s1 _ _ (upd_same (H := H) (a := wr) (o := .lst []))
    refine ⟨(by show 1 ≤ sizeLine; decide), fun be hbe => ?_⟩
    have s2 : Same H1 (upd H1 be (.lst [V.ref l0])) := Same.upd_new hbe
    have s02 := (s0.trans s1).trans s2
    have hbe0 : H be = none := (s0.trans s1).free hbe
    have ewb : wr ≠ be := ne_of_none hw1 hbe
    have hj2 := s02 _ _ hj
    have hj3 : upd H1 be (.lst [V.ref l0]) j = some (.lst ((jl c s n).map V.int ++ [V.int ((Sm.joint (Sm.cutAll c.entries s) n : Nat) : Int)])) := by
      rw [hj2, jl_succ, List.map_append]
      rfl
    refine ⟨_, rfl, _, rfl, _, rfl, j, _, rfl, SqL.of hj3, fun J hJ => ?_⟩
    rw [cut_init]
    have s3 : Same (upd H1 be (.lst [V.ref l0])) (upd (upd H1 be (.lst [V.ref l0])) J (.lst ((jl c s n).map V.int))) := Same.upd_new hJ
    have s03 := s02.trans s3
    have hJw : J ≠ wr := Ne.symm (ne_of_none (s2 _ _ hw1) hJ)
    have hJb : J ≠ be := Ne.symm (ne_of_none upd_same hJ)
    refine ⟨J, rfl, ⟨_, SqL.of upd_same⟩, ?_⟩
    refine for_list (K := K) (a := J) (xs := (jl c s n).map V.int) (fun i σ H' => ∃ (v : Option V) (as bas : List Addr), σ = [some (.ref t), some (.ref a), some (.ref j), some (.ref wr), some (.ref be), v] ∧ H' wr = some (.lst (as.map V.ref)) ∧
        TupsAt H' as ((Sm.elementsOf ((Sm.cutAll c.entries s).take i)).map toElm) ∧ H' be = some (.lst (bas.map V.ref)) ∧ Paired (fun p k => LLf wr be H' p (bf c s k)) bas (List.range (i + 1)) ∧ Same H H' ∧ H' J = some (.lst ((jl c s n).map V.int)))
      ⟨none, [], [l0], rfl, (s2.trans s3) _ _ hw1, .nil, s3 _ _ upd_same, ?_, s03, upd_same⟩ (fun i σ H' _ h => let ⟨_, _, _, _, _, _, _, _, _, q⟩ := h; SqL.of q) ?_ ?_
    · refine .cons ⟨?_, ?_, as0, hL0.same (s2.trans s3), fun q hq => ⟨?_, ?_⟩⟩ .nil
      · exact Ne.symm (ne_of_none upd_same n0)
      · exact ne_of_none hL0.1 hbe
      · exact Ne.symm (ne_of_none upd_same (hap0 q hq).1)
      · obtain ⟨i, hi⟩ := List.mem_iff_getElem?.mp hq
        obtain ⟨b, _, hb⟩ := pr_get hL0.2 hi
        exact ne_of_none hb hbe
    · rintro i x σ H' hi ⟨v, as, bas, rfl, hd, ht, hB, hbs, hs, hJ'⟩
      obtain ⟨z, hz, rfl⟩ := get_ints hi
      have hi' : i < n := by
        have := (List.getElem?_eq_some_iff.mp hz).1
        rw [jl_len] at this
        exact this
      have ez : z = ((Sm.joint (Sm.cutAll c.entries s) i : Nat) : Int) := by
        rw [jl_get c s hi'] at hz
        exact (Option.some.inj hz).symm
      subst ez
      have jlt := joint_lt c.entries s (i := i) (by omega)
      have T1 := hT.same hs
      obtain ⟨d, kvs, B, En⟩ := T1.ex
      obtain ⟨dx, ht1⟩ := id B.ins
      refine ⟨_, rfl, .inl ⟨rfl, _, SqL.of hd⟩, rM rfl (ht1) (tf_no _ _ (by decide) (by decide)) ⟨_, rfl, _, rfl, t, a, c, s, _, rfl, T1, hs.seq hS, jlt, hlen, fun H2 l s3 hE => ?_⟩⟩
      obtain ⟨bs, hl, hb⟩ := hE
      have en2 := els_next c.entries s (i := i) (by omega)
      have la : as.length = (Sm.elementsOf ((Sm.cutAll c.entries s).take i)).length := by rw [Paired.length ht, List.length_map]
      have lb : bs.length = (Sm.stands c.entries (s.drop (Sm.joint (Sm.cutAll c.entries s) i))).2.length := by rw [Paired.length hb, List.length_map]
      have b1 := els_take hT.ok s (i + 1)
      have b2 := b1
      rw [en2, List.length_append] at b1
      have hd2 := s3 _ _ hd
      refine ⟨wr, l, _, _, rfl, rfl, hd2, hl, ?_, ?_⟩
      · rw [List.length_map, List.length_map]
        have : sizeLine = 16777216 := sizeLine_eq
        omega
      · obtain ⟨H3, eH3⟩ : ∃ H3, H3 = upd H2 wr (.lst (as.map V.ref ++ bs.map V.ref)) := ⟨_, rfl⟩
        rw [← eH3]
        have kp : ∀ b xs, H2 b = some (.tup xs) → H3 b = some (.tup xs) := fun b xs e => by
          rw [eH3, upd_ne (ne_of e hd2 (by intro z; cases z))]
          exact e
        have oth : ∀ b o, b ≠ wr → H' b = some o → H3 b = some o := fun b o hb e => by
          rw [eH3, upd_ne hb]
          exact s3 _ _ e
        have hw3 : H3 wr = some (.lst ((as ++ bs).map V.ref)) := by
          rw [eH3, upd_same, List.map_append]
        have ht3 : TupsAt H3 (as ++ bs) ((Sm.elementsOf ((Sm.cutAll c.entries s).take (i + 1))).map toElm) := by
          rw [en2, List.map_append]
          exact TupsAt.append ((ht.keep fun b xs e => s3 _ _ e).keep kp) (hb.keep kp)
        have hB3 : H3 be = some (.lst (bas.map V.ref)) := oth _ _ (Ne.symm ewb) hB
        refine ⟨_, rfl, .inl ⟨rfl, _, SqL.of hB3⟩, _, rfl, wr, _, rfl, ⟨_, hw3, ht3⟩, by rw [List.length_map]; omega, fun H4 lL as4 s4 n4 hL4 hap4 => ?_⟩
        have lbas : bas.length = i + 1 := by rw [Paired.length hbs, List.length_range]
        refine ⟨be, _, _, rfl, rfl, s4 _ _ hB3, (by rw [List.length_map]; exact small1000 (by omega)), ?_⟩
        have hB4 := s4 _ _ hB3
        have oth4 : ∀ b o, b ≠ be → H4 b = some o → upd H4 be (.lst (bas.map V.ref ++ [V.ref lL])) b = some o := fun b o hb e => by
          rw [upd_ne hb]
          exact e
        refine ⟨_, as ++ bs, bas ++ [lL], rfl, oth4 _ _ ewb (s4 _ _ hw3), ?_, ?_, ?_, fun b o e => ?_, oth4 _ _ hJb (s4 _ _ (oth _ _ hJw hJ'))⟩
        · refine ht3.keep fun b xs e => oth4 _ _ (ne_of e hB3 (by intro z; cases z)) (s4 _ _ e)
        · rw [upd_same, List.map_append]
          rfl
        · rw [List.range_succ]
          refine Paired.snoc (Paired.mapP hbs fun p k q => LLf.keep q fun b o h1 h2 e => oth4 _ _ h2 (s4 _ _ (oth _ _ h1 e))) ?_
          refine ⟨Ne.symm (ne_of_none hw3 n4), Ne.symm (ne_of_none hB3 n4), as4, ⟨oth4 _ _ (Ne.symm (ne_of_none hB3 n4)) hL4.1, pr_mem hL4.2 fun p q hm e => oth4 _ _ ?_ e⟩, fun q hq => ⟨?_, ?_⟩⟩
          · exact Ne.symm (ne_of_none hB3 (hap4 p hm).1)
          · exact Ne.symm (ne_of_none hw3 (hap4 q hq).1)
          · exact Ne.symm (ne_of_none hB3 (hap4 q hq).1)
        · rw [upd_ne (ne_of_none e hbe0)]
          exact s4 _ _ (oth _ _ (ne_of_none e hw) (hs _ _ e))
    · rintro σ H' ⟨v, as, bas, rfl, hd, ht, hB, hbs, hs, _⟩
      rw [List.length_map, jl_len] at hbs
      exact ⟨_, rfl, kk H' be hs hbe0 ⟨bas, hB, Paired.mapP hbs fun p k q => let ⟨_, _, as, h, _⟩ := q; h.q⟩⟩
theorem bLbef (T : Txt K mg D) : Binds K D.lbefD ["self", "s", "joints"] [] := T.fLbef.binds fun _ _ _ _ _ _ => bind3 fun _ _ _ => rfl
end
end Sh
end
section
set_option Elab.async false
set_option linter.all false
set_option maxRecDepth 100000
set_option maxHeartbeats 2000000
namespace Sh
open PySem PySem.Spec PyProof.Rows L2
open PySem.W (Codec)
theorem rrange (j : Nat) : (List.range (j + 1)).reverse = j :: (List.range j).reverse := by
  rw [List.range_succ, List.reverse_append]
  rfl
theorem rfind_some {q : Nat → Bool} {f : Nat} (hq : q f = true) : ∀ {j : Nat}, f ≤ j → (∀ i, f < i → i ≤ j → q i = false) → (List.range (j + 1)).reverse.find? q = some f
  | 0, hf, _ => by
    have e : f = 0 := by omega
    subst e
    rw [rrange, List.find?_cons, hq]
  | j + 1, hf, h => by
    rw [rrange, List.find?_cons]
    by_cases e : f = j + 1
    · subst e
      rw [hq]
    · rw [h (j + 1) (by omega) (Nat.le_refl _)]
      exact rfind_some hq (by omega) fun i h1 h2 => h i h1 (by omega)
theorem rfind_none {q : Nat → Bool} {j : Nat} (h : ∀ i, i ≤ j → q i = false) : (List.range (j + 1)).reverse.find? q = none := by
  rw [List.find?_eq_none]
  intro x hx
  have hx : x < j + 1 := List.mem_range.mp (List.mem_reverse.mp hx)
  rw [h x (by omega)]
  exact Bool.false_ne_true
theorem fs_filter {α β : Type} (p : α → Bool) (F : α → Option β) : ∀ l : List α, (∀ x ∈ l, p x = false → F x = none) → l.findSome? F = (l.filter p).findSome? F
  | [], _ => rfl
  | x :: l, h => by
    have ih := fs_filter p F l fun y hy => h y (by simp [hy])
    rw [List.findSome?_cons, List.filter_cons]
    cases e : p x with
    | false =>
      rw [h x (by simp) e, if_neg Bool.false_ne_true]
      exact ih
    | true =>
      rw [if_pos rfl, List.findSome?_cons, ih]
theorem fs_at {α β : Type} {F : α → Option β} {y : α} {v : β} (hy : F y = some v) : ∀ {l : List α} {i : Nat}, l[i]? = some y → (∀ x ∈ l.take i, F x = none) → l.findSome? F = some v
  | [], i, h, _ => by simp at h
  | x :: l, 0, h, _ => by
    have e := Option.some.inj h
    subst e
    rw [List.findSome?_cons, hy]
  | x :: l, i + 1, h, hn => by
    rw [List.findSome?_cons, hn x (by simp)]
    exact fs_at hy (l := l) (i := i) h fun z hz => hn z (by simp [hz])
theorem joint_step (l : List Sm.Cut) (i : Nat) : Sm.joint l i ≤ Sm.joint l (i + 1) := by
  cases h : l[i]? with
  | some x =>
    rw [joint_succ h]
    omega
  | none =>
    have hl : l.length ≤ i := List.getElem?_eq_none_iff.mp h
    unfold Sm.joint
    rw [List.take_of_length_le hl, List.take_of_length_le (by omega)]
    exact Nat.le_refl _
theorem joint_mono (l : List Sm.Cut) (i : Nat) : ∀ j, i ≤ j → Sm.joint l i ≤ Sm.joint l j
  | 0, h => by
    have e : i = 0 := by omega
    subst e
    exact Nat.le_refl _
  | j + 1, h => by
    by_cases e : i = j + 1
    · subst e
      exact Nat.le_refl _
    · exact Nat.le_trans (joint_mono l i j (by omega)) (joint_step l j)
theorem filter_first {p : Nat → Bool} {m a : Nat} (h : ((List.range m).filter p)[0]? = some a) : a < m ∧ p a = true ∧ ∀ i, i < a → p i = false := by
  have hm := List.mem_of_getElem? h
  rw [List.mem_filter, List.mem_range] at hm
  refine ⟨hm.1, hm.2, fun i hi => ?_⟩
  cases e : p i with
  | false => rfl
  | true =>
    have hin : i ∈ (List.range m).filter p := List.mem_filter.mpr ⟨List.mem_range.mpr (by omega), e⟩
    have pw : ((List.range m).filter p).Pairwise (· < ·) := List.Pairwise.filter _ List.pairwise_lt_range
    cases q : (List.range m).filter p with
    | nil =>
      rw [q] at h
      simp at h
    | cons b r =>
      rw [q] at h hin pw
      have e2 : b = a := Option.some.inj h
      subst e2
      rcases List.mem_cons.mp hin with z | z
      · omega
      · have := (List.pairwise_cons.mp pw).1 i z
        omega
noncomputable def qM (c : Sm.Coll) (s : List UInt8) (ws : List (List Int)) (st i j : Nat) : Bool := decide (st ≤ Sm.joint (Sm.cutAll c.entries s) i) && decide (betw (bf c s i) (bf c s j) ws.length = ws)
noncomputable def fM (c : Sm.Coll) (s : List UInt8) (ws : List (List Int)) (st j : Nat) : Option (Nat × Nat) := ((List.range (j + 1)).reverse.find? fun i => qM c s ws st i j).map fun i => (Sm.joint (Sm.cutAll c.entries s) i, Sm.joint (Sm.cutAll c.entries s) j)
noncomputable def firstM (c : Sm.Coll) (s : List UInt8) (ws : List (List Int)) (st : Nat) : List Int := match (List.range ((Sm.cutAll c.entries s).length + 1)).findSome? (fM c s ws st) with
  | some x => [1, (x.1 : Int), (x.2 : Int)]
  | none => [0]
theorem BfAt.item {K : PySem.W.Frag} {H : Hp} {l : Addr} {c : Sm.Coll} {s : List UInt8} {m : Nat} (h : BfAt K H l c s m) {i : Nat} (hi : i < m) : ∃ (xs : List V) (p : Addr), SqL K H l xs ∧ atI xs (i : Int) = some (V.ref p) ∧ LLq K H p (bf c s i) := by
  obtain ⟨bas, h1, h2⟩ := h
  have e : bas.length = m := by rw [Paired.length h2, List.length_range]
  have hi' : i < bas.length := by omega
  refine ⟨_, bas[i], SqL.of h1, atI_nat ?_, ?_⟩
  · rw [List.getElem?_map, List.getElem?_eq_getElem hi']
    rfl
  · have q := L2.Paired.at h2 i 0 0 hi'
    have e1 : bas.getD i 0 = bas[i] := by simp [hi']
    have e2 : (List.range m).getD i 0 = i := by simp [hi]
    rw [e1, e2] at q
    exact q
theorem BfAt.same {K : PySem.W.Frag} {H H' : Hp} {l : Addr} {c : Sm.Coll} {s : List UInt8} {m : Nat} (h : BfAt K H l c s m) (k : Same H H') : BfAt K H' l c s m := by
  obtain ⟨bas, h1, h2⟩ := h
  exact ⟨bas, k _ _ h1, Paired.mapP h2 fun _ _ q => LLq.same q k⟩
section
variable {P : Program} {w : World} {K : PySem.W.Frag} {mg : Str → Option Value} {base : Heap} {D : Adr}
noncomputable def spFirst (K : PySem.W.Frag) (C : Addr) : Sp := fun vs H Q _ => ∃ (t a wa : Addr) (c : Sm.Coll) (s : List UInt8) (ws : List (List Int)) (st : Nat), vs = [.ref t, .ref a, .ref wa, .int st] ∧ Tb C H t c ∧ SqL K H a ((ib s).map V.int) ∧ s.length ≤ 200 ∧
  LLq K H wa ws ∧ ws.length ≤ 3 ∧ ∀ H' l, Same H H' → H l = none → H' l = some (.lst ((firstM c s ws st).map V.int)) → Q (.ref l) H'
theorem scFirst : FnScope ["self", "s", "wanted", "start", "joints", "before", "allowed", "last", "first", "k"] ["self", "s", "wanted", "start"] (defScope sFirst) := ⟨rfl, rfl, rfl, by decide +kernel, rfl, by decide +kernel, by decide +kernel⟩
theorem ok_first (T : Txt K mg D) : FnOk P w K mg base CX0 4 D.first D.firstD ["self", "s", "wanted", "start"] (spFirst K D.CT) := by
  refine T.fFirst.ok scFirst (fun vs H Q E h => ?_) (fun cdv A outer s H vs Q E hr h => ?_)
  · obtain ⟨t, a, wa, c, s, ws, st, rfl, _⟩ := h
    rfl
  · obtain ⟨t, a, wa, c, s, ws, st, rfl, hT, hS, hlen, hW, hW3, kk⟩ := h
    have hr2 : Room 2 _ := hr.mono (by decide)
    have hr1 : Room 1 _ := hr.mono (by decide)
    refine ⟨_, pss_cons (ps_set (i := 4) scFirst.nd rfl (Or.inr rfl) (pe_meth (pv 0) T.clT T.kJof (ok_jof T) hr2 (bJof T) .nil pass0 (pa_cons (pv 1) pa_nil)))
      (pss_cons (ps_set (i := 5) scFirst.nd rfl (Or.inl rfl) (pe_meth (pv 0) T.clT T.kLbef (ok_lbef T) hr (bLbef T) .nil pass0 (pa_cons (pv 1) (pa_cons (pv 4) pa_nil))))
      (pss_cons (ps_setLc (i := 6) (own := [("k", 9)]) rfl scFirst.nd rfl rfl (sw_true rfl rfl rfl (by decide +kernel)) (pi_range1 (by rfl) T.brange (pa_cons (pe_len T.blen (pv 4)) pa_nil))
        (blkOk_by (by show blkC ["self", "s", "wanted", "start", "joints", "before", "allowed", "last", "first", "k"] (defScope sFirst) _ _ = true; decide +kernel))
        (fun _ _ _ _ _ => pg_name (i := 9) scFirst.nd rfl (Or.inl rfl)) (fun _ _ _ _ _ => pts_one (pt_cmpR op_ge (pe_ix (r := rIxL K) ix_list (pv 4) (pv 9) (fun _ _ => rfl)) (pv 3) (nomark _)))
        (fun _ _ _ _ _ => pv 9))
      (pss_cons (ps_for PassesOwn.never rfl (pi_list (pv 6)) (pg_name (i := 7) scFirst.nd rfl (Or.inl rfl))
        (pss_one (ps_for PassesOwn.never rfl (pi_range3 (by rfl) T.brange (pa_cons (pv 7) (pa_cons (pe_op op_sub (pe_ix ix_list (pv 6) pe_int (fun _ _ => rfl)) pe_int) (pa_cons (pe_un un_neg pe_int) pa_nil)))) (pg_name (i := 8) scFirst.nd rfl (Or.inl rfl))
          (pss_one (ps_if (pt_val (pe_call (ok_betw T) hr1 (by rfl) T.mBetw T.fBetw.kp (bBetw T) .nil pass0 (pa_cons (pe_ix ix_list (pv 5) (pv 8) (fun _ _ => rfl)) (pa_cons (pe_ix ix_list (pv 5) (pv 7) (fun _ _ => rfl)) (pa_cons (pv 2) pa_nil)))))
            (pss_one (ps_ret (pe_lst (pa_cons pe_int (pa_cons (pe_ix ix_list (pv 4) (pv 8) (fun _ _ => rfl)) (pa_cons (pe_ix ix_list (pv 4) (pv 7) (fun _ _ => rfl)) pa_nil)))))) pss_nil)))))
      (pss_one (ps_ret (pe_lst (pa_cons pe_int pa_nil))))))), ?_⟩
    dsimp only [cxOf, Cx.nox]
    obtain ⟨n, en⟩ : ∃ n, n = (Sm.cutAll c.entries s).length := ⟨_, rfl⟩
    have hn : n ≤ 200 := by rw [en]; exact Nat.le_trans (cuts_len _ _) hlen
    obtain ⟨d0, kvs0, B0, _⟩ := hT.ex
    obtain ⟨dx0, ht0⟩ := id B0.ins
    refine (rM rfl (ht0) (tf_no _ _ (by decide) (by decide)) ⟨_, rfl, t, a, c, s, rfl, hT, hS, hlen, fun H1 jo s1 n1 hj => ?_⟩)
    have T1 := hT.same s1
    obtain ⟨d1, kvs1, B1, _⟩ := T1.ex
    obtain ⟨dx1, ht1⟩ := id B1.ins
    refine (rM rfl (ht1) (tf_no _ _ (by decide) (by decide)) ⟨_, rfl, _, rfl, t, a, jo, c, s, rfl, T1, s1.seq hS, hlen, hj, fun H2 be s2 n2 hB => ?_⟩)
    rw [← en] at hj hB
    have hj2 := s2 _ _ hj
    have s12 := s1.trans s2
    refine ⟨_, rfl, jo, _, rfl, .inl (SqL.of hj2), ((n + 1 : Nat) : Int), ?_, ?_, ?_, fun al hal => ?_⟩
    · rw [List.length_map, jl_len]
    · have : (-(2 ^ 62) : Int) ≤ 0 := by decide
      omega
    · have : (300 : Int) < 2 ^ 62 := by decide
      omega
    have enn : (((n + 1 : Nat) : Int)).toNat = n + 1 := by omega
    rw [enn]
    obtain ⟨p, ep⟩ : ∃ p : Nat → Bool, p = fun k => decide (st ≤ Sm.joint (Sm.cutAll c.entries s) k) := ⟨_, rfl⟩
    have s3 : Same H2 (upd H2 al (.lst [])) := Same.upd_new hal
    have hal0 : H al = none := s12.free hal
    refine lc_range (fun i H' => H' al = some (.lst ((((List.range i).filter p).map fun k => ((k : Nat) : Int)).map V.int)) ∧ Same H2 H') ⟨upd_same, s3⟩ ?_ ?_
    · rintro i H' hi ⟨hd, hs⟩
      have e0 : (0 : Int) + ((i : Nat) : Int) = (i : Int) := by omega
      rw [e0]
      have hg : atI ((jl c s (n + 1)).map V.int) (i : Int) = some (V.int ((Sm.joint (Sm.cutAll c.entries s) i : Nat) : Int)) := by
        refine atI_nat ?_
        rw [List.getElem?_map, jl_get c s hi]
        rfl
      refine ⟨rfl, _, rfl, _, rfl, jo, _, _, _, rfl, rfl, SqL.of (hs _ _ hj2), hg, _, rfl, _, _, rfl, rfl, _, rfl, ?_⟩
      have epi : decide ((st : Int) ≤ ((Sm.joint (Sm.cutAll c.entries s) i : Nat) : Int)) = p i := by
        rw [ep]
        show _ = decide (st ≤ Sm.joint (Sm.cutAll c.entries s) i)
        rw [decide_eq_decide]
        omega
      rw [epi]
      cases e : p i with
      | true =>
        refine iteT ⟨_, rfl, _, hd, ?_, ?_, fun b o eb => ?_⟩
        · rw [List.length_map, List.length_map]
          have := List.length_filter_le p (List.range i)
          rw [List.length_range] at this
          exact small1000 (by omega)
        · rw [upd_same, List.range_succ, List.filter_append, List.filter_cons, e, if_pos rfl, List.filter_nil, List.map_append, List.map_append]
          rfl
        · rw [upd_ne (ne_of_none eb hal)]
          exact hs b o eb
      | false =>
        refine iteF ⟨?_, hs⟩
        rw [hd, List.range_succ, List.filter_append, List.filter_cons, e, if_neg Bool.false_ne_true, List.filter_nil, List.append_nil]
    · rintro H3 ⟨hA, sA⟩
      have s13 := s12.trans sA
      have hj3 := sA _ _ hj2
      have hB3 := BfAt.same hB sA
      have hW3' := LLq.same hW s13
      obtain ⟨L, eL⟩ : ∃ L, L = (List.range (n + 1)).filter p := ⟨_, rfl⟩
      rw [← eL] at hA
      have hLm : ∀ x ∈ L, x ≤ n ∧ p x = true := fun x hx => by
        rw [eL, List.mem_filter, List.mem_range] at hx
        exact ⟨by omega, hx.2⟩
      have eF : (List.range (n + 1)).findSome? (fM c s ws st) = L.findSome? (fM c s ws st) := by
        rw [eL]
        refine fs_filter p _ _ fun x hx hp => ?_
        unfold fM
        rw [rfind_none]
        · rfl
        · intro i hi
          have h1 : ¬ st ≤ Sm.joint (Sm.cutAll c.entries s) x := by
            rw [ep] at hp
            exact of_decide_eq_false hp
          have h2 := joint_mono (Sm.cutAll c.entries s) i x hi
          unfold qM
          rw [decide_eq_false (by omega : ¬ st ≤ Sm.joint (Sm.cutAll c.entries s) i)]
          rfl
      refine ⟨_, rfl, al, rfl, ⟨_, SqL.of hA⟩, ?_⟩
      refine for_list (K := K) (a := al) (xs := (L.map fun k => ((k : Nat) : Int)).map V.int) (fun i σ H' => ∃ (v7 v8 : Option V), σ = [some (.ref t), some (.ref a), some (.ref wa), some (.int st), some (.ref jo), some (.ref be), some (.ref al), v7, v8, none] ∧ Same H3 H' ∧ ∀ x ∈ L.take i, fM c s ws st x = none)
        ⟨none, none, rfl, Same.refl _, fun x hx => by simp at hx⟩ (fun i σ H' _ h => let ⟨_, _, _, hs, _⟩ := h; SqL.of (hs _ _ hA)) ?_ ?_
      · rintro i x σ H' hi ⟨v7, v8, rfl, hs, hnone⟩
        obtain ⟨z, hz, rfl⟩ := get_ints hi
        rw [List.getElem?_map] at hz
        obtain ⟨last, hlast, rfl⟩ := Option.map_eq_some_iff.mp hz
        obtain ⟨hln, hlp⟩ := hLm last (List.mem_of_getElem? hlast)
        obtain ⟨a0, ha0⟩ : ∃ a0, L[0]? = some a0 := by
          cases L with
          | nil => simp at hlast
          | cons y r => exact ⟨y, rfl⟩
        obtain ⟨f1, f2, f3⟩ := filter_first (by rw [eL] at ha0; exact ha0)
        have hal_le : a0 ≤ last := by
          refine Classical.byContradiction fun z => ?_
          have := f3 last (by omega)
          rw [hlp] at this
          cases this
        have hg0 : atI ((L.map fun k => ((k : Nat) : Int)).map V.int) (0 : Int) = some (V.int (a0 : Int)) := by
          refine at_of (j := 0) rfl ?_
          rw [List.getElem?_map, List.getElem?_map, ha0]
          rfl
        refine ⟨_, rfl, _, rfl, al, _, _, _, rfl, rfl, SqL.of (hs _ _ hA), hg0, _, _, rfl, rfl, _, rfl, (last : Int), (a0 : Int) - 1, -1, last - a0 + 1, rfl, ?_, ?_⟩
        · have b1 : (-(2 ^ 62) : Int) ≤ -1 := by decide
          have b2 : (300 : Int) < 2 ^ 62 := by decide
          have q := RgC.neg (i := (last : Int)) (j := (a0 : Int) - 1) (by omega) (by omega) (by omega) (by omega)
          have e1 : ((last : Int) - ((a0 : Int) - 1)).toNat = last - a0 + 1 := by omega
          rw [e1] at q
          exact q
        refine for_rangeC (fun m σ H' => ∃ v8 : Option V, σ = [some (.ref t), some (.ref a), some (.ref wa), some (.int st), some (.ref jo), some (.ref be), some (.ref al), some (.int last), v8, none] ∧ Same H3 H' ∧ ∀ i, last < i + m → i ≤ last → qM c s ws st i last = false)
          ⟨v8, rfl, hs, fun i h1 h2 => by omega⟩ ?_ ?_
        · rintro m σ H4 hm ⟨v8, rfl, hs4, hq⟩
          obtain ⟨first, ef⟩ : ∃ first, first = last - m := ⟨_, rfl⟩
          have e1 : (last : Int) + (m : Nat) * (-1 : Int) = (first : Int) := by omega
          rw [e1]
          have hB4 := BfAt.same hB3 hs4
          obtain ⟨xf, pf, g1, g2, g3⟩ := hB4.item (i := first) (by omega)
          obtain ⟨xl, pl, k1, k2, k3⟩ := hB4.item (i := last) (by omega)
          refine ⟨_, rfl, _, rfl, be, _, _, _, rfl, rfl, g1, g2, _, rfl, _, rfl, be, _, _, _, rfl, rfl, k1, k2, _, rfl, pf, pl, wa, _, _, ws, rfl, g3, k3, LLq.same hW3' hs4, hW3, hW3, hW3, fun H5 s5 => ⟨_, rfl, ?_⟩⟩
          have hjf : ∀ {i : Nat}, i ≤ n → atI ((jl c s (n + 1)).map V.int) (i : Int) = some (V.int ((Sm.joint (Sm.cutAll c.entries s) i : Nat) : Int)) := fun {i} hi => by
            refine atI_nat ?_
            rw [List.getElem?_map, jl_get c s (by omega)]
            rfl
          by_cases hb : betw (bf c s first) (bf c s last) ws.length = ws
          · rw [decide_eq_true hb]
            refine iteT ?_
            have s35 := hs4.trans s5
            refine ⟨_, rfl, _, rfl, jo, _, _, _, rfl, rfl, SqL.of (s35 _ _ hj3), hjf (by omega), _, rfl, _, rfl, jo, _, _, _, rfl, rfl, SqL.of (s35 _ _ hj3), hjf hln, (by show 3 ≤ sizeLine; decide), fun l hl => ?_⟩
            have s15 := s13.trans s35
            refine kk _ l (s15.trans (Same.upd_new hl)) (s15.free hl) ?_
            rw [upd_same]
            have hst : st ≤ Sm.joint (Sm.cutAll c.entries s) first := by
              have h1 : st ≤ Sm.joint (Sm.cutAll c.entries s) a0 := by
                rw [ep] at f2
                exact of_decide_eq_true f2
              have h2 := joint_mono (Sm.cutAll c.entries s) a0 first (by omega)
              omega
            have hqf : qM c s ws st first last = true := by
              unfold qM
              rw [decide_eq_true hst, decide_eq_true hb]
              rfl
            have hF : fM c s ws st last = some (Sm.joint (Sm.cutAll c.entries s) first, Sm.joint (Sm.cutAll c.entries s) last) := by
              unfold fM
              rw [rfind_some (q := fun i => qM c s ws st i last) (f := first) hqf (by omega) (fun i h1 h2 => hq i (by omega) h2)]
              rfl
            have hM : firstM c s ws st = [1, ((Sm.joint (Sm.cutAll c.entries s) first : Nat) : Int), ((Sm.joint (Sm.cutAll c.entries s) last : Nat) : Int)] := by
              unfold firstM
              rw [← en, eF, fs_at hF hlast hnone]
            rw [hM]
            rfl
          · rw [decide_eq_false hb]
            refine iteF ?_
            refine ⟨_, rfl, hs4.trans s5, fun i h1 h2 => ?_⟩
            by_cases ei : i = first
            · subst ei
              unfold qM
              rw [decide_eq_false hb, Bool.and_false]
            · exact hq i (by omega) h2
        · rintro σ H4 ⟨v8, rfl, hs4, hq⟩
          refine ⟨_, _, rfl, hs4, fun x hx => ?_⟩
          rw [take_snoc hlast] at hx
          rcases List.mem_append.mp hx with hx | hx
          · exact hnone x hx
          · have ex : x = last := List.mem_singleton.mp hx
            subst ex
            unfold fM
            rw [rfind_none]
            · rfl
            · intro i hi
              by_cases h0 : i < a0
              · have h1 := f3 i h0
                rw [ep] at h1
                have h2 : ¬ st ≤ Sm.joint (Sm.cutAll c.entries s) i := of_decide_eq_false h1
                unfold qM
                rw [decide_eq_false h2]
                rfl
              · exact hq i (by omega) hi
      · rintro σ H' ⟨v7, v8, rfl, hs, hnone⟩
        refine ⟨(by show 1 ≤ sizeLine; decide), fun l hl => ?_⟩
        have s15 := s13.trans hs
        refine kk _ l (s15.trans (Same.upd_new hl)) (s15.free hl) ?_
        rw [upd_same]
        have hM : firstM c s ws st = [0] := by
          unfold firstM
          rw [List.length_map, List.length_map, List.take_length] at hnone
          rw [← en, eF, List.findSome?_eq_none_iff.mpr hnone]
        rw [hM]
        rfl
theorem bFirst (T : Txt K mg D) : Binds K D.firstD ["self", "s", "wanted", "start"] [] := T.fFirst.binds fun _ _ _ _ _ _ => bind4 fun _ _ _ _ => rfl
end
end Sh
end
section
set_option Elab.async false
set_option linter.all false
set_option maxRecDepth 100000
set_option maxHeartbeats 2000000
namespace Sh
open PySem PySem.Spec PyProof.Rows L2
open PySem.W (Codec)
noncomputable def zi (l : List Nat) : List Int := l.map fun (n : Nat) => (n : Int)
theorem zi_inj {a b : List Nat} (h : zi a = zi b) : a = b := (List.map_inj_right (fun x y e => by omega)).mp h
theorem zis_inj {a b : List (List Nat)} (h : a.map zi = b.map zi) : a = b := (List.map_inj_right (fun x y e => zi_inj e)).mp h
theorem zi_filter (f : Sm.Element → Nat) : ∀ es : List Sm.Element, (es.map fun e => (f e : Int)).filter (fun z => decide (z ≠ 0)) = zi (Sm.nonzero (es.map f))
  | [] => rfl
  | e :: es => by
    have ih := zi_filter f es
    unfold Sm.nonzero at ih ⊢
    rw [List.map_cons, List.map_cons, List.filter_cons, List.filter_cons]
    by_cases h : f e = 0
    · rw [if_neg (by simp [h]), if_neg (by simp [h])]
      exact ih
    · rw [if_pos (by simp [h]), if_pos (by simp [h]), ih]
      rfl
theorem lev0 (es : List Sm.Element) : lev 0 (es.map toElm) = zi (Sm.firsts es) := by
  unfold lev Sm.firsts
  rw [List.map_map]
  exact zi_filter (fun e => e.one) es
theorem lev1 (es : List Sm.Element) : lev 1 (es.map toElm) = zi (Sm.seconds false es) := by
  unfold lev Sm.seconds
  rw [List.map_map]
  exact zi_filter (fun e => e.two) es
theorem lev2 (es : List Sm.Element) : lev 2 (es.map toElm) = zi (Sm.thirds es) := by
  unfold lev Sm.thirds
  rw [List.map_map]
  exact zi_filter (fun e => e.three) es
theorem seconds_back (es : List Sm.Element) : Sm.seconds true es = (Sm.seconds false es).reverse := rfl
theorem levsO_eq (b : Bool) (es : List Sm.Element) : levsO (optOf b) (es.map toElm) = [zi (Sm.firsts es), zi (Sm.seconds b es), zi (Sm.thirds es)] := by
  unfold levsO
  rw [lev0, lev1, lev2]
  cases b with
  | false => rfl
  | true =>
    rw [if_pos (show optOf true = 1 from rfl), seconds_back]
    unfold zi
    rw [List.map_reverse]
theorem levsO_take (b : Bool) (es : List Sm.Element) (k : Nat) : (levsO (optOf b) (es.map toElm)).take k = (Sm.levels b k es).map zi := by
  rw [levsO_eq]
  unfold Sm.levels
  rw [List.map_take]
  rfl
theorem levs_take (es : List Sm.Element) (k : Nat) : (levs (es.map toElm)).take k = (Sm.levels false k es).map zi := by
  unfold levs
  rw [lev0, lev1, lev2]
  unfold Sm.levels
  rw [List.map_take]
  rfl
theorem lex_less : ∀ x y : List Nat, lexG (fun i j : Int => decide (i < j)) (zi x) (zi y) = Sm.less x y
  | [], [] => rfl
  | [], _ :: _ => rfl
  | _ :: _, [] => rfl
  | a :: x, b :: y => by
    have ih := lex_less x y
    show (if (a : Int) = (b : Int) then lexG (fun i j : Int => decide (i < j)) (zi x) (zi y) else decide ((a : Int) < (b : Int))) = (decide (a < b) || (a == b && Sm.less x y))
    by_cases h : a = b
    · subst h
      rw [if_pos rfl, ih, decide_eq_false (Nat.lt_irrefl a)]
      simp
    · rw [if_neg (by omega), beq_eq_false_iff_ne.mpr h, Bool.false_and, Bool.or_false, decide_eq_decide]
      omega
theorem ordN_cons (x : List Int) (r s : List (List Int)) : ordN (x :: r) (x :: s) = ordN r s := by
  unfold ordN
  have e : lexLL (x :: r) (x :: s) = lexLL r s := by
    show (if x = x then lexLL r s else _) = _
    rw [if_pos rfl]
  rw [e]
  by_cases h : r = s
  · rw [if_pos (by rw [h]), if_pos h]
  · rw [if_neg (fun z => h (List.cons.inj z).2), if_neg h]
theorem ordN_eq : ∀ ls ms : List (List Nat), ls.length = ms.length → ordN (ls.map zi) (ms.map zi) = ((Sm.order ls ms : Nat) : Int)
  | [], [], _ => rfl
  | [], _ :: _, h => by simp at h
  | _ :: _, [], h => by simp at h
  | x :: r, y :: s, h => by
    rw [List.map_cons, List.map_cons]
    show _ = (((if x = y then Sm.order r s else Sm.ordered x y) : Nat) : Int)
    by_cases e : x = y
    · subst e
      rw [ordN_cons, if_pos rfl]
      exact ordN_eq r s (by simpa using h)
    · have e' : ¬ zi x = zi y := fun z => e (zi_inj z)
      unfold ordN Sm.ordered
      rw [if_neg (fun z => e' (List.cons.inj z).1), if_neg e, if_neg e]
      have q : lexLL (zi x :: r.map zi) (zi y :: s.map zi) = Sm.less x y := by
        show (if zi x = zi y then _ else lexG (fun i j : Int => decide (i < j)) (zi x) (zi y)) = _
        rw [if_neg e', lex_less]
      rw [q]
      by_cases hl : Sm.less x y = true
      · rw [if_pos hl, if_pos hl]
        rfl
      · rw [if_neg hl, if_neg hl]
        rfl
theorem levels_len (b : Bool) (k : Nat) (x y : List Sm.Element) : (Sm.levels b k x).length = (Sm.levels b k y).length := by
  unfold Sm.levels
  rw [List.length_take, List.length_take]
  rfl
theorem betw_eq (a m : List Elm) : ∀ k, k ≤ 3 → betw (levs a) (levs (a ++ m)) k = (levs m).take k := by
  have d : ∀ i, (lev i (a ++ m)).drop (lev i a).length = lev i m := fun i => by
    rw [lev_append, List.drop_left']
    rfl
  intro k hk
  match k, hk with
  | 0, _ => rfl
  | 1, _ =>
    show [(lev 0 (a ++ m)).drop (lev 0 a).length] = [lev 0 m]
    rw [d]
  | 2, _ =>
    show [(lev 0 (a ++ m)).drop (lev 0 a).length, (lev 1 (a ++ m)).drop (lev 1 a).length] = [lev 0 m, lev 1 m]
    rw [d, d]
  | 3, _ =>
    show [(lev 0 (a ++ m)).drop (lev 0 a).length, (lev 1 (a ++ m)).drop (lev 1 a).length, (lev 2 (a ++ m)).drop (lev 2 a).length] = [lev 0 m, lev 1 m, lev 2 m]
    rw [d, d, d]
theorem levels_back (b : Bool) {k : Nat} (h : 1 ≤ k ∧ k ≤ 3) (x y : List Sm.Element) : Sm.levels b k x = Sm.levels b k y ↔ Sm.levels false k x = Sm.levels false k y := by
  cases b with
  | false => exact Iff.rfl
  | true =>
    have r : Sm.seconds true x = Sm.seconds true y ↔ Sm.seconds false x = Sm.seconds false y := by
      rw [seconds_back, seconds_back, List.reverse_inj]
    match k, h with
    | 1, _ => exact Iff.rfl
    | 2, _ =>
      show [Sm.firsts x, Sm.seconds true x] = [Sm.firsts y, Sm.seconds true y] ↔ [Sm.firsts x, Sm.seconds false x] = [Sm.firsts y, Sm.seconds false y]
      simp only [List.cons.injEq, r]
    | 3, _ =>
      show [Sm.firsts x, Sm.seconds true x, Sm.thirds x] = [Sm.firsts y, Sm.seconds true y, Sm.thirds y] ↔ [Sm.firsts x, Sm.seconds false x, Sm.thirds x] = [Sm.firsts y, Sm.seconds false y, Sm.thirds y]
      simp only [List.cons.injEq, r]
theorem take_split {α : Type} (l : List α) {i j : Nat} (h : i ≤ j) : l.take j = l.take i ++ (l.take j).drop i := by
  conv => lhs; rw [← List.take_append_drop i (l.take j)]
  rw [List.take_take, Nat.min_eq_left h]
theorem fits_eq (c : Sm.Coll) (s p : List UInt8) {k : Nat} (hk : 1 ≤ k ∧ k ≤ 3) {i j : Nat} (h : i ≤ j) :
    decide (betw (bf c s i) (bf c s j) ((levs ((c.elements p).map toElm)).take k).length = (levs ((c.elements p).map toElm)).take k) = c.fits (Sm.cutAll c.entries s) (Sm.levels c.back k (c.elements p)) k i j := by
  have el : ((levs ((c.elements p).map toElm)).take k).length = k := by
    rw [List.length_take]
    show min k 3 = k
    omega
  have eb : betw (bf c s i) (bf c s j) k = (levs ((Sm.elementsOf (((Sm.cutAll c.entries s).take j).drop i)).map toElm)).take k := by
    unfold bf
    conv => lhs; rw [take_split (Sm.cutAll c.entries s) h, elementsOf_append, List.map_append]
    exact betw_eq _ _ k hk.2
  rw [el, eb, levs_take, levs_take]
  unfold Sm.Coll.fits
  rw [Bool.eq_iff_iff, decide_eq_true_eq, beq_iff_eq, levels_back c.back hk]
  exact ⟨fun z => zis_inj z, fun z => by rw [z]⟩
theorem find_congr {α : Type} {p q : α → Bool} : ∀ {l : List α}, (∀ x ∈ l, p x = q x) → l.find? p = l.find? q
  | [], _ => rfl
  | x :: l, h => by
    rw [List.find?_cons, List.find?_cons, h x (by simp), find_congr (l := l) fun y hy => h y (by simp [hy])]
theorem firstM_eq (c : Sm.Coll) (s p : List UInt8) {k : Nat} (hk : 1 ≤ k ∧ k ≤ 3) (st : Nat) :
    firstM c s ((levs ((c.elements p).map toElm)).take k) st = (match c.find s p k st with | some x => [1, (x.1 : Int), (x.2 : Int)] | none => [0]) := by
  have e : (List.range ((Sm.cutAll c.entries s).length + 1)).findSome? (fM c s ((levs ((c.elements p).map toElm)).take k) st) = c.find s p k st := by
    unfold Sm.Coll.find
    show _ = (List.range ((Sm.cutAll c.entries s).length + 1)).findSome? _
    congr 1
    funext j
    unfold fM
    congr 1
    refine find_congr fun i hi => ?_
    have hi : i < j + 1 := List.mem_range.mp (List.mem_reverse.mp hi)
    unfold qM
    rw [fits_eq c s p hk (by omega)]
  unfold firstM
  rw [e] <;> rfl
theorem tri_eq {n : Nat} (h : n < 16777216) : ib (Sm.three n) = tri (n : Int) := by
  rw [three_ib h]
  unfold tri
  congr 1
theorem ib_three : ∀ {ns : List Nat}, (∀ n ∈ ns, n < 16777216) → ib (ns.flatMap Sm.three) = inB (zi ns)
  | [], _ => rfl
  | n :: ns, h => by
    have e : inB (zi (n :: ns)) = tri (n : Int) ++ inB (zi ns) := List.flatMap_cons
    rw [List.flatMap_cons, ib_append, e, tri_eq (h n (by simp)), ib_three fun m hm => h m (by simp [hm])]
theorem nz_mem {f : Sm.Element → Nat} {es : List Sm.Element} {n : Nat} (h : n ∈ Sm.nonzero (es.map f)) : ∃ e ∈ es, f e = n := by
  have h := (List.mem_filter.mp h).1
  obtain ⟨e, he, q⟩ := List.mem_map.mp h
  exact ⟨e, he, q⟩
theorem key_bytes {c : Sm.Coll} (h : TabOk c) (t : List UInt8) : ib (c.key t) = inB (zi (Sm.firsts (c.elements t)) ++ [0] ++ zi (Sm.seconds c.back (c.elements t)) ++ [0] ++ zi (Sm.thirds (c.elements t))) := by
  have he := (elements_ok h t).2
  have b1 : ∀ n ∈ Sm.firsts (c.elements t), n < 16777216 := fun n hn => by
    obtain ⟨e, hm, q⟩ := nz_mem hn
    have := (he e hm).1
    omega
  have b2' : ∀ n ∈ Sm.seconds false (c.elements t), n < 16777216 := fun n hn => by
    obtain ⟨e, hm, q⟩ := nz_mem (f := fun e => e.two) hn
    have := (he e hm).2.1
    omega
  have b2 : ∀ n ∈ Sm.seconds c.back (c.elements t), n < 16777216 := fun n hn => by
    cases hb : c.back with
    | false =>
      rw [hb] at hn
      exact b2' n hn
    | true =>
      rw [hb, seconds_back] at hn
      exact b2' n (List.mem_reverse.mp hn)
  have b3 : ∀ n ∈ Sm.thirds (c.elements t), n < 16777216 := fun n hn => by
    obtain ⟨e, hm, q⟩ := nz_mem hn
    have := (he e hm).2.2
    omega
  show ib ((Sm.firsts (c.elements t)).flatMap Sm.three ++ (Sm.three 0 ++ ((Sm.seconds c.back (c.elements t)).flatMap Sm.three ++ (Sm.three 0 ++ (Sm.thirds (c.elements t)).flatMap Sm.three)))) = _
  have e0 : inB [0] = ib (Sm.three 0) := rfl
  simp only [ib_append, inB_append, ib_three b1, ib_three b2, ib_three b3, e0, List.append_assoc]
theorem low_bytes {c : Sm.Coll} (h : TabOk c) (t : List UInt8) : ib (c.low t) = inB (zi (Sm.firsts (c.elements t))) := by
  have he := (elements_ok h t).2
  exact ib_three fun n hn => by
    obtain ⟨e, hm, q⟩ := nz_mem hn
    have := (he e hm).1
    omega
theorem high_bytes {c : Sm.Coll} (h : TabOk c) (t : List UInt8) : ib (c.high t) = inB (zi (Sm.firsts (c.elements t))) ++ [255, 255, 255] := by
  show ib (c.low t ++ [255, 255, 255]) = _
  rw [ib_append, low_bytes h]
  rfl
end Sh
end
section
set_option Elab.async false
set_option linter.all false
set_option maxRecDepth 100000
set_option maxHeartbeats 2000000
namespace Sh
open PySem PySem.Spec PyProof.Rows L2
open PySem.W (Codec)
noncomputable def compN (c : Sm.Coll) (x y : List UInt8) (k : Int) : Int := if 1 ≤ k ∧ k ≤ 3 then (if 64 < x.length ∨ 64 < y.length then -2 else ((c.order k.toNat x y : Nat) : Int)) else -1
noncomputable def findN (c : Sm.Coll) (s p : List UInt8) (k f : Int) : List Int := if 1 ≤ k ∧ k ≤ 3 then (if 64 < s.length ∨ 64 < p.length then [-2] else (match c.find s p k.toNat f.toNat with | some x => [1, (x.1 : Int), (x.2 : Int)] | none => [0])) else [-1]
theorem LLs.cut {K : PySem.W.Frag} {H : Hp} {l : Addr} {as : List Addr} {ls : List (List Int)} (h : LLs H l as ls) {k : Nat} (hk : k ≤ ls.length) {q : Addr} (hq : H q = none) :
    cutV (as.map V.ref) none (some (k : Int)) = (as.take k).map V.ref ∧ LLq K (upd H q (.lst ((as.take k).map V.ref))) q (ls.take k) := by
  have e : as.length = ls.length := Paired.length h.2
  refine ⟨?_, as.take k, SqL.of upd_same, ?_⟩
  · rw [cut_to _ (by rw [List.length_map]; omega), List.map_take]
  · have t : ∀ {as : List Addr} {ls : List (List Int)} (k : Nat), Paired (fun p ns => H p = some (.lst (ns.map V.int))) as ls → Paired (fun p ns => H p = some (.lst (ns.map V.int))) (as.take k) (ls.take k) := by
      intro as ls k h
      induction h generalizing k with
      | nil =>
        rw [List.take_nil, List.take_nil]
        exact .nil
      | cons r t ih =>
        cases k with
        | zero => exact .nil
        | succ k => exact .cons r (ih k)
    exact Paired.mapP (t k h.2) fun p ns q1 => SqL.of (Same.upd_new hq _ _ q1)
section
variable {P : Program} {w : World} {K : PySem.W.Frag} {mg : Str → Option Value} {base : Heap} {D : Adr}
noncomputable def spComp (K : PySem.W.Frag) (C : Addr) : Sp := fun vs H Q _ => ∃ (t a b : Addr) (c : Sm.Coll) (x y : List UInt8) (k : Int), vs = [.ref t, .ref a, .ref b, .int k] ∧ Tb C H t c ∧ SqL K H a ((ib x).map V.int) ∧ SqL K H b ((ib y).map V.int) ∧
  ∀ H', Same H H' → Q (.int (compN c x y k)) H'
theorem scComp : FnScope ["self", "a", "b", "strength"] ["self", "a", "b", "strength"] (defScope sComp) := ⟨rfl, rfl, rfl, by decide +kernel, rfl, by decide +kernel, by decide +kernel⟩
theorem ok_comp (T : Txt K mg D) : FnOk P w K mg base CX0 5 D.comp D.compD ["self", "a", "b", "strength"] (spComp K D.CT) := by
  refine T.fComp.ok scComp (fun vs H Q E h => ?_) (fun cdv A outer s H vs Q E hr h => ?_)
  · obtain ⟨t, a, b, c, x, y, k, rfl, _⟩ := h
    rfl
  · obtain ⟨t, a, b, c, x, y, k, rfl, hT, hX, hY, kk⟩ := h
    have hr1 : Room 1 _ := hr.mono (by decide)
    refine ⟨_, pss_cons (ps_if (pt_not (pt_val (pe_call (ok_str T) hr1 (by rfl) T.mStr T.fStr.kp (bStr T) .nil pass0 (pa_cons (pv 3) pa_nil)))) (pss_one (ps_ret (pgi T.gUN))) pss_nil)
      (pss_cons (ps_if (PW.pt (pw_or (pt_val (pe_call (ok_long T) hr1 (by rfl) T.mLong T.fLong.kp (bLong T) .nil pass0 (pa_cons (pv 1) pa_nil))) (pw_or1 (pt_val (pe_call (ok_long T) hr1 (by rfl) T.mLong T.fLong.kp (bLong T) .nil pass0 (pa_cons (pv 2) pa_nil)))))) (pss_one (ps_ret (pgi T.gTL))) pss_nil)
      (pss_one (ps_ret (pe_call (ok_ord T) hr1 (by rfl) T.mOrd T.fOrd.kp (bOrd T) .nil pass0 (pa_cons (pe_slice sl_list (pe_meth (pv 0) T.clT T.kLof (ok_lof T) hr (bLof T) .nil pass0 (pa_cons (pv 1) pa_nil)) po_none (po_some (pv 3)))
        (pa_cons (pe_slice sl_list (pe_meth (pv 0) T.clT T.kLof (ok_lof T) hr (bLof T) .nil pass0 (pa_cons (pv 2) pa_nil)) po_none (po_some (pv 3))) pa_nil)))))), ?_⟩
    dsimp only [cxOf, Cx.nox]
    have k0 := kk H (Same.refl H)
    unfold compN at k0 kk
    refine ⟨_, rfl, k, rfl, _, rfl, ?_⟩
    by_cases hk : 1 ≤ k ∧ k ≤ 3
    · rw [decide_eq_true hk]
      rw [if_pos hk] at k0 kk
      refine iteF ?_
      refine ⟨_, rfl, a, _, rfl, hX, _, rfl, ?_⟩
      rw [List.length_map, ib_len]
      by_cases h1 : 64 < x.length
      · rw [decide_eq_true h1]
        rw [if_pos (Or.inl h1)] at k0
        exact iteT k0
      · rw [decide_eq_false h1]
        refine iteF ?_
        refine ⟨_, rfl, b, _, rfl, hY, _, rfl, ?_⟩
        rw [List.length_map, ib_len]
        by_cases h2 : 64 < y.length
        · rw [decide_eq_true h2]
          rw [if_pos (Or.inr h2)] at k0
          exact iteT k0
        · rw [decide_eq_false h2]
          rw [if_neg (by omega)] at kk
          refine iteF ?_
          have ek : k = (k.toNat : Int) := by omega
          obtain ⟨d, kvs, B, _⟩ := hT.ex
          obtain ⟨dx, ht⟩ := id B.ins
          refine (rM rfl (ht) (tf_no _ _ (by decide) (by decide)) ⟨_, rfl, t, a, c, x, rfl, hT, hX, by omega, fun H1 l1 as1 s1 n1 hL1 => ?_⟩)
          refine ⟨_, rfl, _, rfl, l1, _, rfl, SqL.of hL1.1, fun q1 hq1 => ?_⟩
          rw [ek]
          obtain ⟨e1, g1⟩ := LLs.cut (K := K) hL1 (k := k.toNat) (by show k.toNat ≤ 3; omega) hq1
          rw [e1]
          have s2 := s1.trans (Same.upd_new (o := .lst ((as1.take k.toNat).map V.ref)) hq1)
          have T2 := hT.same s2
          refine (rM rfl (s2 _ _ ht) (tf_no _ _ (by decide) (by decide)) ⟨_, rfl, t, b, c, y, rfl, T2, s2.seq hY, by omega, fun H3 l3 as3 s3 n3 hL3 => ?_⟩)
          refine ⟨_, rfl, _, rfl, l3, _, rfl, SqL.of hL3.1, fun q3 hq3 => ?_⟩
          rw [ek]
          obtain ⟨e3, g3⟩ := LLs.cut (K := K) hL3 (k := k.toNat) (by show k.toNat ≤ 3; omega) hq3
          rw [show (((k.toNat : Int)).toNat) = k.toNat by omega]
          rw [e3]
          have s4 := Same.upd_new (o := .lst ((as3.take k.toNat).map V.ref)) hq3
          refine ⟨q1, q3, _, _, rfl, LLq.same g1 (s3.trans s4), g3, ?_⟩
          rw [levsO_take, levsO_take, ordN_eq _ _ (levels_len _ _ _ _)]
          exact kk _ ((s2.trans s3).trans s4)
    · rw [decide_eq_false hk]
      rw [if_neg hk] at k0
      exact iteT k0
theorem bComp (T : Txt K mg D) : Binds K D.compD ["self", "a", "b", "strength"] [] := T.fComp.binds fun _ _ _ _ _ _ => bind4 fun _ _ _ _ => rfl
noncomputable def spFind (K : PySem.W.Frag) (C : Addr) : Sp := fun vs H Q _ => ∃ (t a b : Addr) (c : Sm.Coll) (x y : List UInt8) (k f : Int), vs = [.ref t, .ref a, .ref b, .int k, .int f] ∧ Tb C H t c ∧ SqL K H a ((ib x).map V.int) ∧ SqL K H b ((ib y).map V.int) ∧ 0 ≤ f ∧
  ∀ H' l, Same H H' → H l = none → H' l = some (.lst ((findN c x y k f).map V.int)) → Q (.ref l) H'
theorem scFind : FnScope ["self", "s", "p", "strength", "start", "wanted"] ["self", "s", "p", "strength", "start"] (defScope sFind) := ⟨rfl, rfl, rfl, by decide +kernel, rfl, by decide +kernel, by decide +kernel⟩
theorem ok_find (T : Txt K mg D) : FnOk P w K mg base CX0 5 D.find D.findD ["self", "s", "p", "strength", "start"] (spFind K D.CT) := by
  refine T.fFind.ok scFind (fun vs H Q E h => ?_) (fun cdv A outer s H vs Q E hr h => ?_)
  · obtain ⟨t, a, b, c, x, y, k, f, rfl, _⟩ := h
    rfl
  · obtain ⟨t, a, b, c, x, y, k, f, rfl, hT, hX, hY, hf, kk⟩ := h
    have hr1 : Room 1 _ := hr.mono (by decide)
    have hr2 : Room 2 _ := hr.mono (by decide)
    have hr3 : Room 3 _ := hr.mono (by decide)
    refine ⟨_, pss_cons (ps_if (pt_not (pt_val (pe_call (ok_str T) hr1 (by rfl) T.mStr T.fStr.kp (bStr T) .nil pass0 (pa_cons (pv 3) pa_nil)))) (pss_one (ps_ret (pe_lst (pa_cons (pgi T.gUN) pa_nil)))) pss_nil)
      (pss_cons (ps_if (PW.pt (pw_or (pt_val (pe_call (ok_long T) hr1 (by rfl) T.mLong T.fLong.kp (bLong T) .nil pass0 (pa_cons (pv 1) pa_nil))) (pw_or1 (pt_val (pe_call (ok_long T) hr1 (by rfl) T.mLong T.fLong.kp (bLong T) .nil pass0 (pa_cons (pv 2) pa_nil)))))) (pss_one (ps_ret (pe_lst (pa_cons (pgi T.gTL) pa_nil)))) pss_nil)
      (pss_cons (ps_set (i := 5) scFind.nd rfl (Or.inl rfl) (pe_slice sl_list (pe_call (ok_stand T) hr2 (by rfl) T.mStand T.fStand.kp (bStand T) .nil pass0 (pa_cons (pe_meth (pv 0) T.clT T.kWof (ok_wof T) hr3 (bWof T) .nil pass0 (pa_cons (pv 2) pa_nil)) pa_nil)) po_none (po_some (pv 3))))
      (pss_one (ps_ret (pe_meth (pv 0) T.clT T.kFirst (ok_first T) hr (bFirst T) .nil pass0 (pa_cons (pv 1) (pa_cons (pv 5) (pa_cons (pv 4) pa_nil)))))))), ?_⟩
    dsimp only [cxOf, Cx.nox]
    unfold findN at kk
    have one : ∀ z : Int, (∀ H' l, Same H H' → H l = none → H' l = some (.lst ([z].map V.int)) → Q (.ref l) H') → ∀ l, H l = none → Q (.ref l) (upd H l (.lst [V.int z])) := fun z h l hl => h _ l (Same.upd_new hl) hl upd_same
    refine ⟨_, rfl, k, rfl, _, rfl, ?_⟩
    by_cases hk : 1 ≤ k ∧ k ≤ 3
    · rw [decide_eq_true hk]
      rw [if_pos hk] at kk
      refine iteF ?_
      refine ⟨_, rfl, a, _, rfl, hX, _, rfl, ?_⟩
      rw [List.length_map, ib_len]
      by_cases h1 : 64 < x.length
      · rw [decide_eq_true h1]
        rw [if_pos (Or.inl h1)] at kk
        exact iteT (iteT ⟨(by show 1 ≤ sizeLine; decide), one _ kk⟩)
      · rw [decide_eq_false h1]
        refine iteF ?_
        refine ⟨_, rfl, b, _, rfl, hY, _, rfl, ?_⟩
        rw [List.length_map, ib_len]
        by_cases h2 : 64 < y.length
        · rw [decide_eq_true h2]
          rw [if_pos (Or.inr h2)] at kk
          exact iteT ⟨(by show 1 ≤ sizeLine; decide), one _ kk⟩
        · rw [decide_eq_false h2]
          rw [if_neg (by omega)] at kk
          refine iteF ?_
          have ek : k = (k.toNat : Int) := by omega
          have ef : f = (f.toNat : Int) := by omega
          obtain ⟨d, kvs, B, _⟩ := hT.ex
          obtain ⟨dx, ht⟩ := id B.ins
          have hel := (elements_ok hT.ok y).1
          refine (rM rfl (ht) (tf_no _ _ (by decide) (by decide)) ⟨_, rfl, t, b, c, y, rfl, hT, hY, by omega, fun H1 l1 s1 n1 hE => ?_⟩)
          refine ⟨l1, _, rfl, hE, by rw [List.length_map]; omega, fun H2 l2 as2 s2 n2 hL2 hap2 => ?_⟩
          refine ⟨_, rfl, _, rfl, l2, _, rfl, SqL.of hL2.1, fun q hq => ?_⟩
          rw [ek]
          obtain ⟨e1, g1⟩ := LLs.cut (K := K) hL2 (k := k.toNat) (by show k.toNat ≤ 3; omega) hq
          rw [e1]
          have s3 := (s1.trans s2).trans (Same.upd_new (o := .lst ((as2.take k.toNat).map V.ref)) hq)
          refine (rM rfl (s3 _ _ ht) (tf_no _ _ (by decide) (by decide)) ⟨_, rfl, _, rfl, _, rfl, t, a, q, c, x, _, f.toNat, (by rw [← ef]; rfl), hT.same s3, s3.seq hX, by omega, g1, by rw [List.length_take]; omega, fun H4 l4 s4 n4 hl4 => ?_⟩)
          rw [firstM_eq c x y (k := k.toNat) (by omega) f.toNat] at hl4
          exact kk H4 l4 (s3.trans s4) (s3.free n4) hl4
    · rw [decide_eq_false hk]
      rw [if_neg hk] at kk
      exact iteT ⟨(by show 1 ≤ sizeLine; decide), one _ kk⟩
theorem bFind (T : Txt K mg D) : Binds K D.findD ["self", "s", "p", "strength", "start"] [] := T.fFind.binds fun _ _ _ _ _ _ => bind5 fun _ _ _ _ _ => rfl
noncomputable def bytN (b : List UInt8) (s : List UInt8) : List Int := if 64 < s.length then [-2] else (b.length : Int) :: ib b
noncomputable def spByt (K : PySem.W.Frag) (C : Addr) (g : Sm.Coll → List UInt8 → List UInt8) : Sp := fun vs H Q _ => ∃ (t a : Addr) (c : Sm.Coll) (s : List UInt8), vs = [.ref t, .ref a] ∧ Tb C H t c ∧ SqL K H a ((ib s).map V.int) ∧
  ∀ H' l, Same H H' → H l = none → H' l = some (.lst ((bytN (g c s) s).map V.int)) → Q (.ref l) H'
theorem scKey : FnScope ["self", "s"] ["self", "s"] (defScope sKey) := ⟨rfl, rfl, rfl, by decide +kernel, rfl, by decide +kernel, by decide +kernel⟩
theorem scLow : FnScope ["self", "s"] ["self", "s"] (defScope sLow) := ⟨rfl, rfl, rfl, by decide +kernel, rfl, by decide +kernel, by decide +kernel⟩
theorem scHigh : FnScope ["self", "s"] ["self", "s"] (defScope sHigh) := ⟨rfl, rfl, rfl, by decide +kernel, rfl, by decide +kernel, by decide +kernel⟩
theorem zi_len (l : List Nat) : (zi l).length = l.length := List.length_map ..
theorem three_at {H : Hp} {l : Addr} {as : List Addr} {a b c : List Int} (h : LLs H l as [a, b, c]) : ∃ p0 p1 p2, as = [p0, p1, p2] := by
  have e : as.length = 3 := Paired.length h.2
  match as, e with
  | [p0, p1, p2], _ => exact ⟨p0, p1, p2, rfl⟩
theorem ok_key (T : Txt K mg D) : FnOk P w K mg base CX0 5 D.key D.keyD ["self", "s"] (spByt K D.CT Sm.Coll.key) := by
  refine T.fKey.ok scKey (fun vs H Q E h => ?_) (fun cdv A outer s H vs Q E hr h => ?_)
  · obtain ⟨t, a, c, s, rfl, _⟩ := h
    rfl
  · obtain ⟨t, a, c, s, rfl, hT, hS, kk⟩ := h
    have hr1 : Room 1 _ := hr.mono (by decide)
    have hr2 : Room 2 _ := hr.mono (by decide)
    refine ⟨_, pss_cons (ps_if (pt_val (pe_call (ok_long T) hr1 (by rfl) T.mLong T.fLong.kp (bLong T) .nil pass0 (pa_cons (pv 1) pa_nil))) (pss_one (ps_ret (pe_lst (pa_cons (pgi T.gTL) pa_nil)))) pss_nil)
      (pss_one (ps_ret (pe_call (ok_wlen T) hr1 (by rfl) T.mWlen T.fWlen.kp (bWlen T) .nil pass0 (pa_cons (pe_call (ok_keyOf T) hr2 (by rfl) T.mKeyOf T.fKeyOf.kp (bKeyOf T) .nil pass0 (pa_cons (pe_meth (pv 0) T.clT T.kLof (ok_lof T) hr (bLof T) .nil pass0 (pa_cons (pv 1) pa_nil)) pa_nil)) pa_nil)))), ?_⟩
    dsimp only [cxOf, Cx.nox]
    unfold bytN at kk
    refine ⟨_, rfl, a, _, rfl, hS, _, rfl, ?_⟩
    rw [List.length_map, ib_len]
    by_cases h1 : 64 < s.length
    · rw [decide_eq_true h1]
      rw [if_pos h1] at kk
      exact iteT ⟨(by show 1 ≤ sizeLine; decide), fun l hl => kk _ l (Same.upd_new hl) hl upd_same⟩
    · rw [decide_eq_false h1]
      rw [if_neg h1] at kk
      refine iteF ?_
      obtain ⟨d, kvs, B, _⟩ := hT.ex
      obtain ⟨dx, ht⟩ := id B.ins
      have hel := (elements_ok hT.ok s).1
      have e1 := firsts_le (c.elements s)
      have e2 := seconds_le c.back (c.elements s)
      have e3 := thirds_le (c.elements s)
      refine (rM rfl (ht) (tf_no _ _ (by decide) (by decide)) ⟨_, rfl, t, a, c, s, rfl, hT, hS, by omega, fun H1 l1 as1 s1 n1 hL1 => ?_⟩)
      rw [levsO_eq] at hL1
      obtain ⟨p0, p1, p2, rfl⟩ := three_at hL1
      refine ⟨l1, p0, p1, p2, _, _, _, rfl, hL1, by rw [zi_len]; omega, by rw [zi_len]; omega, by rw [zi_len]; omega, fun H2 r2 s2 n2 h2 => ?_⟩
      rw [← key_bytes hT.ok s] at h2
      have hlen := key_len hT.ok (t := s) (by omega)
      refine ⟨r2, _, rfl, h2, by rw [ib_len]; omega, fun H3 r3 s3 n3 h3 => ?_⟩
      rw [ib_len] at h3
      exact kk H3 r3 ((s1.trans s2).trans s3) ((s1.trans s2).free n3) h3
theorem ok_low (T : Txt K mg D) : FnOk P w K mg base CX0 5 D.low D.lowD ["self", "s"] (spByt K D.CT Sm.Coll.low) := by
  refine T.fLow.ok scLow (fun vs H Q E h => ?_) (fun cdv A outer s H vs Q E hr h => ?_)
  · obtain ⟨t, a, c, s, rfl, _⟩ := h
    rfl
  · obtain ⟨t, a, c, s, rfl, hT, hS, kk⟩ := h
    have hr1 : Room 1 _ := hr.mono (by decide)
    have hr2 : Room 2 _ := hr.mono (by decide)
    refine ⟨_, pss_cons (ps_if (pt_val (pe_call (ok_long T) hr1 (by rfl) T.mLong T.fLong.kp (bLong T) .nil pass0 (pa_cons (pv 1) pa_nil))) (pss_one (ps_ret (pe_lst (pa_cons (pgi T.gTL) pa_nil)))) pss_nil)
      (pss_one (ps_ret (pe_call (ok_wlen T) hr1 (by rfl) T.mWlen T.fWlen.kp (bWlen T) .nil pass0 (pa_cons (pe_call (ok_lowOf T) hr2 (by rfl) T.mLowOf T.fLowOf.kp (bLowOf T) .nil pass0 (pa_cons (pe_meth (pv 0) T.clT T.kLof (ok_lof T) hr (bLof T) .nil pass0 (pa_cons (pv 1) pa_nil)) pa_nil)) pa_nil)))), ?_⟩
    dsimp only [cxOf, Cx.nox]
    unfold bytN at kk
    refine ⟨_, rfl, a, _, rfl, hS, _, rfl, ?_⟩
    rw [List.length_map, ib_len]
    by_cases h1 : 64 < s.length
    · rw [decide_eq_true h1]
      rw [if_pos h1] at kk
      exact iteT ⟨(by show 1 ≤ sizeLine; decide), fun l hl => kk _ l (Same.upd_new hl) hl upd_same⟩
    · rw [decide_eq_false h1]
      rw [if_neg h1] at kk
      refine iteF ?_
      obtain ⟨d, kvs, B, _⟩ := hT.ex
      obtain ⟨dx, ht⟩ := id B.ins
      have hel := (elements_ok hT.ok s).1
      have e1 := firsts_le (c.elements s)
      refine (rM rfl (ht) (tf_no _ _ (by decide) (by decide)) ⟨_, rfl, t, a, c, s, rfl, hT, hS, by omega, fun H1 l1 as1 s1 n1 hL1 => ?_⟩)
      rw [levsO_eq] at hL1
      obtain ⟨p0, p1, p2, rfl⟩ := three_at hL1
      refine ⟨l1, p0, p1, p2, _, _, _, rfl, hL1, by rw [zi_len]; omega, fun H2 r2 s2 n2 h2 => ?_⟩
      rw [← low_bytes hT.ok s] at h2
      have hlen := low_len hT.ok (t := s) (by omega)
      refine ⟨r2, _, rfl, h2, by rw [ib_len]; omega, fun H3 r3 s3 n3 h3 => ?_⟩
      rw [ib_len] at h3
      exact kk H3 r3 ((s1.trans s2).trans s3) ((s1.trans s2).free n3) h3
theorem ok_high (T : Txt K mg D) : FnOk P w K mg base CX0 5 D.high D.highD ["self", "s"] (spByt K D.CT Sm.Coll.high) := by
  refine T.fHigh.ok scHigh (fun vs H Q E h => ?_) (fun cdv A outer s H vs Q E hr h => ?_)
  · obtain ⟨t, a, c, s, rfl, _⟩ := h
    rfl
  · obtain ⟨t, a, c, s, rfl, hT, hS, kk⟩ := h
    have hr1 : Room 1 _ := hr.mono (by decide)
    have hr3 : Room 3 _ := hr.mono (by decide)
    refine ⟨_, pss_cons (ps_if (pt_val (pe_call (ok_long T) hr1 (by rfl) T.mLong T.fLong.kp (bLong T) .nil pass0 (pa_cons (pv 1) pa_nil))) (pss_one (ps_ret (pe_lst (pa_cons (pgi T.gTL) pa_nil)))) pss_nil)
      (pss_one (ps_ret (pe_call (ok_wlen T) hr1 (by rfl) T.mWlen T.fWlen.kp (bWlen T) .nil pass0 (pa_cons (pe_call (ok_highOf T) hr3 (by rfl) T.mHighOf T.fHighOf.kp (bHighOf T) .nil pass0 (pa_cons (pe_meth (pv 0) T.clT T.kLof (ok_lof T) hr (bLof T) .nil pass0 (pa_cons (pv 1) pa_nil)) pa_nil)) pa_nil)))), ?_⟩
    dsimp only [cxOf, Cx.nox]
    unfold bytN at kk
    refine ⟨_, rfl, a, _, rfl, hS, _, rfl, ?_⟩
    rw [List.length_map, ib_len]
    by_cases h1 : 64 < s.length
    · rw [decide_eq_true h1]
      rw [if_pos h1] at kk
      exact iteT ⟨(by show 1 ≤ sizeLine; decide), fun l hl => kk _ l (Same.upd_new hl) hl upd_same⟩
    · rw [decide_eq_false h1]
      rw [if_neg h1] at kk
      refine iteF ?_
      obtain ⟨d, kvs, B, _⟩ := hT.ex
      obtain ⟨dx, ht⟩ := id B.ins
      have hel := (elements_ok hT.ok s).1
      have e1 := firsts_le (c.elements s)
      refine (rM rfl (ht) (tf_no _ _ (by decide) (by decide)) ⟨_, rfl, t, a, c, s, rfl, hT, hS, by omega, fun H1 l1 as1 s1 n1 hL1 => ?_⟩)
      rw [levsO_eq] at hL1
      obtain ⟨p0, p1, p2, rfl⟩ := three_at hL1
      refine ⟨l1, p0, p1, p2, _, _, _, rfl, hL1, by rw [zi_len]; omega, fun H2 r2 s2 n2 h2 => ?_⟩
      rw [← high_bytes hT.ok s] at h2
      have hlen := low_len hT.ok (t := s) (by omega)
      have hl2 : (c.high s).length = (c.low s).length + 3 := by
        show (c.low s ++ [255, 255, 255]).length = _
        rw [List.length_append]
        rfl
      refine ⟨r2, _, rfl, h2, by rw [ib_len]; omega, fun H3 r3 s3 n3 h3 => ?_⟩
      rw [ib_len] at h3
      exact kk H3 r3 ((s1.trans s2).trans s3) ((s1.trans s2).free n3) h3
theorem bKey (T : Txt K mg D) : Binds K D.keyD ["self", "s"] [] := T.fKey.binds fun _ _ _ _ _ _ => bind2 fun _ _ => rfl
theorem bLow (T : Txt K mg D) : Binds K D.lowD ["self", "s"] [] := T.fLow.binds fun _ _ _ _ _ _ => bind2 fun _ _ => rfl
theorem bHigh (T : Txt K mg D) : Binds K D.highD ["self", "s"] [] := T.fHigh.binds fun _ _ _ _ _ _ => bind2 fun _ _ => rfl
end
end Sh
end
section
set_option Elab.async false
set_option linter.all false
set_option maxRecDepth 100000
set_option maxHeartbeats 2000000
namespace Sh
open PySem PySem.Spec PyProof.Rows L2
structure Sta (K : PySem.W.Frag) (CT CR : Addr) (H : Hp) (t r a wr : Addr) (ns rest : List Int) (col : Sm.Coll) (xs : List V) : Prop where
  rel : Rel CT H t wr col
  rd : RdL CR H r a ns rest
  sq : SqL K H a (ns.map V.int)
  wrt : H wr = some (.lst xs)
section
variable {K : PySem.W.Frag} {CT CR : Addr} {H H' : Hp} {t r a wr : Addr} {ns rest rest' : List Int} {col col' : Sm.Coll} {xs : List V}
theorem tf_ne_rf {C C' dx dx' : Addr} {o d a p : V} : HO.ins C dx (tf o d) ≠ HO.ins C' dx' (rf a p) := by
  intro z
  injection z with _ _ z
  have z : [(("options" : Str), o), ("entries", d)] = [(("calls" : Str), a), ("place", p)] := z
  injection z with z _
  injection z with z _
  exact absurd z (by decide)
theorem Rel.same (R : Rel CT H t wr col) (s : Same H H') : Rel CT H' t wr col := by
  obtain ⟨d, kvs, B, En, hx⟩ := R.ex
  exact ⟨⟨d, kvs, B.same s, En.keep (X := fun _ => False) (fun _ _ _ _ z => z) (fun b o e _ => s _ _ e), hx⟩, R.ok⟩
theorem Rel.butR {dx : Addr} {x y : V} (R : Rel CT H t wr col) (hr : H r = some (.ins CR dx (rf x y))) (k : But r H H') : Rel CT H' t wr col := by
  obtain ⟨d, kvs, B, En, hx⟩ := R.ex
  obtain ⟨dt, ht⟩ := B.ins
  refine ⟨⟨d, kvs, ⟨⟨dt, k _ _ ht (ne_of ht hr tf_ne_rf)⟩, k _ _ B.dict (ne_of B.dict hr (by intro z; cases z))⟩, En.keep (X := fun _ => False) (fun _ _ _ _ z => z) (fun b o e h => k _ _ e ?_), hx⟩, R.ok⟩
  rcases h with ⟨_, ys, h⟩ | ⟨ys, h⟩ <;> subst h <;> exact ne_of e hr (by intro z; cases z)
theorem Sta.same (S : Sta K CT CR H t r a wr ns rest col xs) (s : Same H H') : Sta K CT CR H' t r a wr ns rest col xs :=
  ⟨S.rel.same s, (let ⟨p, ⟨dx, h⟩, e⟩ := S.rd; ⟨p, ⟨dx, s _ _ h⟩, e⟩), s.seq S.sq, s _ _ S.wrt⟩
theorem Sta.butR (S : Sta K CT CR H t r a wr ns rest col xs) (k : But r H H') (hr : RdL CR H' r a ns rest') (hs : SqL K H' a (ns.map V.int)) : Sta K CT CR H' t r a wr ns rest' col xs := by
  obtain ⟨p, ⟨dx, h⟩, e⟩ := S.rd
  exact ⟨S.rel.butR h k, hr, hs, k _ _ S.wrt (ne_of S.wrt h (by intro z; cases z))⟩
theorem Sta.butD {d : Addr} {kvs : List (List Key × V)} (S : Sta K CT CR H t r a wr ns rest col xs) (hd : H d = some (.dT kvs)) (k : But d H H') (R : Rel CT H' t wr col') : Sta K CT CR H' t r a wr ns rest col' xs := by
  obtain ⟨p, ⟨dx, h⟩, e⟩ := S.rd
  refine ⟨R, ⟨p, ⟨dx, k _ _ h (ne_of h hd (by intro z; cases z))⟩, e⟩, ?_, k _ _ S.wrt (ne_of S.wrt hd (by intro z; cases z))⟩
  rcases S.sq with (q | ⟨o, q⟩) | q
  · exact .inl (.inl (k _ _ q (ne_of q hd (by intro z; cases z))))
  · exact .inl (.inr ⟨o, k _ _ q (ne_of q hd (by intro z; cases z))⟩)
  · exact .inr q
theorem Sta.butT {dt : Addr} {o d : V} (S : Sta K CT CR H t r a wr ns rest col xs) (ht : H t = some (.ins CT dt (tf o d))) (k : But t H H') (R : Rel CT H' t wr col') : Sta K CT CR H' t r a wr ns rest col' xs := by
  obtain ⟨p, ⟨dx, h⟩, e⟩ := S.rd
  exact ⟨R, ⟨p, ⟨dx, k _ _ h (Ne.symm (ne_of ht h tf_ne_rf))⟩, e⟩, k.seq ht S.sq, k _ _ S.wrt (ne_of S.wrt ht (by intro z; cases z))⟩
theorem Sta.fin {c : List (List Int)} {col0 : Sm.Coll} {ans : List Int} {Q : VK} (S : Sta K CT CR H t r a wr ns rest col' xs) (est : SmNeutral.step col0 c = (col', ans)) (hl : ans.length ≤ 10000)
    (kk : ∀ H' q, Rel CT H' t wr (SmNeutral.step col0 c).1 → RdL CR H' r a ns rest → SqL K H' a (ns.map V.int) → H' wr = some (.lst xs) → q ≠ wr → H' q = some (.lst ((SmNeutral.step col0 c).2.map V.int)) → (SmNeutral.step col0 c).2.length ≤ 10000 → Q (.ref q) H')
    {q : Addr} (hq : H q = none) : Q (.ref q) (upd H q (.lst (ans.map V.int))) := by
  have S' := S.same (Same.upd_new (o := .lst (ans.map V.int)) hq)
  rw [est] at kk
  exact kk _ q S'.rel S'.rd S'.sq S'.wrt (fun z => by rw [z, S.wrt] at hq; cases hq) upd_same hl
theorem Sta.fin2 {c : List (List Int)} {col0 : Sm.Coll} {ans : List Int} {Q : VK} (S : Sta K CT CR H t r a wr ns rest col' xs) (est : SmNeutral.step col0 c = (col', ans)) (hl : ans.length ≤ 10000)
    (kk : ∀ H' q, Rel CT H' t wr (SmNeutral.step col0 c).1 → RdL CR H' r a ns rest → SqL K H' a (ns.map V.int) → H' wr = some (.lst xs) → q ≠ wr → H' q = some (.lst ((SmNeutral.step col0 c).2.map V.int)) → (SmNeutral.step col0 c).2.length ≤ 10000 → Q (.ref q) H')
    {q : Addr} (s : Same H H') (hq : H q = none) (hq' : H' q = some (.lst (ans.map V.int))) : Q (.ref q) H' := by
  have S' := S.same s
  rw [est] at kk
  exact kk _ q S'.rel S'.rd S'.sq S'.wrt (fun z => by rw [z, S.wrt] at hq; cases hq) hq' hl
theorem Sta.tb (S : Sta K CT CR H t r a wr ns rest col xs) : Tb CT H t col := by
  obtain ⟨d, kvs, B, En, _⟩ := S.rel.ex
  exact ⟨⟨d, kvs, B, En⟩, S.rel.ok⟩
end
section
variable {P : Program} {w : World} {K : PySem.W.Frag} {mg : Str → Option Value} {base : Heap} {D : Adr}
theorem bRow (T : Txt K mg D) : Binds K D.rowD ["self"] [] := T.fRow.binds fun _ _ _ _ _ _ => bind1 fun _ => rfl
theorem bBegin (T : Txt K mg D) : Binds K D.beginD ["self", "options"] [] := T.fBegin.binds fun _ _ _ _ _ _ => bind2 fun _ _ => rfl
theorem bAdd (T : Txt K mg D) : Binds K D.addD ["self", "seq", "w"] [] := T.fAdd.binds fun _ _ _ _ _ _ => bind3 fun _ _ _ => rfl
theorem bDrop (T : Txt K mg D) : Binds K D.dropD ["self", "seq"] [] := T.fDrop.binds fun _ _ _ _ _ _ => bind2 fun _ _ => rfl
theorem bCount (T : Txt K mg D) : Binds K D.countD ["self"] [] := T.fCount.binds fun _ _ _ _ _ _ => bind1 fun _ => rfl
theorem bCut (T : Txt K mg D) : Binds K D.cutD ["self", "s", "at"] [] := T.fCut.binds fun _ _ _ _ _ _ => bind3 fun _ _ _ => rfl
theorem scAnswer : FnScope ["table", "reader", "call"] ["table", "reader"] (defScope sAnswer) := ⟨rfl, rfl, rfl, by decide +kernel, rfl, by decide +kernel, by decide +kernel⟩
theorem neq_dec {a b : Int} (h : ¬ a = b) : decide (V.int a = V.int b) = false := decide_eq_false fun z => h (V.int.inj z)
theorem eq_dec {a b : Int} (h : a = b) : decide (V.int a = V.int b) = true := decide_eq_true (by rw [h])
theorem iteEq {a b : Int} {A B : Prop} (h : a = b) (k : A) : if decide (V.int a = V.int b) = true then A else B := by
  rw [eq_dec h]
  exact iteT k
theorem iteNe {a b : Int} {A B : Prop} (h : ¬ a = b) (k : B) : if decide (V.int a = V.int b) = true then A else B := by
  rw [neq_dec h]
  exact iteF k
theorem add_unfold (c : Sm.Coll) (s : List UInt8) (ns : List Nat) : Sm.step c (.add s ns) = (match Sm.elementsIn 4 ns with
    | none => (c, Sm.no 1)
    | some l => if s.isEmpty = true ∨ 8 < s.length then (c, Sm.no 1) else if c.has s = true then (c, Sm.no 3) else if Sm.ENTRIES ≤ c.entries.length then (c, Sm.no 4) else (⟨c.back, c.entries ++ [⟨s, l⟩]⟩, Sm.one (c.entries.length + 1))) := rfl
theorem empty_len (s : List UInt8) : s.isEmpty = true ↔ s.length = 0 := by cases s <;> simp
theorem add_no {c : Sm.Coll} {s : List UInt8} {ws : List Int} (h3 : ∀ z ∈ ws, 0 ≤ z) (h : ¬ (wtsOk ws = true ∧ 1 ≤ s.length ∧ s.length ≤ 8)) : Sm.step c (.add s (SmNeutral.nats ws)) = (c, Sm.no 1) := by
  rw [add_unfold]
  by_cases hw : wtsOk ws = true
  · obtain ⟨l, e, _⟩ := wts_some h3 hw
    rw [e]
    show (if s.isEmpty = true ∨ 8 < s.length then (c, Sm.no 1) else _) = _
    rw [if_pos]
    rw [empty_len]
    have : ¬ (1 ≤ s.length ∧ s.length ≤ 8) := fun z => h ⟨hw, z⟩
    omega
  · rw [wts_none h3 hw]
theorem add_some {c : Sm.Coll} {s : List UInt8} {ws : List Int} (h3 : ∀ z ∈ ws, 0 ≤ z) (h : wtsOk ws = true ∧ 1 ≤ s.length ∧ s.length ≤ 8) : ∃ l, l.map toElm = elms ws ∧ Sm.step c (.add s (SmNeutral.nats ws)) =
    (if c.has s = true then (c, Sm.no 3) else if Sm.ENTRIES ≤ c.entries.length then (c, Sm.no 4) else (⟨c.back, c.entries ++ [⟨s, l⟩]⟩, Sm.one (c.entries.length + 1))) := by
  rw [add_unfold]
  obtain ⟨l, e, e2⟩ := wts_some h3 h.1
  refine ⟨l, e2, ?_⟩
  rw [e]
  show (if s.isEmpty = true ∨ 8 < s.length then (c, Sm.no 1) else _) = _
  rw [if_neg]
  rw [empty_len]
  omega
theorem elms_le {ws : List Int} (h3 : ∀ z ∈ ws, 0 ≤ z) (h : wtsOk ws = true) {l : List Sm.Element} (e : l.map toElm = elms ws) : l.length ≤ 4 ∧ ∀ x ∈ l, x.one ≤ 65535 ∧ x.two ≤ 65535 ∧ x.three ≤ 65535 := by
  unfold wtsOk at h
  rw [Bool.and_eq_true, Bool.and_eq_true, decide_eq_true_eq, decide_eq_true_eq] at h
  obtain ⟨⟨h1, h2⟩, hall⟩ := h
  have hlen : l.length = ws.length / 3 := by rw [← elms_len, ← e, List.length_map]
  refine ⟨by omega, fun x hx => ?_⟩
  have hm : toElm x ∈ elms ws := by rw [← e]; exact List.mem_map.mpr ⟨x, hx, rfl⟩
  obtain ⟨i, hi⟩ := List.mem_iff_getElem?.mp hm
  have hlt : i < ws.length / 3 := by rw [← elms_len]; exact (List.getElem?_eq_some_iff.mp hi).1
  obtain ⟨a, b, c, ha, hb, hc, he⟩ := elms_get ws i hlt
  rw [hi] at he
  have he := Option.some.inj he
  unfold toElm at he
  injection he with e1 e2 e3
  have bd : ∀ {j : Nat} {v : Int}, ws[j]? = some v → v ≤ 65535 := fun {j v} q => of_decide_eq_true (List.all_eq_true.mp hall v (List.mem_of_getElem? q))
  have := bd ha
  have := bd hb
  have := bd hc
  omega
theorem put0 (a : List Int) (rest : List Int) : PyFlat.put1 [a] ++ rest = a ++ rest := by simp [PyFlat.put1, PyFlat.putRows]
theorem put1r (a x rest : List Int) : PyFlat.put1 [a, x] ++ rest = a ++ ((x.length : Int) :: (x ++ rest)) := by simp [PyFlat.put1, PyFlat.putRows, PyFlat.putRow]
theorem put2r (a x y rest : List Int) : PyFlat.put1 [a, x, y] ++ rest = a ++ ((x.length : Int) :: (x ++ ((y.length : Int) :: (y ++ rest)))) := by simp [PyFlat.put1, PyFlat.putRows, PyFlat.putRow]
noncomputable def spAnsA (K : PySem.W.Frag) (CT CR : Addr) : Sp := fun vs H Q _ => ∃ (t r a wr : Addr) (ns rest : List Int) (col : Sm.Coll) (xs : List V) (s : List UInt8) (ws : List Int), vs = [.ref t, .ref r] ∧ Sta K CT CR H t r a wr ns (((ib s).length : Int) :: (ib s ++ ((ws.length : Int) :: (ws ++ rest)))) col xs ∧ ws.length ≤ 200 ∧ (∀ z ∈ ws, 0 ≤ z) ∧
  (∀ H' q, Rel CT H' t wr (SmNeutral.step col [[1], ib s, ws]).1 → RdL CR H' r a ns rest → SqL K H' a (ns.map V.int) → H' wr = some (.lst xs) → q ≠ wr → H' q = some (.lst ((SmNeutral.step col [[1], ib s, ws]).2.map V.int)) → (SmNeutral.step col [[1], ib s, ws]).2.length ≤ 10000 → Q (.ref q) H')
theorem scAnsA : FnScope ["table", "reader", "seq", "w"] ["table", "reader"] (defScope sAnsA) := ⟨rfl, rfl, rfl, by decide +kernel, rfl, by decide +kernel, by decide +kernel⟩
theorem ok_ansA (T : Txt K mg D) : FnOk P w K mg base CX0 3 D.ansA D.ansAD ["table", "reader"] (spAnsA K D.CT D.CR) := by
  refine T.fAnsA.ok scAnsA (fun vs H Q E h => ?_) (fun cdv A outer s H vs Q E hr h => ?_)
  · obtain ⟨t, r, a, wr, ns, rest, col, xs, s, ws, rfl, _⟩ := h
    rfl
  · obtain ⟨t, r, a, wr, ns, rest, col, xs, s, ws, rfl, S1, h2, h3, kk⟩ := h
    refine ⟨_, pss_cons (ps_set (i := 2) scAnsA.nd rfl (Or.inl rfl) (pe_meth0 (pv 1) T.clR T.kRow (ok_rowL T) hr (bRow T) .nil pass0))
          (pss_cons (ps_set (i := 3) scAnsA.nd rfl (Or.inl rfl) (pe_meth0 (pv 1) T.clR T.kRow (ok_rowL T) hr (bRow T) .nil pass0))
          (pss_one (ps_ret (pe_lst (pa_cons (pe_meth (pv 0) T.clT T.kAdd (ok_add T) hr (bAdd T) .nil pass0 (pa_cons (pv 2) (pa_cons (pv 3) pa_nil))) pa_nil))))), ?_⟩
    dsimp only [cxOf, Cx.nox]
    obtain ⟨p1, ⟨dx1, hr1⟩, _⟩ := id S1.rd
    refine seqA fun N hN => ?_
    refine (rM rfl (hr1) (rf_no _ _ (by decide) (by decide)) ⟨r, a, ns, ib s, _, rfl, S1.rd, S1.sq, fun H2 l2 rd2 k2 sq2 hl2 hL2 => ?_⟩)
    have S2 := S1.butR k2 rd2 sq2
    obtain ⟨p2, ⟨dx2, hr2⟩, _⟩ := id S2.rd
    refine hN _ _ ?_
    refine seqA fun N hN => ?_
    refine (rM rfl (hr2) (rf_no _ _ (by decide) (by decide)) ⟨r, a, ns, ws, _, rfl, S2.rd, S2.sq, fun H3 l3 rd3 k3 sq3 hl3 hL3 => ?_⟩)
    have S3 := S2.butR k3 rd3 sq3
    have hL2' := k3 _ _ hL2 (ne_of hL2 hr2 (by intro z; cases z))
    obtain ⟨d3, kvs3, B3, En3, hx3⟩ := id S3.rel.ex
    obtain ⟨dt3, ht3⟩ := id B3.ins
    have hlen3 := En3.len
    have hfew := S3.rel.ok.few
    have hhas := En3.has (c := col) s
    refine hN _ _ ?_
    refine (rM rfl (ht3) (tf_no _ _ (by decide) (by decide)) ⟨_, rfl, _, rfl, t, d3, l2, l3, _, kvs3, ib s, ws, rfl, B3, SqL.of hL2', SqL.of hL3, by omega, by omega, ?_, ?_, ?_, ?_⟩)
    · intro hno H4 s4
      refine ⟨(by show 1 ≤ sizeLine; decide), fun q hq => ?_⟩
      refine (S3.same s4).fin (ans := [-1]) ?_ (by decide) kk hq
      rw [step_add, add_no h3 (by rw [ib_len] at hno; exact hno)]
      rfl
    · intro hok hv H4 s4
      rw [ib_len] at hok
      refine ⟨(by show 1 ≤ sizeLine; decide), fun q hq => ?_⟩
      refine (S3.same s4).fin (ans := [-3]) ?_ (by decide) kk hq
      obtain ⟨l, e1, e2⟩ := add_some (c := col) h3 hok
      rw [hhas] at hv
      rw [step_add, e2, if_pos hv]
      rfl
    · intro hok hv h64 H4 s4
      rw [ib_len] at hok
      refine ⟨(by show 1 ≤ sizeLine; decide), fun q hq => ?_⟩
      refine (S3.same s4).fin (ans := [-4]) ?_ (by decide) kk hq
      obtain ⟨l, e1, e2⟩ := add_some (c := col) h3 hok
      rw [hv] at hhas
      rw [step_add, e2, ← hhas, if_neg (by simp), if_pos (by show 64 ≤ _; omega)]
      rfl
    · intro hok hv h64 H4 l4 k4 B4 hl4 hE4
      rw [ib_len] at hok
      refine ⟨(by show 1 ≤ sizeLine; decide), fun q hq => ?_⟩
      obtain ⟨l, e1, e2⟩ := add_some (c := col) h3 hok
      rw [hv] at hhas
      have kd : ∀ b o, H3 b = some o → ((∃ ys, o = .lst ys) ∨ ∃ ys, o = .tup ys) → H4 b = some o := fun b o e h => k4 _ _ e (by
        rcases h with ⟨ys, h⟩ | ⟨ys, h⟩ <;> subst h <;> exact ne_of e B3.dict (by intro z; cases z))
      have R4 : Rel D.CT H4 t wr ⟨col.back, col.entries ++ [⟨s, l⟩]⟩ := by
        refine ⟨⟨d3, _, B4, Paired.snoc (En3.keep (X := fun _ => False) (fun _ _ _ _ z => z) (fun b o e h => kd _ _ e (h.imp (fun z => z.2) fun z => z))) ⟨rfl, l4, rfl, by rw [e1]; exact hE4⟩, fun kv hm => ?_⟩, ⟨?_, fun e he => ?_, fun e he => ?_⟩⟩
        · rcases List.mem_append.mp hm with hm | hm
          · exact hx3 kv hm
          · obtain rfl := List.mem_singleton.mp hm
            intro z
            have z : V.ref l4 = V.ref wr := z
            injection z with z
            rw [z, S3.wrt] at hl4
            cases hl4
        · show (col.entries ++ [(⟨s, l⟩ : Sm.Entry)]).length ≤ 64
          rw [List.length_append]
          show col.entries.length + 1 ≤ 64
          omega
        · rcases List.mem_append.mp he with he | he
          · exact S3.rel.ok.seq e he
          · obtain rfl := List.mem_singleton.mp he
            exact hok.2
        · rcases List.mem_append.mp he with he | he
          · exact S3.rel.ok.els e he
          · obtain rfl := List.mem_singleton.mp he
            exact elms_le h3 hok.1 e1
      refine (S3.butD B3.dict k4 R4).fin (ans := [((kvs3.length + 1 : Nat) : Int)]) ?_ (Nat.le_of_ble_eq_true rfl) kk hq
      rw [step_add, e2, ← hhas, if_neg (by simp), if_neg (by show ¬ 64 ≤ _; omega), hlen3]
      rfl
theorem bAnsA (T : Txt K mg D) : Binds K D.ansAD ["table", "reader"] [] := T.fAnsA.binds fun _ _ _ _ _ _ => bind2 fun _ _ => rfl
noncomputable def spAnsC (K : PySem.W.Frag) (CT CR : Addr) : Sp := fun vs H Q _ => ∃ (t r a wr : Addr) (ns rest : List Int) (col : Sm.Coll) (xs : List V) (x : Int) (s : List UInt8), vs = [.ref t, .ref r] ∧ Sta K CT CR H t r a wr ns (x :: (((ib s).length : Int) :: (ib s ++ rest))) col xs ∧ 0 ≤ x ∧ s.length ≤ 200 ∧
  (∀ H' q, Rel CT H' t wr (SmNeutral.step col [[4, x], ib s]).1 → RdL CR H' r a ns rest → SqL K H' a (ns.map V.int) → H' wr = some (.lst xs) → q ≠ wr → H' q = some (.lst ((SmNeutral.step col [[4, x], ib s]).2.map V.int)) → (SmNeutral.step col [[4, x], ib s]).2.length ≤ 10000 → Q (.ref q) H')
theorem scAnsC : FnScope ["table", "reader", "at", "s"] ["table", "reader"] (defScope sAnsC) := ⟨rfl, rfl, rfl, by decide +kernel, rfl, by decide +kernel, by decide +kernel⟩
theorem ok_ansC (T : Txt K mg D) : FnOk P w K mg base CX0 3 D.ansC D.ansCD ["table", "reader"] (spAnsC K D.CT D.CR) := by
  refine T.fAnsC.ok scAnsC (fun vs H Q E h => ?_) (fun cdv A outer s H vs Q E hr h => ?_)
  · obtain ⟨t, r, a, wr, ns, rest, col, xs, x, s, rfl, _⟩ := h
    rfl
  · obtain ⟨t, r, a, wr, ns, rest, col, xs, x, s, rfl, S1, h1, h2, kk⟩ := h
    have hrm : Room 1 _ := hr.mono (by decide)
    refine ⟨_, pss_cons (ps_set (i := 2) scAnsC.nd rfl (Or.inl rfl) (pe_meth0 (pv 1) T.clR T.kNum (ok_numL T) hrm (bNum T) .nil pass0))
          (pss_cons (ps_set (i := 3) scAnsC.nd rfl (Or.inl rfl) (pe_meth0 (pv 1) T.clR T.kRow (ok_rowL T) hr (bRow T) .nil pass0))
          (pss_one (ps_ret (pe_lst (pa_cons (pe_meth (pv 0) T.clT T.kCut (ok_cut T) hr (bCut T) .nil pass0 (pa_cons (pv 3) (pa_cons (pv 2) pa_nil))) pa_nil))))), ?_⟩
    dsimp only [cxOf, Cx.nox]
    obtain ⟨p1, ⟨dx1, hr1⟩, _⟩ := id S1.rd
    refine seqA fun N hN => ?_
    refine (rM rfl (hr1) (rf_no _ _ (by decide) (by decide)) ⟨r, a, ns, _, x, rfl, S1.rd, S1.sq, fun H2 rd2 k2 sq2 => ?_⟩)
    have S2 := S1.butR k2 rd2 sq2
    obtain ⟨p2, ⟨dx2, hr2⟩, _⟩ := id S2.rd
    refine hN _ _ ?_
    refine seqA fun N hN => ?_
    refine (rM rfl (hr2) (rf_no _ _ (by decide) (by decide)) ⟨r, a, ns, ib s, _, rfl, S2.rd, S2.sq, fun H3 l3 rd3 k3 sq3 hl3 hL3 => ?_⟩)
    have S3 := S2.butR k3 rd3 sq3
    obtain ⟨d3, kvs3, B3, En3, hx3⟩ := id S3.rel.ex
    obtain ⟨dt3, ht3⟩ := id B3.ins
    refine hN _ _ ?_
    refine (rM rfl (ht3) (tf_no _ _ (by decide) (by decide)) ⟨_, rfl, _, rfl, t, d3, l3, _, x, kvs3, ib s, rfl, B3, SqL.of hL3, h1, by rw [ib_len]; omega, fun H4 s4 => ?_⟩)
    refine ⟨(by show 1 ≤ sizeLine; decide), fun q hq => ?_⟩
    refine (S3.same s4).fin (ans := [cutN kvs3 (ib s) x]) ?_ (Nat.le_of_ble_eq_true rfl) kk hq
    rw [step_cut]
    show (col, SmNeutral.shown (if s.length ≤ x.toNat then Sm.no 1 else Sm.ofText s fun _ => Sm.one (x.toNat + (Sm.stands col.entries (s.drop x.toNat)).1))) = _
    unfold cutN
    rw [ib_len]
    by_cases c1 : s.length ≤ x.toNat
    · rw [if_pos c1, if_pos (by omega)]
      rfl
    · rw [if_neg c1, if_neg (by omega)]
      unfold Sm.ofText
      by_cases c2 : 64 < s.length
      · rw [if_pos (show Sm.long s = true from decide_eq_true c2), if_pos c2]
        rfl
      · rw [if_neg (show ¬ Sm.long s = true from fun z => c2 (of_decide_eq_true z)), if_neg c2]
        rw [ib_drop, ← stepN_stands En3, List.length_drop]
        rfl
theorem bAnsC (T : Txt K mg D) : Binds K D.ansCD ["table", "reader"] [] := T.fAnsC.binds fun _ _ _ _ _ _ => bind2 fun _ _ => rfl
theorem strong_eq (k : Int) (h : 0 ≤ k) : Sm.strong k.toNat = decide (1 ≤ k ∧ k ≤ 3) := by
  unfold Sm.strong
  rw [Bool.eq_iff_iff]
  simp only [Bool.and_eq_true, decide_eq_true_eq]
  omega
theorem long_eq (t : List UInt8) : Sm.long t = decide (64 < t.length) := rfl
theorem ans_compare (col : Sm.Coll) (k : Int) (hk : 0 ≤ k) (x y : List UInt8) : SmNeutral.step col [[5, k], ib x, ib y] = (col, [compN col x y k]) := by
  rw [step_compare]
  show (col, SmNeutral.shown (if Sm.strong k.toNat = false then Sm.no 1 else Sm.ofText x fun _ => Sm.ofText y fun _ => Sm.one (col.order k.toNat x y))) = _
  unfold compN Sm.ofText
  rw [strong_eq k hk, long_eq, long_eq]
  by_cases h1 : 1 ≤ k ∧ k ≤ 3
  · rw [decide_eq_true h1, if_neg (by decide), if_pos h1]
    by_cases h2 : 64 < x.length
    · rw [if_pos (decide_eq_true h2), if_pos (Or.inl h2)]
      rfl
    · rw [if_neg (fun z => h2 (of_decide_eq_true z))]
      by_cases h3 : 64 < y.length
      · rw [if_pos (decide_eq_true h3), if_pos (Or.inr h3)]
        rfl
      · rw [if_neg (fun z => h3 (of_decide_eq_true z)), if_neg (by omega)]
        rfl
  · rw [decide_eq_false h1, if_pos rfl, if_neg h1]
    rfl
theorem ans_find (col : Sm.Coll) (k f : Int) (hk : 0 ≤ k) (x y : List UInt8) : SmNeutral.step col [[6, k, f], ib x, ib y] = (col, findN col x y k f) := by
  rw [step_find]
  show (col, SmNeutral.shown (if Sm.strong k.toNat = false then Sm.no 1 else Sm.ofText x fun _ => Sm.ofText y fun _ => match col.find x y k.toNat f.toNat with | some z => .nums [1, z.1, z.2] | none => Sm.one 0)) = _
  unfold findN Sm.ofText
  rw [strong_eq k hk, long_eq, long_eq]
  by_cases h1 : 1 ≤ k ∧ k ≤ 3
  · rw [decide_eq_true h1, if_neg (by decide), if_pos h1]
    by_cases h2 : 64 < x.length
    · rw [if_pos (decide_eq_true h2), if_pos (Or.inl h2)]
      rfl
    · rw [if_neg (fun z => h2 (of_decide_eq_true z))]
      by_cases h3 : 64 < y.length
      · rw [if_pos (decide_eq_true h3), if_pos (Or.inr h3)]
        rfl
      · rw [if_neg (fun z => h3 (of_decide_eq_true z)), if_neg (by omega)]
        cases col.find x y k.toNat f.toNat with
        | none => rfl
        | some z => rfl
  · rw [decide_eq_false h1, if_pos rfl, if_neg h1]
    rfl
theorem ans_bytes (b s : List UInt8) : SmNeutral.shown (Sm.ofText s fun _ => .bytes b) = bytN b s := by
  unfold bytN Sm.ofText
  rw [long_eq]
  by_cases h2 : 64 < s.length
  · rw [if_pos (decide_eq_true h2), if_pos h2]
    rfl
  · rw [if_neg (fun z => h2 (of_decide_eq_true z)), if_neg h2]
    rfl
theorem ans_key (col : Sm.Coll) (s : List UInt8) : SmNeutral.step col [[7], ib s] = (col, bytN (col.key s) s) := by
  rw [step_key, ← ans_bytes]
  rfl
theorem ans_low (col : Sm.Coll) (s : List UInt8) : SmNeutral.step col [[8], ib s] = (col, bytN (col.low s) s) := by
  rw [step_low, ← ans_bytes]
  rfl
theorem ans_high (col : Sm.Coll) (s : List UInt8) : SmNeutral.step col [[9], ib s] = (col, bytN (col.high s) s) := by
  rw [step_high, ← ans_bytes]
  rfl
theorem bytN_len {b s : List UInt8} (h : ¬ 64 < s.length → b.length ≤ 5000) : (bytN b s).length ≤ 10000 := by
  unfold bytN
  by_cases h1 : 64 < s.length
  · rw [if_pos h1]
    exact Nat.le_of_ble_eq_true rfl
  · rw [if_neg h1, List.length_cons, ib_len]
    have := h h1
    omega
theorem findN_len (c : Sm.Coll) (x y : List UInt8) (k f : Int) : (findN c x y k f).length ≤ 10000 := by
  unfold findN
  split
  · split
    · exact Nat.le_of_ble_eq_true rfl
    · cases c.find x y k.toNat f.toNat with
      | none => exact Nat.le_of_ble_eq_true rfl
      | some z => exact Nat.le_of_ble_eq_true rfl
  · exact Nat.le_of_ble_eq_true rfl
noncomputable def spAnsM (K : PySem.W.Frag) (CT CR : Addr) : Sp := fun vs H Q _ => ∃ (t r a wr : Addr) (ns rest : List Int) (col : Sm.Coll) (xs : List V) (k : Int) (x y : List UInt8), vs = [.ref t, .ref r] ∧ Sta K CT CR H t r a wr ns (k :: (((ib x).length : Int) :: (ib x ++ (((ib y).length : Int) :: (ib y ++ rest))))) col xs ∧ 0 ≤ k ∧
  (∀ H' q, Rel CT H' t wr (SmNeutral.step col [[5, k], ib x, ib y]).1 → RdL CR H' r a ns rest → SqL K H' a (ns.map V.int) → H' wr = some (.lst xs) → q ≠ wr → H' q = some (.lst ((SmNeutral.step col [[5, k], ib x, ib y]).2.map V.int)) → (SmNeutral.step col [[5, k], ib x, ib y]).2.length ≤ 10000 → Q (.ref q) H')
theorem scAnsM : FnScope ["table", "reader", "strength", "a", "b"] ["table", "reader"] (defScope sAnsM) := ⟨rfl, rfl, rfl, by decide +kernel, rfl, by decide +kernel, by decide +kernel⟩
theorem ok_ansM (T : Txt K mg D) : FnOk P w K mg base CX0 6 D.ansM D.ansMD ["table", "reader"] (spAnsM K D.CT D.CR) := by
  refine T.fAnsM.ok scAnsM (fun vs H Q E h => ?_) (fun cdv A outer s H vs Q E hr h => ?_)
  · obtain ⟨t, r, a, wr, ns, rest, col, xs, k, x, y, rfl, _⟩ := h
    rfl
  · obtain ⟨t, r, a, wr, ns, rest, col, xs, k, x, y, rfl, S1, hk, kk⟩ := h
    have hrm : Room 1 _ := hr.mono (by decide)
    have hrn : Room 2 _ := hr.mono (by decide)
    refine ⟨_, pss_cons (ps_set (i := 2) scAnsM.nd rfl (Or.inl rfl) (pe_meth0 (pv 1) T.clR T.kNum (ok_numL T) hrm (bNum T) .nil pass0))
          (pss_cons (ps_set (i := 3) scAnsM.nd rfl (Or.inl rfl) (pe_meth0 (pv 1) T.clR T.kRow (ok_rowL T) hrn (bRow T) .nil pass0))
          (pss_cons (ps_set (i := 4) scAnsM.nd rfl (Or.inl rfl) (pe_meth0 (pv 1) T.clR T.kRow (ok_rowL T) hrn (bRow T) .nil pass0))
          (pss_one (ps_ret (pe_lst (pa_cons (pe_meth (pv 0) T.clT T.kComp (ok_comp T) hr (bComp T) .nil pass0 (pa_cons (pv 3) (pa_cons (pv 4) (pa_cons (pv 2) pa_nil)))) pa_nil)))))), ?_⟩
    dsimp only [cxOf, Cx.nox]
    obtain ⟨p1, ⟨dx1, hr1⟩, _⟩ := id S1.rd
    refine seqA fun N hN => ?_
    refine (rM rfl (hr1) (rf_no _ _ (by decide) (by decide)) ⟨r, a, ns, _, k, rfl, S1.rd, S1.sq, fun H2 rd2 k2 sq2 => ?_⟩)
    have S2 := S1.butR k2 rd2 sq2
    obtain ⟨p2, ⟨dx2, hr2⟩, _⟩ := id S2.rd
    refine hN _ _ ?_
    refine seqA fun N hN => ?_
    refine (rM rfl (hr2) (rf_no _ _ (by decide) (by decide)) ⟨r, a, ns, ib x, _, rfl, S2.rd, S2.sq, fun H3 l3 rd3 k3 sq3 hl3 hL3 => ?_⟩)
    have S3 := S2.butR k3 rd3 sq3
    obtain ⟨p3, ⟨dx3, hr3⟩, _⟩ := id S3.rd
    refine hN _ _ ?_
    refine seqA fun N hN => ?_
    refine (rM rfl (hr3) (rf_no _ _ (by decide) (by decide)) ⟨r, a, ns, ib y, _, rfl, S3.rd, S3.sq, fun H4 l4 rd4 k4 sq4 hl4 hL4 => ?_⟩)
    have S4 := S3.butR k4 rd4 sq4
    have hL3' := k4 _ _ hL3 (ne_of hL3 hr3 (by intro z; cases z))
    obtain ⟨d4, kvs4, B4, En4, hx4⟩ := id S4.rel.ex
    obtain ⟨dt4, ht4⟩ := id B4.ins
    refine hN _ _ ?_
    refine (rM rfl (ht4) (tf_no _ _ (by decide) (by decide)) ⟨_, rfl, _, rfl, _, rfl, t, l3, l4, col, x, y, k, rfl, S4.tb, SqL.of hL3', SqL.of hL4, fun H5 s5 => ?_⟩)
    refine ⟨(by show 1 ≤ sizeLine; decide), fun q hq => ?_⟩
    exact (S4.same s5).fin (ans := [compN col x y k]) (ans_compare col k hk x y) (Nat.le_of_ble_eq_true rfl) kk hq
theorem bAnsM (T : Txt K mg D) : Binds K D.ansMD ["table", "reader"] [] := T.fAnsM.binds fun _ _ _ _ _ _ => bind2 fun _ _ => rfl
noncomputable def spAnsF (K : PySem.W.Frag) (CT CR : Addr) : Sp := fun vs H Q _ => ∃ (t r a wr : Addr) (ns rest : List Int) (col : Sm.Coll) (xs : List V) (k f : Int) (x y : List UInt8), vs = [.ref t, .ref r] ∧ Sta K CT CR H t r a wr ns (k :: (f :: (((ib x).length : Int) :: (ib x ++ (((ib y).length : Int) :: (ib y ++ rest)))))) col xs ∧ 0 ≤ k ∧ 0 ≤ f ∧
  (∀ H' q, Rel CT H' t wr (SmNeutral.step col [[6, k, f], ib x, ib y]).1 → RdL CR H' r a ns rest → SqL K H' a (ns.map V.int) → H' wr = some (.lst xs) → q ≠ wr → H' q = some (.lst ((SmNeutral.step col [[6, k, f], ib x, ib y]).2.map V.int)) → (SmNeutral.step col [[6, k, f], ib x, ib y]).2.length ≤ 10000 → Q (.ref q) H')
theorem scAnsF : FnScope ["table", "reader", "strength", "start", "s", "p"] ["table", "reader"] (defScope sAnsF) := ⟨rfl, rfl, rfl, by decide +kernel, rfl, by decide +kernel, by decide +kernel⟩
theorem ok_ansF (T : Txt K mg D) : FnOk P w K mg base CX0 6 D.ansF D.ansFD ["table", "reader"] (spAnsF K D.CT D.CR) := by
  refine T.fAnsF.ok scAnsF (fun vs H Q E h => ?_) (fun cdv A outer s H vs Q E hr h => ?_)
  · obtain ⟨t, r, a, wr, ns, rest, col, xs, k, f, x, y, rfl, _⟩ := h
    rfl
  · obtain ⟨t, r, a, wr, ns, rest, col, xs, k, f, x, y, rfl, S0, hk, hf, kk⟩ := h
    have hrm : Room 1 _ := hr.mono (by decide)
    have hrn : Room 2 _ := hr.mono (by decide)
    refine ⟨_, pss_cons (ps_set (i := 2) scAnsF.nd rfl (Or.inl rfl) (pe_meth0 (pv 1) T.clR T.kNum (ok_numL T) hrm (bNum T) .nil pass0))
          (pss_cons (ps_set (i := 3) scAnsF.nd rfl (Or.inl rfl) (pe_meth0 (pv 1) T.clR T.kNum (ok_numL T) hrm (bNum T) .nil pass0))
          (pss_cons (ps_set (i := 4) scAnsF.nd rfl (Or.inl rfl) (pe_meth0 (pv 1) T.clR T.kRow (ok_rowL T) hrn (bRow T) .nil pass0))
          (pss_cons (ps_set (i := 5) scAnsF.nd rfl (Or.inl rfl) (pe_meth0 (pv 1) T.clR T.kRow (ok_rowL T) hrn (bRow T) .nil pass0))
          (pss_one (ps_ret (pe_meth (pv 0) T.clT T.kFind (ok_find T) hr (bFind T) .nil pass0 (pa_cons (pv 4) (pa_cons (pv 5) (pa_cons (pv 2) (pa_cons (pv 3) pa_nil)))))))))), ?_⟩
    dsimp only [cxOf, Cx.nox]
    obtain ⟨p0, ⟨dx0, hr0⟩, _⟩ := id S0.rd
    refine seqA fun N hN => ?_
    refine (rM rfl (hr0) (rf_no _ _ (by decide) (by decide)) ⟨r, a, ns, _, k, rfl, S0.rd, S0.sq, fun H1 rd1 k1 sq1 => ?_⟩)
    have S1 := S0.butR k1 rd1 sq1
    obtain ⟨p1, ⟨dx1, hr1⟩, _⟩ := id S1.rd
    refine hN _ _ ?_
    refine seqA fun N hN => ?_
    refine (rM rfl (hr1) (rf_no _ _ (by decide) (by decide)) ⟨r, a, ns, _, f, rfl, S1.rd, S1.sq, fun H2 rd2 k2 sq2 => ?_⟩)
    have S2 := S1.butR k2 rd2 sq2
    obtain ⟨p2, ⟨dx2, hr2⟩, _⟩ := id S2.rd
    refine hN _ _ ?_
    refine seqA fun N hN => ?_
    refine (rM rfl (hr2) (rf_no _ _ (by decide) (by decide)) ⟨r, a, ns, ib x, _, rfl, S2.rd, S2.sq, fun H3 l3 rd3 k3 sq3 hl3 hL3 => ?_⟩)
    have S3 := S2.butR k3 rd3 sq3
    obtain ⟨p3, ⟨dx3, hr3⟩, _⟩ := id S3.rd
    refine hN _ _ ?_
    refine seqA fun N hN => ?_
    refine (rM rfl (hr3) (rf_no _ _ (by decide) (by decide)) ⟨r, a, ns, ib y, _, rfl, S3.rd, S3.sq, fun H4 l4 rd4 k4 sq4 hl4 hL4 => ?_⟩)
    have S4 := S3.butR k4 rd4 sq4
    have hL3' := k4 _ _ hL3 (ne_of hL3 hr3 (by intro z; cases z))
    obtain ⟨d4, kvs4, B4, En4, hx4⟩ := id S4.rel.ex
    obtain ⟨dt4, ht4⟩ := id B4.ins
    refine hN _ _ ?_
    refine (rM rfl (ht4) (tf_no _ _ (by decide) (by decide)) ⟨_, rfl, _, rfl, _, rfl, _, rfl, t, l3, l4, col, x, y, k, f, rfl, S4.tb, SqL.of hL3', SqL.of hL4, hf, fun H5 l5 s5 n5 h5 => ?_⟩)
    exact S4.fin2 (ans_find col k f hk x y) (findN_len col x y k f) kk s5 n5 h5
theorem bAnsF (T : Txt K mg D) : Binds K D.ansFD ["table", "reader"] [] := T.fAnsF.binds fun _ _ _ _ _ _ => bind2 fun _ _ => rfl
theorem ok_answer (T : Txt K mg D) : FnOk P w K mg base CX0 7 D.answer D.answerD ["table", "reader"] (spAnswer K D.CT D.CR) := by
  refine T.fAnswer.ok scAnswer (fun vs H Q E h => ?_) (fun cdv A outer s H vs Q E hr h => ?_)
  · obtain ⟨t, r, a, wr, ns, rest, c, col, xs, rfl, _⟩ := h
    rfl
  · obtain ⟨t, r, a, wr, ns, rest, c, col, xs, rfl, hR, hRd, hS, hg, hw, kk⟩ := h
    have hrm : Room 1 _ := hr.mono (by decide)
    have hrn : Room 2 _ := hr.mono (by decide)
    have hr3 : Room 3 _ := hr.mono (by decide)
    have hr5 : Room 5 _ := hr.mono (by decide)
    refine ⟨_, pss_cons (ps_set (i := 2) scAnswer.nd rfl (Or.inl rfl) (pe_meth0 (pv 1) T.clR T.kNum (ok_numL T) hrm (bNum T) .nil pass0))
      (pss_cons (ps_if (pt_cmpR op_eq (pv 2) (pgi T.gB) (nomark _)) (pss_one (ps_ret (pe_lst (pa_cons (pe_meth (pv 0) T.clT T.kBegin (ok_begin T) hrm (bBegin T) .nil pass0 (pa_cons (pe_meth0 (pv 1) T.clR T.kNum (ok_numL T) hrm (bNum T) .nil pass0) pa_nil)) pa_nil)))) pss_nil)
      (pss_cons (ps_if (pt_cmpR op_eq (pv 2) (pgi T.gA) (nomark _)) (pss_one (ps_ret (pe_call (ok_ansA T) hr3 (by rfl) T.mAnsA T.fAnsA.kp (bAnsA T) .nil pass0 (pa_cons (pv 0) (pa_cons (pv 1) pa_nil))))) pss_nil)
      (pss_cons (ps_if (pt_cmpR op_eq (pv 2) (pgi T.gD) (nomark _)) (pss_one (ps_ret (pe_lst (pa_cons (pe_meth (pv 0) T.clT T.kDrop (ok_drop T) hrm (bDrop T) .nil pass0 (pa_cons (pe_meth0 (pv 1) T.clR T.kRow (ok_rowL T) hrn (bRow T) .nil pass0) pa_nil)) pa_nil)))) pss_nil)
      (pss_cons (ps_if (pt_cmpR op_eq (pv 2) (pgi T.gC) (nomark _)) (pss_one (ps_ret (pe_lst (pa_cons (pe_meth0 (pv 0) T.clT T.kCount (ok_count T) hrm (bCount T) .nil pass0) pa_nil)))) pss_nil)
      (pss_cons (ps_if (pt_cmpR op_eq (pv 2) (pgi T.gU) (nomark _)) (pss_one (ps_ret (pe_call (ok_ansC T) hr3 (by rfl) T.mAnsC T.fAnsC.kp (bAnsC T) .nil pass0 (pa_cons (pv 0) (pa_cons (pv 1) pa_nil))))) pss_nil)
      (pss_cons (ps_if (pt_cmpR op_eq (pv 2) (pgi T.gCO) (nomark _)) (pss_one (ps_ret (pe_call (ok_ansM T) hr (by rfl) T.mAnsM T.fAnsM.kp (bAnsM T) .nil pass0 (pa_cons (pv 0) (pa_cons (pv 1) pa_nil))))) pss_nil)
      (pss_cons (ps_if (pt_cmpR op_eq (pv 2) (pgi T.gFI) (nomark _)) (pss_one (ps_ret (pe_call (ok_ansF T) hr (by rfl) T.mAnsF T.fAnsF.kp (bAnsF T) .nil pass0 (pa_cons (pv 0) (pa_cons (pv 1) pa_nil))))) pss_nil)
      (pss_cons (ps_if (pt_cmpR op_eq (pv 2) (pgi T.gK) (nomark _)) (pss_one (ps_ret (pe_meth (pv 0) T.clT T.kKey (ok_key T) hr5 (bKey T) .nil pass0 (pa_cons (pe_meth0 (pv 1) T.clR T.kRow (ok_rowL T) hrn (bRow T) .nil pass0) pa_nil)))) pss_nil)
      (pss_cons (ps_if (pt_cmpR op_eq (pv 2) (pgi T.gL) (nomark _)) (pss_one (ps_ret (pe_meth (pv 0) T.clT T.kLow (ok_low T) hr5 (bLow T) .nil pass0 (pa_cons (pe_meth0 (pv 1) T.clR T.kRow (ok_rowL T) hrn (bRow T) .nil pass0) pa_nil)))) pss_nil)
      (pss_cons (ps_if (pt_cmpR op_eq (pv 2) (pgi T.gH) (nomark _)) (pss_one (ps_ret (pe_meth (pv 0) T.clT T.kHigh (ok_high T) hr5 (bHigh T) .nil pass0 (pa_cons (pe_meth0 (pv 1) T.clR T.kRow (ok_rowL T) hrn (bRow T) .nil pass0) pa_nil)))) pss_nil)
      pss_never)))))))))), ?_⟩
    dsimp only [cxOf, Cx.nox]
    have S0 : Sta K D.CT D.CR H t r a wr ns (PyFlat.put1 c ++ rest) col xs := ⟨hR, hRd, hS, hw⟩
    obtain ⟨z, tl, hz⟩ : ∃ z tl, PyFlat.put1 c ++ rest = z :: tl := by
      cases hg <;> exact ⟨_, _, rfl⟩
    rw [hz] at S0
    obtain ⟨p0, ⟨dx0, hr0⟩, _⟩ := id S0.rd
    refine seqA fun N hN => ?_
    refine (rM rfl (hr0) (rf_no _ _ (by decide) (by decide)) ⟨r, a, ns, tl, z, rfl, S0.rd, S0.sq, fun H1 rd1 k1 sq1 => ?_⟩)
    have S1 := S0.butR k1 rd1 sq1
    obtain ⟨p1, ⟨dx1, hr1⟩, _⟩ := id S1.rd
    obtain ⟨d1, kvs1, B1, En1, hx1⟩ := id S1.rel.ex
    obtain ⟨dt1, ht1⟩ := id B1.ins
    cases hg with
    | begin_ x hx =>
      obtain ⟨rfl, rfl⟩ : 0 = z ∧ [x] ++ rest = tl := List.cons.inj hz
      refine hN _ _ ?_
      refine takeN rfl ?_
      refine (rM rfl (ht1) (tf_no _ _ (by decide) (by decide)) (rM rfl (hr1) (rf_no _ _ (by decide) (by decide)) ⟨r, a, ns, rest, x, rfl, S1.rd, S1.sq, fun H2 rd2 k2 sq2 => ?_⟩))
      have S2 := S1.butR k2 rd2 sq2
      obtain ⟨d2, kvs2, B2, En2, hx2⟩ := id S2.rel.ex
      obtain ⟨dt2, ht2⟩ := id B2.ins
      refine ⟨t, d2, _, x, kvs2, rfl, B2, fun h1 => ?_, fun h1 H3 d3 B3 k3 hd3 => ?_⟩
      · refine ⟨(by show 1 ≤ sizeLine; decide), fun q hq => ?_⟩
        refine S2.fin (ans := [-1]) ?_ (by decide) kk hq
        rw [step_begin]
        have e : 1 < x.toNat := by omega
        show ((if 1 < x.toNat then _ else _ : Sm.State × Sm.Answer).1, SmNeutral.shown (if 1 < x.toNat then _ else _ : Sm.State × Sm.Answer).2) = _
        rw [if_pos e]
        rfl
      · refine ⟨(by show 1 ≤ sizeLine; decide), fun q hq => ?_⟩
        have e : ¬ 1 < x.toNat := by omega
        have eo : x = optOf (x.toNat == 1) := by
          unfold optOf
          by_cases h : x = 1
          · subst h; rfl
          · have : x = 0 := by omega
            subst this; rfl
        have R3 : Rel D.CT H3 t wr ⟨x.toNat == 1, []⟩ := ⟨⟨d3, [], by rw [← eo]; exact B3, .nil, fun kv hm => by simp at hm⟩, ⟨Nat.zero_le _, fun e he => by simp at he, fun e he => by simp at he⟩⟩
        refine (S2.butT ht2 k3 R3).fin (ans := [0]) ?_ (by decide) kk hq
        rw [step_begin]
        show ((if 1 < x.toNat then _ else _ : Sm.State × Sm.Answer).1, SmNeutral.shown (if 1 < x.toNat then _ else _ : Sm.State × Sm.Answer).2) = _
        rw [if_neg e]
        rfl
    | add s ws h1 h2 h3 =>
      rw [put2r] at hz
      obtain ⟨rfl, rfl⟩ : 1 = z ∧ _ = tl := List.cons.inj hz
      refine hN _ _ ?_
      refine skipN rfl (by decide) (takeN rfl ?_)
      exact ⟨_, rfl, _, rfl, t, r, a, wr, ns, rest, col, xs, s, ws, rfl, S1, h2, h3, kk⟩
    | drop s h1 =>
      rw [put1r] at hz
      obtain ⟨rfl, rfl⟩ : 2 = z ∧ _ = tl := List.cons.inj hz
      refine hN _ _ ?_
      refine skipN rfl (by decide) (skipN rfl (by decide) (takeN rfl ?_))
      refine (rM rfl (ht1) (tf_no _ _ (by decide) (by decide)) (rM rfl (hr1) (rf_no _ _ (by decide) (by decide)) ⟨r, a, ns, ib s, _, rfl, S1.rd, S1.sq, fun H2 l2 rd2 k2 sq2 hl2 hL2 => ?_⟩))
      have S2 := S1.butR k2 rd2 sq2
      obtain ⟨d2, kvs2, B2, En2, hx2⟩ := id S2.rel.ex
      have hhas := En2.has (c := col) s
      refine ⟨t, d2, l2, _, kvs2, ib s, rfl, B2, SqL.of hL2, fun hv H3 s3 => ?_, fun v hv H3 k3 B3 => ?_⟩
      · refine ⟨(by show 1 ≤ sizeLine; decide), fun q hq => ?_⟩
        refine (S2.same s3).fin (ans := [0]) ?_ (by decide) kk hq
        rw [hv] at hhas
        rw [step_drop]
        show ((if col.has s = true then _ else _ : Sm.State × Sm.Answer).1, SmNeutral.shown (if col.has s = true then _ else _ : Sm.State × Sm.Answer).2) = _
        rw [← hhas, if_neg (by simp)]
        rfl
      · refine ⟨(by show 1 ≤ sizeLine; decide), fun q hq => ?_⟩
        rw [hv] at hhas
        have R3 : Rel D.CT H3 t wr ⟨col.back, col.entries.filter fun e => e.seq != s⟩ := by
          refine ⟨⟨d2, _, B3, (En2.drop s).keep (X := fun _ => False) (fun _ _ _ _ z => z) (fun b o e h => k3 _ _ e ?_), fun kv hm => hx2 kv (dropK_mem hm)⟩, ⟨Nat.le_trans (List.length_filter_le _ _) S2.rel.ok.few, fun e he => S2.rel.ok.seq e (List.mem_filter.mp he).1, fun e he => S2.rel.ok.els e (List.mem_filter.mp he).1⟩⟩
          rcases h with ⟨_, ys, h⟩ | ⟨ys, h⟩ <;> subst h <;> exact ne_of e B2.dict (by intro z; cases z)
        refine (S2.butD B2.dict k3 R3).fin (ans := [1]) ?_ (by decide) kk hq
        rw [step_drop]
        show ((if col.has s = true then _ else _ : Sm.State × Sm.Answer).1, SmNeutral.shown (if col.has s = true then _ else _ : Sm.State × Sm.Answer).2) = _
        rw [← hhas, if_pos (show (some v).isSome = true from rfl)]
        rfl
    | count => 
      obtain ⟨rfl, rfl⟩ : 3 = z ∧ rest = tl := List.cons.inj hz
      refine hN _ _ ?_
      refine skipN rfl (by decide) (skipN rfl (by decide) (skipN rfl (by decide) (takeN rfl ?_)))
      refine (rM rfl (ht1) (tf_no _ _ (by decide) (by decide)) ⟨t, d1, _, kvs1, rfl, B1, (by show 1 ≤ sizeLine; decide), fun q hq => ?_⟩)
      refine S1.fin (ans := [(kvs1.length : Int)]) ?_ (Nat.le_of_ble_eq_true rfl) kk hq
      rw [step_count, En1.len]
    | cut x s h1 h2 =>
      rw [put1r] at hz
      obtain ⟨rfl, rfl⟩ : 4 = z ∧ _ = tl := List.cons.inj hz
      refine hN _ _ ?_
      refine skipN rfl (by decide) (skipN rfl (by decide) (skipN rfl (by decide) (skipN rfl (by decide) (takeN rfl ?_))))
      exact ⟨_, rfl, _, rfl, t, r, a, wr, ns, rest, col, xs, x, s, rfl, S1, h1, h2, kk⟩
    | compare k x y h1 h2 h3 =>
      rw [put2r] at hz
      obtain ⟨rfl, rfl⟩ : 5 = z ∧ _ = tl := List.cons.inj hz
      refine hN _ _ ?_
      refine skipN rfl (by decide) (skipN rfl (by decide) (skipN rfl (by decide) (skipN rfl (by decide) (skipN rfl (by decide) (takeN rfl ?_)))))
      exact ⟨_, rfl, _, rfl, t, r, a, wr, ns, rest, col, xs, k, x, y, rfl, S1, h1, kk⟩
    | find k f x y h1 h2 h3 h4 =>
      rw [put2r] at hz
      obtain ⟨rfl, rfl⟩ : 6 = z ∧ _ = tl := List.cons.inj hz
      refine hN _ _ ?_
      refine skipN rfl (by decide) (skipN rfl (by decide) (skipN rfl (by decide) (skipN rfl (by decide) (skipN rfl (by decide) (skipN rfl (by decide) (takeN rfl ?_))))))
      exact ⟨_, rfl, _, rfl, t, r, a, wr, ns, rest, col, xs, k, f, x, y, rfl, S1, h1, h2, kk⟩
    | key s h1 =>
      rw [put1r] at hz
      obtain ⟨rfl, rfl⟩ : 7 = z ∧ _ = tl := List.cons.inj hz
      refine hN _ _ ?_
      refine skipN rfl (by decide) (skipN rfl (by decide) (skipN rfl (by decide) (skipN rfl (by decide) (skipN rfl (by decide) (skipN rfl (by decide) (skipN rfl (by decide) (takeN rfl ?_)))))))
      refine (rM rfl (ht1) (tf_no _ _ (by decide) (by decide)) (rM rfl (hr1) (rf_no _ _ (by decide) (by decide)) ⟨r, a, ns, ib s, _, rfl, S1.rd, S1.sq, fun H2 l2 rd2 k2 sq2 hl2 hL2 => ?_⟩))
      have S2 := S1.butR k2 rd2 sq2
      refine ⟨t, l2, col, s, rfl, S2.tb, SqL.of hL2, fun H3 l3 s3 n3 h3 => ?_⟩
      refine S2.fin2 (ans_key col s) (bytN_len fun h4 => ?_) kk s3 n3 h3
      · have := key_len S2.rel.ok (t := s) (by omega)
        omega
    | low s h1 =>
      rw [put1r] at hz
      obtain ⟨rfl, rfl⟩ : 8 = z ∧ _ = tl := List.cons.inj hz
      refine hN _ _ ?_
      refine skipN rfl (by decide) (skipN rfl (by decide) (skipN rfl (by decide) (skipN rfl (by decide) (skipN rfl (by decide) (skipN rfl (by decide) (skipN rfl (by decide) (skipN rfl (by decide) (takeN rfl ?_))))))))
      refine (rM rfl (ht1) (tf_no _ _ (by decide) (by decide)) (rM rfl (hr1) (rf_no _ _ (by decide) (by decide)) ⟨r, a, ns, ib s, _, rfl, S1.rd, S1.sq, fun H2 l2 rd2 k2 sq2 hl2 hL2 => ?_⟩))
      have S2 := S1.butR k2 rd2 sq2
      refine ⟨t, l2, col, s, rfl, S2.tb, SqL.of hL2, fun H3 l3 s3 n3 h3 => ?_⟩
      refine S2.fin2 (ans_low col s) (bytN_len fun h4 => ?_) kk s3 n3 h3
      · have := low_len S2.rel.ok (t := s) (by omega)
        omega
    | high s h1 =>
      rw [put1r] at hz
      obtain ⟨rfl, rfl⟩ : 9 = z ∧ _ = tl := List.cons.inj hz
      refine hN _ _ ?_
      refine skipN rfl (by decide) (skipN rfl (by decide) (skipN rfl (by decide) (skipN rfl (by decide) (skipN rfl (by decide) (skipN rfl (by decide) (skipN rfl (by decide) (skipN rfl (by decide) (skipN rfl (by decide) (takeN rfl ?_)))))))))
      refine (rM rfl (ht1) (tf_no _ _ (by decide) (by decide)) (rM rfl (hr1) (rf_no _ _ (by decide) (by decide)) ⟨r, a, ns, ib s, _, rfl, S1.rd, S1.sq, fun H2 l2 rd2 k2 sq2 hl2 hL2 => ?_⟩))
      have S2 := S1.butR k2 rd2 sq2
      refine ⟨t, l2, col, s, rfl, S2.tb, SqL.of hL2, fun H3 l3 s3 n3 h3 => ?_⟩
      refine S2.fin2 (ans_high col s) (bytN_len fun h4 => ?_) kk s3 n3 h3
      · have h5 := low_len S2.rel.ok (t := s) (by omega)
        have h6 : (col.high s).length = (col.low s).length + 3 := by
          show (col.low s ++ [255, 255, 255]).length = _
          rw [List.length_append]
          rfl
        omega
end
end Sh
end
set_option Elab.async false
set_option linter.all false
set_option maxRecDepth 100000
set_option maxHeartbeats 2000000
namespace Sh
open PySem PySem.Spec PyProof.Rows L2
theorem all_mk {P : Program} {w : World} {K : PySem.W.Frag} {h : Heap} {mg : Str → Option Value} {fa CT CR fLev fStand fOpts fOrd fBetw fInb fKeyOf fLowOf fHighOf fWts fIsq fThr fStr fLong fWlen fTInit fBegin fAdd fDrop fCount fCut fComp fFind fKey fLow fHigh fBehind fWat fJof fWof fLof fLbef fFirst fRInit fMore fNum fRow fAnsA fAnsC fAnsM fAnsF fAnswer fAnswers : Addr} (X : K.In h) (G : h.Ns mainGlobals mg) (hfa : mg "answers" = some (.ref fa))
    {odLev anLev odStand anStand odOpts anOpts odOrd anOrd odBetw anBetw odInb anInb odKeyOf anKeyOf odLowOf anLowOf odHighOf anHighOf odWts anWts odIsq anIsq odThr anThr odStr anStr odLong anLong odWlen anWlen odTInit anTInit odBegin anBegin odAdd anAdd odDrop anDrop odCount anCount odCut anCut odComp anComp odFind anFind odKey anKey odLow anLow odHigh anHigh odBehind anBehind odWat anWat odJof anJof odWof anWof odLof anLof odLbef anLbef odFirst anFirst odRInit anRInit odMore anMore odNum anNum odRow anRow odAnsA anAnsA odAnsC anAnsC odAnsM anAnsM odAnsF anAnsF odAnswer anAnswer odAnswers anAnswers : Option Addr} {slLev slStand slOpts slOrd slBetw slInb slKeyOf slLowOf slHighOf slWts slIsq slThr slStr slLong slWlen slTInit slBegin slAdd slDrop slCount slCut slComp slFind slKey slLow slHigh slBehind slWat slJof slWof slLof slLbef slFirst slRInit slMore slNum slRow slAnsA slAnsC slAnsM slAnsF slAnswer slAnswers : Array (Option Value)} {ocLev kVLev dcLev pmLev cdLev ctLev ocStand kVStand dcStand pmStand cdStand ctStand ocOpts kVOpts dcOpts pmOpts cdOpts ctOpts ocOrd kVOrd dcOrd pmOrd cdOrd ctOrd ocBetw kVBetw dcBetw pmBetw cdBetw ctBetw ocInb kVInb dcInb pmInb cdInb ctInb ocKeyOf kVKeyOf dcKeyOf pmKeyOf cdKeyOf ctKeyOf ocLowOf kVLowOf dcLowOf pmLowOf cdLowOf ctLowOf ocHighOf kVHighOf dcHighOf pmHighOf cdHighOf ctHighOf ocWts kVWts dcWts pmWts cdWts ctWts ocIsq kVIsq dcIsq pmIsq cdIsq ctIsq ocThr kVThr dcThr pmThr cdThr ctThr ocStr kVStr dcStr pmStr cdStr ctStr ocLong kVLong dcLong pmLong cdLong ctLong ocWlen kVWlen dcWlen pmWlen cdWlen ctWlen ocTInit kVTInit dcTInit pmTInit cdTInit ctTInit ocBegin kVBegin dcBegin pmBegin cdBegin ctBegin ocAdd kVAdd dcAdd pmAdd cdAdd ctAdd ocDrop kVDrop dcDrop pmDrop cdDrop ctDrop ocCount kVCount dcCount pmCount cdCount ctCount ocCut kVCut dcCut pmCut cdCut ctCut ocComp kVComp dcComp pmComp cdComp ctComp ocFind kVFind dcFind pmFind cdFind ctFind ocKey kVKey dcKey pmKey cdKey ctKey ocLow kVLow dcLow pmLow cdLow ctLow ocHigh kVHigh dcHigh pmHigh cdHigh ctHigh ocBehind kVBehind dcBehind pmBehind cdBehind ctBehind ocWat kVWat dcWat pmWat cdWat ctWat ocJof kVJof dcJof pmJof cdJof ctJof ocWof kVWof dcWof pmWof cdWof ctWof ocLof kVLof dcLof pmLof cdLof ctLof ocLbef kVLbef dcLbef pmLbef cdLbef ctLbef ocFirst kVFirst dcFirst pmFirst cdFirst ctFirst ocRInit kVRInit dcRInit pmRInit cdRInit ctRInit ocMore kVMore dcMore pmMore cdMore ctMore ocNum kVNum dcNum pmNum cdNum ctNum ocRow kVRow dcRow pmRow cdRow ctRow ocAnsA kVAnsA dcAnsA pmAnsA cdAnsA ctAnsA ocAnsC kVAnsC dcAnsC pmAnsC cdAnsC ctAnsC ocAnsM kVAnsM dcAnsM pmAnsM cdAnsM ctAnsM ocAnsF kVAnsF dcAnsF pmAnsF cdAnsF ctAnsF ocAnswer kVAnswer dcAnswer pmAnswer cdAnswer ctAnswer ocAnswers kVAnswers dcAnswers pmAnswers cdAnswers ctAnswers : Value} {tgF1 tgF2 tgF3 tgFE tgEQ tgBE tgBH tgGO tgLS tgWE tgMW tgGW tgME tgLT tgGS tgUL tgUN tgTL tgTA tgFU tgB tgA tgD tgC tgU tgCO tgFI tgK tgL tgH : Tok}
    (aT : PySem.W.nsIn K mainGlobals "Table" = some (some (.ref CT)))
    (aR : PySem.W.nsIn K mainGlobals "Reader" = some (some (.ref CR)))
    (nLev : PySem.W.nsIn K mainGlobals "level" = some (some (.ref fLev)))
    (lLev : K.lookup fLev = some ⟨ocLev, odLev, .func (PySem.W.fnOf "level" "level" (defArgs sLev) (defBody sLev) (defScope sLev) .none kVLev dcLev pmLev anLev cdLev ctLev), slLev⟩)
    (cLev : PySem.W.codeIn K cdLev "level" = true)
    (kLev : PySem.W.keepIn K (.ref fLev) = true)
    (nStand : PySem.W.nsIn K mainGlobals "levels_as_they_stand" = some (some (.ref fStand)))
    (lStand : K.lookup fStand = some ⟨ocStand, odStand, .func (PySem.W.fnOf "levels_as_they_stand" "levels_as_they_stand" (defArgs sStand) (defBody sStand) (defScope sStand) .none kVStand dcStand pmStand anStand cdStand ctStand), slStand⟩)
    (cStand : PySem.W.codeIn K cdStand "levels_as_they_stand" = true)
    (kStand : PySem.W.keepIn K (.ref fStand) = true)
    (nOpts : PySem.W.nsIn K mainGlobals "levels_by_options" = some (some (.ref fOpts)))
    (lOpts : K.lookup fOpts = some ⟨ocOpts, odOpts, .func (PySem.W.fnOf "levels_by_options" "levels_by_options" (defArgs sOpts) (defBody sOpts) (defScope sOpts) .none kVOpts dcOpts pmOpts anOpts cdOpts ctOpts), slOpts⟩)
    (cOpts : PySem.W.codeIn K cdOpts "levels_by_options" = true)
    (kOpts : PySem.W.keepIn K (.ref fOpts) = true)
    (nOrd : PySem.W.nsIn K mainGlobals "order" = some (some (.ref fOrd)))
    (lOrd : K.lookup fOrd = some ⟨ocOrd, odOrd, .func (PySem.W.fnOf "order" "order" (defArgs sOrd) (defBody sOrd) (defScope sOrd) .none kVOrd dcOrd pmOrd anOrd cdOrd ctOrd), slOrd⟩)
    (cOrd : PySem.W.codeIn K cdOrd "order" = true)
    (kOrd : PySem.W.keepIn K (.ref fOrd) = true)
    (nBetw : PySem.W.nsIn K mainGlobals "are_between" = some (some (.ref fBetw)))
    (lBetw : K.lookup fBetw = some ⟨ocBetw, odBetw, .func (PySem.W.fnOf "are_between" "are_between" (defArgs sBetw) (defBody sBetw) (defScope sBetw) .none kVBetw dcBetw pmBetw anBetw cdBetw ctBetw), slBetw⟩)
    (cBetw : PySem.W.codeIn K cdBetw "are_between" = true)
    (kBetw : PySem.W.keepIn K (.ref fBetw) = true)
    (nInb : PySem.W.nsIn K mainGlobals "in_bytes" = some (some (.ref fInb)))
    (lInb : K.lookup fInb = some ⟨ocInb, odInb, .func (PySem.W.fnOf "in_bytes" "in_bytes" (defArgs sInb) (defBody sInb) (defScope sInb) .none kVInb dcInb pmInb anInb cdInb ctInb), slInb⟩)
    (cInb : PySem.W.codeIn K cdInb "in_bytes" = true)
    (kInb : PySem.W.keepIn K (.ref fInb) = true)
    (nKeyOf : PySem.W.nsIn K mainGlobals "key_of" = some (some (.ref fKeyOf)))
    (lKeyOf : K.lookup fKeyOf = some ⟨ocKeyOf, odKeyOf, .func (PySem.W.fnOf "key_of" "key_of" (defArgs sKeyOf) (defBody sKeyOf) (defScope sKeyOf) .none kVKeyOf dcKeyOf pmKeyOf anKeyOf cdKeyOf ctKeyOf), slKeyOf⟩)
    (cKeyOf : PySem.W.codeIn K cdKeyOf "key_of" = true)
    (kKeyOf : PySem.W.keepIn K (.ref fKeyOf) = true)
    (nLowOf : PySem.W.nsIn K mainGlobals "low_of" = some (some (.ref fLowOf)))
    (lLowOf : K.lookup fLowOf = some ⟨ocLowOf, odLowOf, .func (PySem.W.fnOf "low_of" "low_of" (defArgs sLowOf) (defBody sLowOf) (defScope sLowOf) .none kVLowOf dcLowOf pmLowOf anLowOf cdLowOf ctLowOf), slLowOf⟩)
    (cLowOf : PySem.W.codeIn K cdLowOf "low_of" = true)
    (kLowOf : PySem.W.keepIn K (.ref fLowOf) = true)
    (nHighOf : PySem.W.nsIn K mainGlobals "high_of" = some (some (.ref fHighOf)))
    (lHighOf : K.lookup fHighOf = some ⟨ocHighOf, odHighOf, .func (PySem.W.fnOf "high_of" "high_of" (defArgs sHighOf) (defBody sHighOf) (defScope sHighOf) .none kVHighOf dcHighOf pmHighOf anHighOf cdHighOf ctHighOf), slHighOf⟩)
    (cHighOf : PySem.W.codeIn K cdHighOf "high_of" = true)
    (kHighOf : PySem.W.keepIn K (.ref fHighOf) = true)
    (nWts : PySem.W.nsIn K mainGlobals "are_weights" = some (some (.ref fWts)))
    (lWts : K.lookup fWts = some ⟨ocWts, odWts, .func (PySem.W.fnOf "are_weights" "are_weights" (defArgs sWts) (defBody sWts) (defScope sWts) .none kVWts dcWts pmWts anWts cdWts ctWts), slWts⟩)
    (cWts : PySem.W.codeIn K cdWts "are_weights" = true)
    (kWts : PySem.W.keepIn K (.ref fWts) = true)
    (nIsq : PySem.W.nsIn K mainGlobals "is_sequence" = some (some (.ref fIsq)))
    (lIsq : K.lookup fIsq = some ⟨ocIsq, odIsq, .func (PySem.W.fnOf "is_sequence" "is_sequence" (defArgs sIsq) (defBody sIsq) (defScope sIsq) .none kVIsq dcIsq pmIsq anIsq cdIsq ctIsq), slIsq⟩)
    (cIsq : PySem.W.codeIn K cdIsq "is_sequence" = true)
    (kIsq : PySem.W.keepIn K (.ref fIsq) = true)
    (nThr : PySem.W.nsIn K mainGlobals "in_threes" = some (some (.ref fThr)))
    (lThr : K.lookup fThr = some ⟨ocThr, odThr, .func (PySem.W.fnOf "in_threes" "in_threes" (defArgs sThr) (defBody sThr) (defScope sThr) .none kVThr dcThr pmThr anThr cdThr ctThr), slThr⟩)
    (cThr : PySem.W.codeIn K cdThr "in_threes" = true)
    (kThr : PySem.W.keepIn K (.ref fThr) = true)
    (nStr : PySem.W.nsIn K mainGlobals "is_strength" = some (some (.ref fStr)))
    (lStr : K.lookup fStr = some ⟨ocStr, odStr, .func (PySem.W.fnOf "is_strength" "is_strength" (defArgs sStr) (defBody sStr) (defScope sStr) .none kVStr dcStr pmStr anStr cdStr ctStr), slStr⟩)
    (cStr : PySem.W.codeIn K cdStr "is_strength" = true)
    (kStr : PySem.W.keepIn K (.ref fStr) = true)
    (nLong : PySem.W.nsIn K mainGlobals "is_too_long" = some (some (.ref fLong)))
    (lLong : K.lookup fLong = some ⟨ocLong, odLong, .func (PySem.W.fnOf "is_too_long" "is_too_long" (defArgs sLong) (defBody sLong) (defScope sLong) .none kVLong dcLong pmLong anLong cdLong ctLong), slLong⟩)
    (cLong : PySem.W.codeIn K cdLong "is_too_long" = true)
    (kLong : PySem.W.keepIn K (.ref fLong) = true)
    (nWlen : PySem.W.nsIn K mainGlobals "with_length" = some (some (.ref fWlen)))
    (lWlen : K.lookup fWlen = some ⟨ocWlen, odWlen, .func (PySem.W.fnOf "with_length" "with_length" (defArgs sWlen) (defBody sWlen) (defScope sWlen) .none kVWlen dcWlen pmWlen anWlen cdWlen ctWlen), slWlen⟩)
    (cWlen : PySem.W.codeIn K cdWlen "with_length" = true)
    (kWlen : PySem.W.keepIn K (.ref fWlen) = true)
    (nTInit : PySem.W.findIn K (.ref CT) "__init__" = some (some (.ref fTInit)))
    (iTInit : PySem.W.isFn K (.ref fTInit) = true)
    (lTInit : K.lookup fTInit = some ⟨ocTInit, odTInit, .func (PySem.W.fnOf "__init__" "Table.__init__" (defArgs sTInit) (defBody sTInit) (defScope sTInit) .none kVTInit dcTInit pmTInit anTInit cdTInit ctTInit), slTInit⟩)
    (cTInit : PySem.W.codeIn K cdTInit "Table.__init__" = true)
    (kTInit : PySem.W.keepIn K (.ref fTInit) = true)
    (nBegin : PySem.W.findIn K (.ref CT) "begin" = some (some (.ref fBegin)))
    (iBegin : PySem.W.isFn K (.ref fBegin) = true)
    (lBegin : K.lookup fBegin = some ⟨ocBegin, odBegin, .func (PySem.W.fnOf "begin" "Table.begin" (defArgs sBegin) (defBody sBegin) (defScope sBegin) .none kVBegin dcBegin pmBegin anBegin cdBegin ctBegin), slBegin⟩)
    (cBegin : PySem.W.codeIn K cdBegin "Table.begin" = true)
    (kBegin : PySem.W.keepIn K (.ref fBegin) = true)
    (nAdd : PySem.W.findIn K (.ref CT) "add" = some (some (.ref fAdd)))
    (iAdd : PySem.W.isFn K (.ref fAdd) = true)
    (lAdd : K.lookup fAdd = some ⟨ocAdd, odAdd, .func (PySem.W.fnOf "add" "Table.add" (defArgs sAdd) (defBody sAdd) (defScope sAdd) .none kVAdd dcAdd pmAdd anAdd cdAdd ctAdd), slAdd⟩)
    (cAdd : PySem.W.codeIn K cdAdd "Table.add" = true)
    (kAdd : PySem.W.keepIn K (.ref fAdd) = true)
    (nDrop : PySem.W.findIn K (.ref CT) "drop" = some (some (.ref fDrop)))
    (iDrop : PySem.W.isFn K (.ref fDrop) = true)
    (lDrop : K.lookup fDrop = some ⟨ocDrop, odDrop, .func (PySem.W.fnOf "drop" "Table.drop" (defArgs sDrop) (defBody sDrop) (defScope sDrop) .none kVDrop dcDrop pmDrop anDrop cdDrop ctDrop), slDrop⟩)
    (cDrop : PySem.W.codeIn K cdDrop "Table.drop" = true)
    (kDrop : PySem.W.keepIn K (.ref fDrop) = true)
    (nCount : PySem.W.findIn K (.ref CT) "count" = some (some (.ref fCount)))
    (iCount : PySem.W.isFn K (.ref fCount) = true)
    (lCount : K.lookup fCount = some ⟨ocCount, odCount, .func (PySem.W.fnOf "count" "Table.count" (defArgs sCount) (defBody sCount) (defScope sCount) .none kVCount dcCount pmCount anCount cdCount ctCount), slCount⟩)
    (cCount : PySem.W.codeIn K cdCount "Table.count" = true)
    (kCount : PySem.W.keepIn K (.ref fCount) = true)
    (nCut : PySem.W.findIn K (.ref CT) "cut" = some (some (.ref fCut)))
    (iCut : PySem.W.isFn K (.ref fCut) = true)
    (lCut : K.lookup fCut = some ⟨ocCut, odCut, .func (PySem.W.fnOf "cut" "Table.cut" (defArgs sCut) (defBody sCut) (defScope sCut) .none kVCut dcCut pmCut anCut cdCut ctCut), slCut⟩)
    (cCut : PySem.W.codeIn K cdCut "Table.cut" = true)
    (kCut : PySem.W.keepIn K (.ref fCut) = true)
    (nComp : PySem.W.findIn K (.ref CT) "compare" = some (some (.ref fComp)))
    (iComp : PySem.W.isFn K (.ref fComp) = true)
    (lComp : K.lookup fComp = some ⟨ocComp, odComp, .func (PySem.W.fnOf "compare" "Table.compare" (defArgs sComp) (defBody sComp) (defScope sComp) .none kVComp dcComp pmComp anComp cdComp ctComp), slComp⟩)
    (cComp : PySem.W.codeIn K cdComp "Table.compare" = true)
    (kComp : PySem.W.keepIn K (.ref fComp) = true)
    (nFind : PySem.W.findIn K (.ref CT) "find" = some (some (.ref fFind)))
    (iFind : PySem.W.isFn K (.ref fFind) = true)
    (lFind : K.lookup fFind = some ⟨ocFind, odFind, .func (PySem.W.fnOf "find" "Table.find" (defArgs sFind) (defBody sFind) (defScope sFind) .none kVFind dcFind pmFind anFind cdFind ctFind), slFind⟩)
    (cFind : PySem.W.codeIn K cdFind "Table.find" = true)
    (kFind : PySem.W.keepIn K (.ref fFind) = true)
    (nKey : PySem.W.findIn K (.ref CT) "key" = some (some (.ref fKey)))
    (iKey : PySem.W.isFn K (.ref fKey) = true)
    (lKey : K.lookup fKey = some ⟨ocKey, odKey, .func (PySem.W.fnOf "key" "Table.key" (defArgs sKey) (defBody sKey) (defScope sKey) .none kVKey dcKey pmKey anKey cdKey ctKey), slKey⟩)
    (cKey : PySem.W.codeIn K cdKey "Table.key" = true)
    (kKey : PySem.W.keepIn K (.ref fKey) = true)
    (nLow : PySem.W.findIn K (.ref CT) "low" = some (some (.ref fLow)))
    (iLow : PySem.W.isFn K (.ref fLow) = true)
    (lLow : K.lookup fLow = some ⟨ocLow, odLow, .func (PySem.W.fnOf "low" "Table.low" (defArgs sLow) (defBody sLow) (defScope sLow) .none kVLow dcLow pmLow anLow cdLow ctLow), slLow⟩)
    (cLow : PySem.W.codeIn K cdLow "Table.low" = true)
    (kLow : PySem.W.keepIn K (.ref fLow) = true)
    (nHigh : PySem.W.findIn K (.ref CT) "high" = some (some (.ref fHigh)))
    (iHigh : PySem.W.isFn K (.ref fHigh) = true)
    (lHigh : K.lookup fHigh = some ⟨ocHigh, odHigh, .func (PySem.W.fnOf "high" "Table.high" (defArgs sHigh) (defBody sHigh) (defScope sHigh) .none kVHigh dcHigh pmHigh anHigh cdHigh ctHigh), slHigh⟩)
    (cHigh : PySem.W.codeIn K cdHigh "Table.high" = true)
    (kHigh : PySem.W.keepIn K (.ref fHigh) = true)
    (nBehind : PySem.W.findIn K (.ref CT) "place_behind" = some (some (.ref fBehind)))
    (iBehind : PySem.W.isFn K (.ref fBehind) = true)
    (lBehind : K.lookup fBehind = some ⟨ocBehind, odBehind, .func (PySem.W.fnOf "place_behind" "Table.place_behind" (defArgs sBehind) (defBody sBehind) (defScope sBehind) .none kVBehind dcBehind pmBehind anBehind cdBehind ctBehind), slBehind⟩)
    (cBehind : PySem.W.codeIn K cdBehind "Table.place_behind" = true)
    (kBehind : PySem.W.keepIn K (.ref fBehind) = true)
    (nWat : PySem.W.findIn K (.ref CT) "weights_at" = some (some (.ref fWat)))
    (iWat : PySem.W.isFn K (.ref fWat) = true)
    (lWat : K.lookup fWat = some ⟨ocWat, odWat, .func (PySem.W.fnOf "weights_at" "Table.weights_at" (defArgs sWat) (defBody sWat) (defScope sWat) .none kVWat dcWat pmWat anWat cdWat ctWat), slWat⟩)
    (cWat : PySem.W.codeIn K cdWat "Table.weights_at" = true)
    (kWat : PySem.W.keepIn K (.ref fWat) = true)
    (nJof : PySem.W.findIn K (.ref CT) "joints_of" = some (some (.ref fJof)))
    (iJof : PySem.W.isFn K (.ref fJof) = true)
    (lJof : K.lookup fJof = some ⟨ocJof, odJof, .func (PySem.W.fnOf "joints_of" "Table.joints_of" (defArgs sJof) (defBody sJof) (defScope sJof) .none kVJof dcJof pmJof anJof cdJof ctJof), slJof⟩)
    (cJof : PySem.W.codeIn K cdJof "Table.joints_of" = true)
    (kJof : PySem.W.keepIn K (.ref fJof) = true)
    (nWof : PySem.W.findIn K (.ref CT) "weights_of" = some (some (.ref fWof)))
    (iWof : PySem.W.isFn K (.ref fWof) = true)
    (lWof : K.lookup fWof = some ⟨ocWof, odWof, .func (PySem.W.fnOf "weights_of" "Table.weights_of" (defArgs sWof) (defBody sWof) (defScope sWof) .none kVWof dcWof pmWof anWof cdWof ctWof), slWof⟩)
    (cWof : PySem.W.codeIn K cdWof "Table.weights_of" = true)
    (kWof : PySem.W.keepIn K (.ref fWof) = true)
    (nLof : PySem.W.findIn K (.ref CT) "levels_of" = some (some (.ref fLof)))
    (iLof : PySem.W.isFn K (.ref fLof) = true)
    (lLof : K.lookup fLof = some ⟨ocLof, odLof, .func (PySem.W.fnOf "levels_of" "Table.levels_of" (defArgs sLof) (defBody sLof) (defScope sLof) .none kVLof dcLof pmLof anLof cdLof ctLof), slLof⟩)
    (cLof : PySem.W.codeIn K cdLof "Table.levels_of" = true)
    (kLof : PySem.W.keepIn K (.ref fLof) = true)
    (nLbef : PySem.W.findIn K (.ref CT) "levels_before" = some (some (.ref fLbef)))
    (iLbef : PySem.W.isFn K (.ref fLbef) = true)
    (lLbef : K.lookup fLbef = some ⟨ocLbef, odLbef, .func (PySem.W.fnOf "levels_before" "Table.levels_before" (defArgs sLbef) (defBody sLbef) (defScope sLbef) .none kVLbef dcLbef pmLbef anLbef cdLbef ctLbef), slLbef⟩)
    (cLbef : PySem.W.codeIn K cdLbef "Table.levels_before" = true)
    (kLbef : PySem.W.keepIn K (.ref fLbef) = true)
    (nFirst : PySem.W.findIn K (.ref CT) "first_match" = some (some (.ref fFirst)))
    (iFirst : PySem.W.isFn K (.ref fFirst) = true)
    (lFirst : K.lookup fFirst = some ⟨ocFirst, odFirst, .func (PySem.W.fnOf "first_match" "Table.first_match" (defArgs sFirst) (defBody sFirst) (defScope sFirst) .none kVFirst dcFirst pmFirst anFirst cdFirst ctFirst), slFirst⟩)
    (cFirst : PySem.W.codeIn K cdFirst "Table.first_match" = true)
    (kFirst : PySem.W.keepIn K (.ref fFirst) = true)
    (nRInit : PySem.W.findIn K (.ref CR) "__init__" = some (some (.ref fRInit)))
    (iRInit : PySem.W.isFn K (.ref fRInit) = true)
    (lRInit : K.lookup fRInit = some ⟨ocRInit, odRInit, .func (PySem.W.fnOf "__init__" "Reader.__init__" (defArgs sRInit) (defBody sRInit) (defScope sRInit) .none kVRInit dcRInit pmRInit anRInit cdRInit ctRInit), slRInit⟩)
    (cRInit : PySem.W.codeIn K cdRInit "Reader.__init__" = true)
    (kRInit : PySem.W.keepIn K (.ref fRInit) = true)
    (nMore : PySem.W.findIn K (.ref CR) "has_more" = some (some (.ref fMore)))
    (iMore : PySem.W.isFn K (.ref fMore) = true)
    (lMore : K.lookup fMore = some ⟨ocMore, odMore, .func (PySem.W.fnOf "has_more" "Reader.has_more" (defArgs sMore) (defBody sMore) (defScope sMore) .none kVMore dcMore pmMore anMore cdMore ctMore), slMore⟩)
    (cMore : PySem.W.codeIn K cdMore "Reader.has_more" = true)
    (kMore : PySem.W.keepIn K (.ref fMore) = true)
    (nNum : PySem.W.findIn K (.ref CR) "take_number" = some (some (.ref fNum)))
    (iNum : PySem.W.isFn K (.ref fNum) = true)
    (lNum : K.lookup fNum = some ⟨ocNum, odNum, .func (PySem.W.fnOf "take_number" "Reader.take_number" (defArgs sNum) (defBody sNum) (defScope sNum) .none kVNum dcNum pmNum anNum cdNum ctNum), slNum⟩)
    (cNum : PySem.W.codeIn K cdNum "Reader.take_number" = true)
    (kNum : PySem.W.keepIn K (.ref fNum) = true)
    (nRow : PySem.W.findIn K (.ref CR) "take_row" = some (some (.ref fRow)))
    (iRow : PySem.W.isFn K (.ref fRow) = true)
    (lRow : K.lookup fRow = some ⟨ocRow, odRow, .func (PySem.W.fnOf "take_row" "Reader.take_row" (defArgs sRow) (defBody sRow) (defScope sRow) .none kVRow dcRow pmRow anRow cdRow ctRow), slRow⟩)
    (cRow : PySem.W.codeIn K cdRow "Reader.take_row" = true)
    (kRow : PySem.W.keepIn K (.ref fRow) = true)
    (nAnsA : PySem.W.nsIn K mainGlobals "answer_add" = some (some (.ref fAnsA)))
    (lAnsA : K.lookup fAnsA = some ⟨ocAnsA, odAnsA, .func (PySem.W.fnOf "answer_add" "answer_add" (defArgs sAnsA) (defBody sAnsA) (defScope sAnsA) .none kVAnsA dcAnsA pmAnsA anAnsA cdAnsA ctAnsA), slAnsA⟩)
    (cAnsA : PySem.W.codeIn K cdAnsA "answer_add" = true)
    (kAnsA : PySem.W.keepIn K (.ref fAnsA) = true)
    (nAnsC : PySem.W.nsIn K mainGlobals "answer_cut" = some (some (.ref fAnsC)))
    (lAnsC : K.lookup fAnsC = some ⟨ocAnsC, odAnsC, .func (PySem.W.fnOf "answer_cut" "answer_cut" (defArgs sAnsC) (defBody sAnsC) (defScope sAnsC) .none kVAnsC dcAnsC pmAnsC anAnsC cdAnsC ctAnsC), slAnsC⟩)
    (cAnsC : PySem.W.codeIn K cdAnsC "answer_cut" = true)
    (kAnsC : PySem.W.keepIn K (.ref fAnsC) = true)
    (nAnsM : PySem.W.nsIn K mainGlobals "answer_compare" = some (some (.ref fAnsM)))
    (lAnsM : K.lookup fAnsM = some ⟨ocAnsM, odAnsM, .func (PySem.W.fnOf "answer_compare" "answer_compare" (defArgs sAnsM) (defBody sAnsM) (defScope sAnsM) .none kVAnsM dcAnsM pmAnsM anAnsM cdAnsM ctAnsM), slAnsM⟩)
    (cAnsM : PySem.W.codeIn K cdAnsM "answer_compare" = true)
    (kAnsM : PySem.W.keepIn K (.ref fAnsM) = true)
    (nAnsF : PySem.W.nsIn K mainGlobals "answer_find" = some (some (.ref fAnsF)))
    (lAnsF : K.lookup fAnsF = some ⟨ocAnsF, odAnsF, .func (PySem.W.fnOf "answer_find" "answer_find" (defArgs sAnsF) (defBody sAnsF) (defScope sAnsF) .none kVAnsF dcAnsF pmAnsF anAnsF cdAnsF ctAnsF), slAnsF⟩)
    (cAnsF : PySem.W.codeIn K cdAnsF "answer_find" = true)
    (kAnsF : PySem.W.keepIn K (.ref fAnsF) = true)
    (nAnswer : PySem.W.nsIn K mainGlobals "answer" = some (some (.ref fAnswer)))
    (lAnswer : K.lookup fAnswer = some ⟨ocAnswer, odAnswer, .func (PySem.W.fnOf "answer" "answer" (defArgs sAnswer) (defBody sAnswer) (defScope sAnswer) .none kVAnswer dcAnswer pmAnswer anAnswer cdAnswer ctAnswer), slAnswer⟩)
    (cAnswer : PySem.W.codeIn K cdAnswer "answer" = true)
    (kAnswer : PySem.W.keepIn K (.ref fAnswer) = true)
    (nAnswers : PySem.W.nsIn K mainGlobals "answers" = some (some (.ref fAnswers)))
    (lAnswers : K.lookup fAnswers = some ⟨ocAnswers, odAnswers, .func (PySem.W.fnOf "answers" "answers" (defArgs sAnswers) (defBody sAnswers) (defScope sAnswers) .none kVAnswers dcAnswers pmAnswers anAnswers cdAnswers ctAnswers), slAnswers⟩)
    (cAnswers : PySem.W.codeIn K cdAnswers "answers" = true)
    (kAnswers : PySem.W.keepIn K (.ref fAnswers) = true)
    (pgT : PySem.W.plainGet K CT Str.empty = true)
    (hdT : PySem.W.hasDictIn K CT = true)
    (poT : PySem.W.plainOver K CT = true)
    (saT : PySem.W.findIn K (.ref CT) "__setattr__" = some (some (.builtin "object.__setattr__")))
    (mkT : PySem.W.makesIn K CT = true)
    (kcT : PySem.W.keepIn K (.ref CT) = true)
    (nOpt : PySem.W.findIn K (.ref CT) "options" = some none)
    (nEnt : PySem.W.findIn K (.ref CT) "entries" = some none)
    (pgR : PySem.W.plainGet K CR Str.empty = true)
    (hdR : PySem.W.hasDictIn K CR = true)
    (poR : PySem.W.plainOver K CR = true)
    (saR : PySem.W.findIn K (.ref CR) "__setattr__" = some (some (.builtin "object.__setattr__")))
    (mkR : PySem.W.makesIn K CR = true)
    (kcR : PySem.W.keepIn K (.ref CR) = true)
    (nCalls : PySem.W.findIn K (.ref CR) "calls" = some none)
    (nPlace : PySem.W.findIn K (.ref CR) "place" = some none)
    (blen : PySem.W.nsIn K mainGlobals "len" = some none)
    (ball : PySem.W.nsIn K mainGlobals "all" = some none)
    (brange : PySem.W.nsIn K mainGlobals "range" = some none)
    (bmin : PySem.W.nsIn K mainGlobals "min" = some none)
    (btuple : PySem.W.nsIn K mainGlobals "tuple" = some none)
    (blist : PySem.W.nsIn K mainGlobals "list" = some none)
    (breversed : PySem.W.nsIn K mainGlobals "reversed" = some none)
    (gF1 : PySem.W.nsIn K mainGlobals "FIRST" = some (some (.int (0) tgF1)))
    (gF2 : PySem.W.nsIn K mainGlobals "SECOND" = some (some (.int (1) tgF2)))
    (gF3 : PySem.W.nsIn K mainGlobals "THIRD" = some (some (.int (2) tgF3)))
    (gFE : PySem.W.nsIn K mainGlobals "FROM_THE_END" = some (some (.int (1) tgFE)))
    (gEQ : PySem.W.nsIn K mainGlobals "EQUAL" = some (some (.int (0) tgEQ)))
    (gBE : PySem.W.nsIn K mainGlobals "BEFORE" = some (some (.int (1) tgBE)))
    (gBH : PySem.W.nsIn K mainGlobals "BEHIND" = some (some (.int (2) tgBH)))
    (gGO : PySem.W.nsIn K mainGlobals "GREATEST_OPTIONS" = some (some (.int (1) tgGO)))
    (gLS : PySem.W.nsIn K mainGlobals "LONGEST_SEQUENCE" = some (some (.int (8) tgLS)))
    (gWE : PySem.W.nsIn K mainGlobals "WEIGHTS_EACH" = some (some (.int (3) tgWE)))
    (gMW : PySem.W.nsIn K mainGlobals "MOST_WEIGHTS" = some (some (.int (12) tgMW)))
    (gGW : PySem.W.nsIn K mainGlobals "GREATEST_WEIGHT" = some (some (.int (65535) tgGW)))
    (gME : PySem.W.nsIn K mainGlobals "MOST_ENTRIES" = some (some (.int (64) tgME)))
    (gLT : PySem.W.nsIn K mainGlobals "LONGEST_TEXT" = some (some (.int (64) tgLT)))
    (gGS : PySem.W.nsIn K mainGlobals "GREATEST_STRENGTH" = some (some (.int (3) tgGS)))
    (gUL : PySem.W.nsIn K mainGlobals "UNLISTED" = some (some (.int (65536) tgUL)))
    (gUN : PySem.W.nsIn K mainGlobals "UNFIT" = some (some (.int (-1) tgUN)))
    (gTL : PySem.W.nsIn K mainGlobals "TOO_LONG" = some (some (.int (-2) tgTL)))
    (gTA : PySem.W.nsIn K mainGlobals "THERE_ALREADY" = some (some (.int (-3) tgTA)))
    (gFU : PySem.W.nsIn K mainGlobals "FULL" = some (some (.int (-4) tgFU)))
    (gB : PySem.W.nsIn K mainGlobals "BEGIN" = some (some (.int (0) tgB)))
    (gA : PySem.W.nsIn K mainGlobals "ADD" = some (some (.int (1) tgA)))
    (gD : PySem.W.nsIn K mainGlobals "DROP" = some (some (.int (2) tgD)))
    (gC : PySem.W.nsIn K mainGlobals "COUNT" = some (some (.int (3) tgC)))
    (gU : PySem.W.nsIn K mainGlobals "CUT" = some (some (.int (4) tgU)))
    (gCO : PySem.W.nsIn K mainGlobals "COMPARE" = some (some (.int (5) tgCO)))
    (gFI : PySem.W.nsIn K mainGlobals "FIND" = some (some (.int (6) tgFI)))
    (gK : PySem.W.nsIn K mainGlobals "KEY" = some (some (.int (7) tgK)))
    (gL : PySem.W.nsIn K mainGlobals "LOW" = some (some (.int (8) tgL)))
    (gH : PySem.W.nsIn K mainGlobals "HIGH" = some (some (.int (9) tgH))) :
    ∃ fd : FuncData, (∀ (s : Shared) (us : List Value), us.length = (["calls"] : List Str).length → BindsTo s fd ⟨us, []⟩ ((["calls"] : List Str).zip us)) ∧ ∀ base : Heap, K.In base → base.Ns mainGlobals mg → FnOk P w K mg base CX0 8 fa fd ["calls"] (spAnswers K) := by
  have e := hfa.symm.trans (PySem.W.mg_of X G nAnswers)
  cases e
  let D : Adr := ⟨CT, CR, fLev, (PySem.W.fnOf "level" "level" (defArgs sLev) (defBody sLev) (defScope sLev) .none kVLev dcLev pmLev anLev cdLev ctLev), fStand, (PySem.W.fnOf "levels_as_they_stand" "levels_as_they_stand" (defArgs sStand) (defBody sStand) (defScope sStand) .none kVStand dcStand pmStand anStand cdStand ctStand), fOpts, (PySem.W.fnOf "levels_by_options" "levels_by_options" (defArgs sOpts) (defBody sOpts) (defScope sOpts) .none kVOpts dcOpts pmOpts anOpts cdOpts ctOpts), fOrd, (PySem.W.fnOf "order" "order" (defArgs sOrd) (defBody sOrd) (defScope sOrd) .none kVOrd dcOrd pmOrd anOrd cdOrd ctOrd), fBetw, (PySem.W.fnOf "are_between" "are_between" (defArgs sBetw) (defBody sBetw) (defScope sBetw) .none kVBetw dcBetw pmBetw anBetw cdBetw ctBetw), fInb, (PySem.W.fnOf "in_bytes" "in_bytes" (defArgs sInb) (defBody sInb) (defScope sInb) .none kVInb dcInb pmInb anInb cdInb ctInb), fKeyOf, (PySem.W.fnOf "key_of" "key_of" (defArgs sKeyOf) (defBody sKeyOf) (defScope sKeyOf) .none kVKeyOf dcKeyOf pmKeyOf anKeyOf cdKeyOf ctKeyOf), fLowOf, (PySem.W.fnOf "low_of" "low_of" (defArgs sLowOf) (defBody sLowOf) (defScope sLowOf) .none kVLowOf dcLowOf pmLowOf anLowOf cdLowOf ctLowOf), fHighOf, (PySem.W.fnOf "high_of" "high_of" (defArgs sHighOf) (defBody sHighOf) (defScope sHighOf) .none kVHighOf dcHighOf pmHighOf anHighOf cdHighOf ctHighOf), fWts, (PySem.W.fnOf "are_weights" "are_weights" (defArgs sWts) (defBody sWts) (defScope sWts) .none kVWts dcWts pmWts anWts cdWts ctWts), fIsq, (PySem.W.fnOf "is_sequence" "is_sequence" (defArgs sIsq) (defBody sIsq) (defScope sIsq) .none kVIsq dcIsq pmIsq anIsq cdIsq ctIsq), fThr, (PySem.W.fnOf "in_threes" "in_threes" (defArgs sThr) (defBody sThr) (defScope sThr) .none kVThr dcThr pmThr anThr cdThr ctThr), fStr, (PySem.W.fnOf "is_strength" "is_strength" (defArgs sStr) (defBody sStr) (defScope sStr) .none kVStr dcStr pmStr anStr cdStr ctStr), fLong, (PySem.W.fnOf "is_too_long" "is_too_long" (defArgs sLong) (defBody sLong) (defScope sLong) .none kVLong dcLong pmLong anLong cdLong ctLong), fWlen, (PySem.W.fnOf "with_length" "with_length" (defArgs sWlen) (defBody sWlen) (defScope sWlen) .none kVWlen dcWlen pmWlen anWlen cdWlen ctWlen), fTInit, (PySem.W.fnOf "__init__" "Table.__init__" (defArgs sTInit) (defBody sTInit) (defScope sTInit) .none kVTInit dcTInit pmTInit anTInit cdTInit ctTInit), fBegin, (PySem.W.fnOf "begin" "Table.begin" (defArgs sBegin) (defBody sBegin) (defScope sBegin) .none kVBegin dcBegin pmBegin anBegin cdBegin ctBegin), fAdd, (PySem.W.fnOf "add" "Table.add" (defArgs sAdd) (defBody sAdd) (defScope sAdd) .none kVAdd dcAdd pmAdd anAdd cdAdd ctAdd), fDrop, (PySem.W.fnOf "drop" "Table.drop" (defArgs sDrop) (defBody sDrop) (defScope sDrop) .none kVDrop dcDrop pmDrop anDrop cdDrop ctDrop), fCount, (PySem.W.fnOf "count" "Table.count" (defArgs sCount) (defBody sCount) (defScope sCount) .none kVCount dcCount pmCount anCount cdCount ctCount), fCut, (PySem.W.fnOf "cut" "Table.cut" (defArgs sCut) (defBody sCut) (defScope sCut) .none kVCut dcCut pmCut anCut cdCut ctCut), fComp, (PySem.W.fnOf "compare" "Table.compare" (defArgs sComp) (defBody sComp) (defScope sComp) .none kVComp dcComp pmComp anComp cdComp ctComp), fFind, (PySem.W.fnOf "find" "Table.find" (defArgs sFind) (defBody sFind) (defScope sFind) .none kVFind dcFind pmFind anFind cdFind ctFind), fKey, (PySem.W.fnOf "key" "Table.key" (defArgs sKey) (defBody sKey) (defScope sKey) .none kVKey dcKey pmKey anKey cdKey ctKey), fLow, (PySem.W.fnOf "low" "Table.low" (defArgs sLow) (defBody sLow) (defScope sLow) .none kVLow dcLow pmLow anLow cdLow ctLow), fHigh, (PySem.W.fnOf "high" "Table.high" (defArgs sHigh) (defBody sHigh) (defScope sHigh) .none kVHigh dcHigh pmHigh anHigh cdHigh ctHigh), fBehind, (PySem.W.fnOf "place_behind" "Table.place_behind" (defArgs sBehind) (defBody sBehind) (defScope sBehind) .none kVBehind dcBehind pmBehind anBehind cdBehind ctBehind), fWat, (PySem.W.fnOf "weights_at" "Table.weights_at" (defArgs sWat) (defBody sWat) (defScope sWat) .none kVWat dcWat pmWat anWat cdWat ctWat), fJof, (PySem.W.fnOf "joints_of" "Table.joints_of" (defArgs sJof) (defBody sJof) (defScope sJof) .none kVJof dcJof pmJof anJof cdJof ctJof), fWof, (PySem.W.fnOf "weights_of" "Table.weights_of" (defArgs sWof) (defBody sWof) (defScope sWof) .none kVWof dcWof pmWof anWof cdWof ctWof), fLof, (PySem.W.fnOf "levels_of" "Table.levels_of" (defArgs sLof) (defBody sLof) (defScope sLof) .none kVLof dcLof pmLof anLof cdLof ctLof), fLbef, (PySem.W.fnOf "levels_before" "Table.levels_before" (defArgs sLbef) (defBody sLbef) (defScope sLbef) .none kVLbef dcLbef pmLbef anLbef cdLbef ctLbef), fFirst, (PySem.W.fnOf "first_match" "Table.first_match" (defArgs sFirst) (defBody sFirst) (defScope sFirst) .none kVFirst dcFirst pmFirst anFirst cdFirst ctFirst), fRInit, (PySem.W.fnOf "__init__" "Reader.__init__" (defArgs sRInit) (defBody sRInit) (defScope sRInit) .none kVRInit dcRInit pmRInit anRInit cdRInit ctRInit), fMore, (PySem.W.fnOf "has_more" "Reader.has_more" (defArgs sMore) (defBody sMore) (defScope sMore) .none kVMore dcMore pmMore anMore cdMore ctMore), fNum, (PySem.W.fnOf "take_number" "Reader.take_number" (defArgs sNum) (defBody sNum) (defScope sNum) .none kVNum dcNum pmNum anNum cdNum ctNum), fRow, (PySem.W.fnOf "take_row" "Reader.take_row" (defArgs sRow) (defBody sRow) (defScope sRow) .none kVRow dcRow pmRow anRow cdRow ctRow), fAnsA, (PySem.W.fnOf "answer_add" "answer_add" (defArgs sAnsA) (defBody sAnsA) (defScope sAnsA) .none kVAnsA dcAnsA pmAnsA anAnsA cdAnsA ctAnsA), fAnsC, (PySem.W.fnOf "answer_cut" "answer_cut" (defArgs sAnsC) (defBody sAnsC) (defScope sAnsC) .none kVAnsC dcAnsC pmAnsC anAnsC cdAnsC ctAnsC), fAnsM, (PySem.W.fnOf "answer_compare" "answer_compare" (defArgs sAnsM) (defBody sAnsM) (defScope sAnsM) .none kVAnsM dcAnsM pmAnsM anAnsM cdAnsM ctAnsM), fAnsF, (PySem.W.fnOf "answer_find" "answer_find" (defArgs sAnsF) (defBody sAnsF) (defScope sAnsF) .none kVAnsF dcAnsF pmAnsF anAnsF cdAnsF ctAnsF), fAnswer, (PySem.W.fnOf "answer" "answer" (defArgs sAnswer) (defBody sAnswer) (defScope sAnswer) .none kVAnswer dcAnswer pmAnswer anAnswer cdAnswer ctAnswer), fa, (PySem.W.fnOf "answers" "answers" (defArgs sAnswers) (defBody sAnswers) (defScope sAnswers) .none kVAnswers dcAnswers pmAnswers anAnswers cdAnswers ctAnswers)⟩
  have T : Txt K mg D := ⟨⟨pgT, hdT, poT, saT⟩, ⟨pgR, hdR, poR, saR⟩, nOpt, nEnt, nCalls, nPlace, PySem.W.mg_of X G aT, PySem.W.mg_of X G aR, PySem.W.mg_none_of X G blen, PySem.W.mg_none_of X G ball, PySem.W.mg_none_of X G brange, PySem.W.mg_none_of X G bmin, PySem.W.mg_none_of X G btuple, PySem.W.mg_none_of X G blist, PySem.W.mg_none_of X G breversed, ⟨_, PySem.W.mg_of X G gF1⟩, ⟨_, PySem.W.mg_of X G gF2⟩, ⟨_, PySem.W.mg_of X G gF3⟩, ⟨_, PySem.W.mg_of X G gFE⟩, ⟨_, PySem.W.mg_of X G gEQ⟩, ⟨_, PySem.W.mg_of X G gBE⟩, ⟨_, PySem.W.mg_of X G gBH⟩, ⟨_, PySem.W.mg_of X G gGO⟩, ⟨_, PySem.W.mg_of X G gLS⟩, ⟨_, PySem.W.mg_of X G gWE⟩, ⟨_, PySem.W.mg_of X G gMW⟩, ⟨_, PySem.W.mg_of X G gGW⟩, ⟨_, PySem.W.mg_of X G gME⟩, ⟨_, PySem.W.mg_of X G gLT⟩, ⟨_, PySem.W.mg_of X G gGS⟩, ⟨_, PySem.W.mg_of X G gUL⟩, ⟨_, PySem.W.mg_of X G gUN⟩, ⟨_, PySem.W.mg_of X G gTL⟩, ⟨_, PySem.W.mg_of X G gTA⟩, ⟨_, PySem.W.mg_of X G gFU⟩, ⟨_, PySem.W.mg_of X G gB⟩, ⟨_, PySem.W.mg_of X G gA⟩, ⟨_, PySem.W.mg_of X G gD⟩, ⟨_, PySem.W.mg_of X G gC⟩, ⟨_, PySem.W.mg_of X G gU⟩, ⟨_, PySem.W.mg_of X G gCO⟩, ⟨_, PySem.W.mg_of X G gFI⟩, ⟨_, PySem.W.mg_of X G gK⟩, ⟨_, PySem.W.mg_of X G gL⟩, ⟨_, PySem.W.mg_of X G gH⟩, fun_mk (st := sLev) lLev cLev kLev, PySem.W.mg_of X G nLev, fun_mk (st := sStand) lStand cStand kStand, PySem.W.mg_of X G nStand, fun_mk (st := sOpts) lOpts cOpts kOpts, PySem.W.mg_of X G nOpts, fun_mk (st := sOrd) lOrd cOrd kOrd, PySem.W.mg_of X G nOrd, fun_mk (st := sBetw) lBetw cBetw kBetw, PySem.W.mg_of X G nBetw, fun_mk (st := sInb) lInb cInb kInb, PySem.W.mg_of X G nInb, fun_mk (st := sKeyOf) lKeyOf cKeyOf kKeyOf, PySem.W.mg_of X G nKeyOf, fun_mk (st := sLowOf) lLowOf cLowOf kLowOf, PySem.W.mg_of X G nLowOf, fun_mk (st := sHighOf) lHighOf cHighOf kHighOf, PySem.W.mg_of X G nHighOf, fun_mk (st := sWts) lWts cWts kWts, PySem.W.mg_of X G nWts, fun_mk (st := sIsq) lIsq cIsq kIsq, PySem.W.mg_of X G nIsq, fun_mk (st := sThr) lThr cThr kThr, PySem.W.mg_of X G nThr, fun_mk (st := sStr) lStr cStr kStr, PySem.W.mg_of X G nStr, fun_mk (st := sLong) lLong cLong kLong, PySem.W.mg_of X G nLong, fun_mk (st := sWlen) lWlen cWlen kWlen, PySem.W.mg_of X G nWlen, fun_mk (st := sTInit) lTInit cTInit kTInit, ⟨mkT, nTInit, iTInit, kcT⟩, fun_mk (st := sBegin) lBegin cBegin kBegin, ⟨nBegin, iBegin, kBegin⟩, fun_mk (st := sAdd) lAdd cAdd kAdd, ⟨nAdd, iAdd, kAdd⟩, fun_mk (st := sDrop) lDrop cDrop kDrop, ⟨nDrop, iDrop, kDrop⟩, fun_mk (st := sCount) lCount cCount kCount, ⟨nCount, iCount, kCount⟩, fun_mk (st := sCut) lCut cCut kCut, ⟨nCut, iCut, kCut⟩, fun_mk (st := sComp) lComp cComp kComp, ⟨nComp, iComp, kComp⟩, fun_mk (st := sFind) lFind cFind kFind, ⟨nFind, iFind, kFind⟩, fun_mk (st := sKey) lKey cKey kKey, ⟨nKey, iKey, kKey⟩, fun_mk (st := sLow) lLow cLow kLow, ⟨nLow, iLow, kLow⟩, fun_mk (st := sHigh) lHigh cHigh kHigh, ⟨nHigh, iHigh, kHigh⟩, fun_mk (st := sBehind) lBehind cBehind kBehind, ⟨nBehind, iBehind, kBehind⟩, fun_mk (st := sWat) lWat cWat kWat, ⟨nWat, iWat, kWat⟩, fun_mk (st := sJof) lJof cJof kJof, ⟨nJof, iJof, kJof⟩, fun_mk (st := sWof) lWof cWof kWof, ⟨nWof, iWof, kWof⟩, fun_mk (st := sLof) lLof cLof kLof, ⟨nLof, iLof, kLof⟩, fun_mk (st := sLbef) lLbef cLbef kLbef, ⟨nLbef, iLbef, kLbef⟩, fun_mk (st := sFirst) lFirst cFirst kFirst, ⟨nFirst, iFirst, kFirst⟩, fun_mk (st := sRInit) lRInit cRInit kRInit, ⟨mkR, nRInit, iRInit, kcR⟩, fun_mk (st := sMore) lMore cMore kMore, ⟨nMore, iMore, kMore⟩, fun_mk (st := sNum) lNum cNum kNum, ⟨nNum, iNum, kNum⟩, fun_mk (st := sRow) lRow cRow kRow, ⟨nRow, iRow, kRow⟩, fun_mk (st := sAnsA) lAnsA cAnsA kAnsA, PySem.W.mg_of X G nAnsA, fun_mk (st := sAnsC) lAnsC cAnsC kAnsC, PySem.W.mg_of X G nAnsC, fun_mk (st := sAnsM) lAnsM cAnsM kAnsM, PySem.W.mg_of X G nAnsM, fun_mk (st := sAnsF) lAnsF cAnsF kAnsF, PySem.W.mg_of X G nAnsF, fun_mk (st := sAnswer) lAnswer cAnswer kAnswer, PySem.W.mg_of X G nAnswer, fun_mk (st := sAnswers) lAnswers cAnswers kAnswers, PySem.W.mg_of X G nAnswers⟩
  exact ⟨(PySem.W.fnOf "answers" "answers" (defArgs sAnswers) (defBody sAnswers) (defScope sAnswers) .none kVAnswers dcAnswers pmAnswers anAnswers cdAnswers ctAnswers), fun s us hu => match us, hu with | [_], _ => .of_eq rfl, fun base _ _ => ok_answers (D := D) T (ok_answer T)⟩
end Sh
noncomputable def PySem.W.Fast.tw3192644591745708640 : Unit := ()
open PySem PySem.W PyProof.Rows
set_option maxRecDepth 100000 in
set_option maxHeartbeats 0 in
theorem PySem.Challenge.cw_shelfnames_s01_answers_holds : PySem.Challenge.rw_shelfnames_s01_answers.Holds := by
  w_on; k_headS; (case hw => exact ⟨[.list [.int 3]], by decide +kernel, by decide +kernel⟩)
  k_fillS
  refine L2.walk_specK (r := PySem.Challenge.rw_shelfnames_s01_answers) (k := 8) (CX := L2.CX0) (ps := ["calls"]) (sp := Sh.spAnswers) (by decide +kernel) rfl rfl ⟨rfl, by decide, by decide⟩ (fun w h Y => PySem.W.kIn_of Y) ?F ?S (fun _ _ _ _ z => z)
  case F =>
    intro w mg fa h Y KX G hmg
    refine' Sh.all_mk KX G hmg ?aT ?aR ?nLev ?lLev ?cLev ?kLev ?nStand ?lStand ?cStand ?kStand ?nOpts ?lOpts ?cOpts ?kOpts ?nOrd ?lOrd ?cOrd ?kOrd ?nBetw ?lBetw ?cBetw ?kBetw ?nInb ?lInb ?cInb ?kInb ?nKeyOf ?lKeyOf ?cKeyOf ?kKeyOf ?nLowOf ?lLowOf ?cLowOf ?kLowOf ?nHighOf ?lHighOf ?cHighOf ?kHighOf ?nWts ?lWts ?cWts ?kWts ?nIsq ?lIsq ?cIsq ?kIsq ?nThr ?lThr ?cThr ?kThr ?nStr ?lStr ?cStr ?kStr ?nLong ?lLong ?cLong ?kLong ?nWlen ?lWlen ?cWlen ?kWlen ?nTInit ?iTInit ?lTInit ?cTInit ?kTInit ?nBegin ?iBegin ?lBegin ?cBegin ?kBegin ?nAdd ?iAdd ?lAdd ?cAdd ?kAdd ?nDrop ?iDrop ?lDrop ?cDrop ?kDrop ?nCount ?iCount ?lCount ?cCount ?kCount ?nCut ?iCut ?lCut ?cCut ?kCut ?nComp ?iComp ?lComp ?cComp ?kComp ?nFind ?iFind ?lFind ?cFind ?kFind ?nKey ?iKey ?lKey ?cKey ?kKey ?nLow ?iLow ?lLow ?cLow ?kLow ?nHigh ?iHigh ?lHigh ?cHigh ?kHigh ?nBehind ?iBehind ?lBehind ?cBehind ?kBehind ?nWat ?iWat ?lWat ?cWat ?kWat ?nJof ?iJof ?lJof ?cJof ?kJof ?nWof ?iWof ?lWof ?cWof ?kWof ?nLof ?iLof ?lLof ?cLof ?kLof ?nLbef ?iLbef ?lLbef ?cLbef ?kLbef ?nFirst ?iFirst ?lFirst ?cFirst ?kFirst ?nRInit ?iRInit ?lRInit ?cRInit ?kRInit ?nMore ?iMore ?lMore ?cMore ?kMore ?nNum ?iNum ?lNum ?cNum ?kNum ?nRow ?iRow ?lRow ?cRow ?kRow ?nAnsA ?lAnsA ?cAnsA ?kAnsA ?nAnsC ?lAnsC ?cAnsC ?kAnsC ?nAnsM ?lAnsM ?cAnsM ?kAnsM ?nAnsF ?lAnsF ?cAnsF ?kAnsF ?nAnswer ?lAnswer ?cAnswer ?kAnswer ?nAnswers ?lAnswers ?cAnswers ?kAnswers ?pgT ?hdT ?poT ?saT ?mkT ?kcT ?nOpt ?nEnt ?pgR ?hdR ?poR ?saR ?mkR ?kcR ?nCalls ?nPlace ?blen ?ball ?brange ?bmin ?btuple ?blist ?breversed ?gF1 ?gF2 ?gF3 ?gFE ?gEQ ?gBE ?gBH ?gGO ?gLS ?gWE ?gMW ?gGW ?gME ?gLT ?gGS ?gUL ?gUN ?gTL ?gTA ?gFU ?gB ?gA ?gD ?gC ?gU ?gCO ?gFI ?gK ?gL ?gH
    (case aT => k_is); (case aR => k_is); (case nLev => k_is); (case lLev => k_is); (case cLev => k_is); (case kLev => k_is)
    (case nStand => k_is); (case lStand => k_is); (case cStand => k_is); (case kStand => k_is); (case nOpts => k_is); (case lOpts => k_is)
    (case cOpts => k_is); (case kOpts => k_is); (case nOrd => k_is); (case lOrd => k_is); (case cOrd => k_is); (case kOrd => k_is)
    (case nBetw => k_is); (case lBetw => k_is); (case cBetw => k_is); (case kBetw => k_is); (case nInb => k_is); (case lInb => k_is)
    (case cInb => k_is); (case kInb => k_is); (case nKeyOf => k_is); (case lKeyOf => k_is); (case cKeyOf => k_is); (case kKeyOf => k_is)
    (case nLowOf => k_is); (case lLowOf => k_is); (case cLowOf => k_is); (case kLowOf => k_is); (case nHighOf => k_is); (case lHighOf => k_is)
    (case cHighOf => k_is); (case kHighOf => k_is); (case nWts => k_is); (case lWts => k_is); (case cWts => k_is); (case kWts => k_is)
    (case nIsq => k_is); (case lIsq => k_is); (case cIsq => k_is); (case kIsq => k_is); (case nThr => k_is); (case lThr => k_is)
    (case cThr => k_is); (case kThr => k_is); (case nStr => k_is); (case lStr => k_is); (case cStr => k_is); (case kStr => k_is)
    (case nLong => k_is); (case lLong => k_is); (case cLong => k_is); (case kLong => k_is); (case nWlen => k_is); (case lWlen => k_is)
    (case cWlen => k_is); (case kWlen => k_is); (case nTInit => k_is); (case iTInit => k_is); (case lTInit => k_is); (case cTInit => k_is)
    (case kTInit => k_is); (case nBegin => k_is); (case iBegin => k_is); (case lBegin => k_is); (case cBegin => k_is); (case kBegin => k_is)
    (case nAdd => k_is); (case iAdd => k_is); (case lAdd => k_is); (case cAdd => k_is); (case kAdd => k_is); (case nDrop => k_is)
    (case iDrop => k_is); (case lDrop => k_is); (case cDrop => k_is); (case kDrop => k_is); (case nCount => k_is); (case iCount => k_is)
    (case lCount => k_is); (case cCount => k_is); (case kCount => k_is); (case nCut => k_is); (case iCut => k_is); (case lCut => k_is)
    (case cCut => k_is); (case kCut => k_is); (case nComp => k_is); (case iComp => k_is); (case lComp => k_is); (case cComp => k_is)
    (case kComp => k_is); (case nFind => k_is); (case iFind => k_is); (case lFind => k_is); (case cFind => k_is); (case kFind => k_is)
    (case nKey => k_is); (case iKey => k_is); (case lKey => k_is); (case cKey => k_is); (case kKey => k_is); (case nLow => k_is)
    (case iLow => k_is); (case lLow => k_is); (case cLow => k_is); (case kLow => k_is); (case nHigh => k_is); (case iHigh => k_is)
    (case lHigh => k_is); (case cHigh => k_is); (case kHigh => k_is); (case nBehind => k_is); (case iBehind => k_is); (case lBehind => k_is)
    (case cBehind => k_is); (case kBehind => k_is); (case nWat => k_is); (case iWat => k_is); (case lWat => k_is); (case cWat => k_is)
    (case kWat => k_is); (case nJof => k_is); (case iJof => k_is); (case lJof => k_is); (case cJof => k_is); (case kJof => k_is)
    (case nWof => k_is); (case iWof => k_is); (case lWof => k_is); (case cWof => k_is); (case kWof => k_is); (case nLof => k_is)
    (case iLof => k_is); (case lLof => k_is); (case cLof => k_is); (case kLof => k_is); (case nLbef => k_is); (case iLbef => k_is)
    (case lLbef => k_is); (case cLbef => k_is); (case kLbef => k_is); (case nFirst => k_is); (case iFirst => k_is); (case lFirst => k_is)
    (case cFirst => k_is); (case kFirst => k_is); (case nRInit => k_is); (case iRInit => k_is); (case lRInit => k_is); (case cRInit => k_is)
    (case kRInit => k_is); (case nMore => k_is); (case iMore => k_is); (case lMore => k_is); (case cMore => k_is); (case kMore => k_is)
    (case nNum => k_is); (case iNum => k_is); (case lNum => k_is); (case cNum => k_is); (case kNum => k_is); (case nRow => k_is)
    (case iRow => k_is); (case lRow => k_is); (case cRow => k_is); (case kRow => k_is); (case nAnsA => k_is); (case lAnsA => k_is)
    (case cAnsA => k_is); (case kAnsA => k_is); (case nAnsC => k_is); (case lAnsC => k_is); (case cAnsC => k_is); (case kAnsC => k_is)
    (case nAnsM => k_is); (case lAnsM => k_is); (case cAnsM => k_is); (case kAnsM => k_is); (case nAnsF => k_is); (case lAnsF => k_is)
    (case cAnsF => k_is); (case kAnsF => k_is); (case nAnswer => k_is); (case lAnswer => k_is); (case cAnswer => k_is); (case kAnswer => k_is)
    (case nAnswers => k_is); (case lAnswers => k_is); (case cAnswers => k_is); (case kAnswers => k_is); (case pgT => k_is); (case hdT => k_is)
    (case poT => k_is); (case saT => k_is); (case mkT => k_is); (case kcT => k_is); (case nOpt => k_is); (case nEnt => k_is)
    (case pgR => k_is); (case hdR => k_is); (case poR => k_is); (case saR => k_is); (case mkR => k_is); (case kcR => k_is)
    (case nCalls => k_is); (case nPlace => k_is); (case blen => k_is); (case ball => k_is); (case brange => k_is); (case bmin => k_is)
    (case btuple => k_is); (case blist => k_is); (case breversed => k_is); (case gF1 => k_is); (case gF2 => k_is); (case gF3 => k_is)
    (case gFE => k_is); (case gEQ => k_is); (case gBE => k_is); (case gBH => k_is); (case gGO => k_is); (case gLS => k_is)
    (case gWE => k_is); (case gMW => k_is); (case gGW => k_is); (case gME => k_is); (case gLT => k_is); (case gGS => k_is)
    (case gUL => k_is); (case gUN => k_is); (case gTL => k_is); (case gTA => k_is); (case gFU => k_is); (case gB => k_is)
    (case gA => k_is); (case gD => k_is); (case gC => k_is); (case gU => k_is); (case gCO => k_is); (case gFI => k_is)
    (case gK => k_is); (case gL => k_is); (case gH => k_is)
  case S =>
    intro K H xs a hO hwi hask hx
    cases hx with
    | cons h1 h2 =>
      cases h2
      cases h1 with
      | lst hs ha =>
        have e := L2.ints_dw a.1 _ ha
        subst e
        exact ⟨_, a.1, rfl, hs, hask, fun H' p hp => .lst (L2.SqL.of hp) (L2.dw_ints _)⟩
