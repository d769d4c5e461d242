import PyProof.Rows.All
import Wide.All
import OpenK.AllK
import Wide.FinOn
import PyProof.EqAt
import PyProof.EqKinds
import PyProof.TupleCall
import KE.BitLaws
import Open.SpecLaws
import KE.OsHead
import KE.OsGo
import PySem.Challenge.RW_rootrows_s12_digits
section
set_option Elab.async false
set_option linter.all false
set_option maxRecDepth 100000
namespace L2
open PySem PySem.Spec PyProof.Rows

noncomputable abbrev Key := Sum Int Str
noncomputable def keyIs : Key → Value → Bool
  | .inl k, v => Value.isInt k v
  | .inr x, v => Value.isStrOf x v
noncomputable def keyH (w : World) : Key → Int
  | .inl k => hashInt k
  | .inr x => hashStr w x
theorem keyIs_shape : ∀ {k : Key} {v : Value}, keyIs k v = true → (∃ i t, k = Sum.inl i ∧ v = Value.int i t) ∨ (∃ x t, k = Sum.inr x ∧ v = Value.str x t)
  | .inl i, v, h => by
    obtain ⟨t, e⟩ := Value.isInt_shape (k := i) (v := v) h
    exact .inl ⟨i, t, rfl, e⟩
  | .inr x, v, h => by
    obtain ⟨t, e⟩ := Value.isStrOf_shape (x := x) (v := v) h
    exact .inr ⟨x, t, rfl, e⟩
theorem key_ll (a b : Int) : decide ((Sum.inl a : Key) = Sum.inl b) = (a == b) := by
  by_cases e : a = b
  · subst e; simp
  · have h : ¬ (Sum.inl a : Key) = Sum.inl b := fun q => e (Sum.inl.inj q)
    rw [decide_eq_false h]
    exact (beq_eq_false_iff_ne.mpr e).symm
theorem key_rr (a b : Str) : decide ((Sum.inr a : Key) = Sum.inr b) = decide (a = b) := by
  by_cases e : a = b
  · subst e; simp
  · have h : ¬ (Sum.inr a : Key) = Sum.inr b := fun q => e (Sum.inr.inj q)
    rw [decide_eq_false h, decide_eq_false e]
theorem key_lr (a : Int) (b : Str) : decide ((Sum.inl a : Key) = Sum.inr b) = false := decide_eq_false (fun q => nomatch q)
theorem key_rl (a : Str) (b : Int) : decide ((Sum.inr a : Key) = Sum.inl b) = false := decide_eq_false (fun q => nomatch q)

noncomputable def mixKind (prog : Program) (w : World) : PySem.KeyKind prog w Key where
  is := keyIs
  hash := keyH w
  inj := fun v a b ha hb => by
    rcases keyIs_shape ha with ⟨i, t, rfl, rfl⟩ | ⟨x, t, rfl, rfl⟩
    · rcases keyIs_shape hb with ⟨j, u, rfl, e⟩ | ⟨y, u, rfl, e⟩
      · injection e with e1 _; rw [e1]
      · exact nomatch e
    · rcases keyIs_shape hb with ⟨j, u, rfl, e⟩ | ⟨y, u, rfl, e⟩
      · exact nomatch e
      · injection e with e1 _; rw [e1]
  byValue := fun k v h => by
    rcases keyIs_shape h with ⟨i, t, rfl, rfl⟩ | ⟨x, t, rfl, rfl⟩ <;> rfl
  pyHash := fun hv h => by
    rcases keyIs_shape hv with ⟨i, t, rfl, rfl⟩ | ⟨x, t, rfl, rfl⟩
    · exact wpAny_pyHash_int h
    · exact wpAny_pyHash_str h
  eqBool := fun hu hv h => by
    rcases keyIs_shape hu with ⟨i, t, rfl, rfl⟩ | ⟨x, t, rfl, rfl⟩
    · rcases keyIs_shape hv with ⟨j, u, rfl, rfl⟩ | ⟨y, u, rfl, rfl⟩
      · rw [key_ll] at h; exact wpAny_eqBool_int h
      · rw [key_lr] at h; exact SeqAt.EqAt.int_str i t y u _ _ _ _ h
    · rcases keyIs_shape hv with ⟨j, u, rfl, rfl⟩ | ⟨y, u, rfl, rfl⟩
      · rw [key_rl] at h; exact SeqAt.EqAt.str_int x t j u _ _ _ _ h
      · rw [key_rr] at h; exact wpAny_eqBool_str h
  «strs» := fun k x t v h => by
    rcases keyIs_shape h with ⟨i, u, rfl, e⟩ | ⟨y, u, rfl, e⟩
    · exact nomatch e
    · injection e with e1 _
      subst e1
      cases v <;> rfl

end L2

namespace L2
open PySem PySem.Spec PyProof.Rows

inductive V where
  | non | bl (b : Bool) | int (i : Int) | str (x : Str) | byt (b : Array UInt8) | flt (b : UInt64) | ref (a : Addr) | ty (n : String)
  deriving DecidableEq

noncomputable def RelV : V → Value → Prop
  | .non, u => u = Value.none
  | .bl b, u => u = Value.bool b
  | .int i, u => ∃ t, u = Value.int i t
  | .str x, u => ∃ t, u = Value.str x t
  | .byt b, u => ∃ t, u = Value.bytes b t
  | .flt b, u => ∃ t, u = Value.float b t
  | .ref a, u => u = Value.ref a
  | .ty n, u => u = Value.type n

noncomputable abbrev Vals : List V → List Value → Prop := Paired RelV
theorem Vals.length {xs : List V} {us : List Value} (r : Vals xs us) : xs.length = us.length := Paired.length r
theorem Vals.get : ∀ {xs : List V} {us : List Value} {i : Nat} {x : V}, Vals xs us → xs[i]? = some x → ∃ u, us[i]? = some u ∧ RelV x u
  | _, _, _, _, .nil, e => by simp at e
  | _, _, 0, _, .cons r _, e => by simp at e; subst e; exact ⟨_, rfl, r⟩
  | _, _, i + 1, x, .cons _ t, e => by
    obtain ⟨u, h1, h2⟩ := Vals.get (i := i) (x := x) t (by simpa using e)
    exact ⟨u, by simpa using h1, h2⟩
theorem Vals.set {x : V} {u : Value} (r : RelV x u) : ∀ {xs : List V} {us : List Value} (i : Nat), Vals xs us → Vals (xs.set i x) (us.set i u)
  | _, _, _, .nil => .nil
  | _, _, 0, .cons _ t => .cons r t
  | _, _, i + 1, .cons q t => .cons q (Vals.set r i t)
theorem Vals.append : ∀ {xs ys : List V} {us ws : List Value}, Vals xs us → Vals ys ws → Vals (xs ++ ys) (us ++ ws)
  | _, _, _, _, .nil, s => s
  | _, _, _, _, .cons r t, s => .cons r (Vals.append t s)
theorem Vals.take : ∀ {xs : List V} {us : List Value} (n : Nat), Vals xs us → Vals (xs.take n) (us.take n)
  | _, _, 0, _ => .nil
  | _, _, _ + 1, .nil => .nil
  | _, _, n + 1, .cons r t => .cons r (Vals.take n t)
theorem Vals.drop : ∀ {xs : List V} {us : List Value} (n : Nat), Vals xs us → Vals (xs.drop n) (us.drop n)
  | _, _, 0, r => r
  | _, _, _ + 1, .nil => .nil
  | _, _, n + 1, .cons _ t => Vals.drop n t

noncomputable def RelO : Option V → Option Value → Prop
  | some v, some u => RelV v u
  | none, none => True
  | _, _ => False
noncomputable def KV {κ : Type} : List (κ × V) → List (κ × Value) → Prop := Paired fun (p : κ × V) (q : κ × Value) => p.1 = q.1 ∧ RelV p.2 q.2

noncomputable def kV : Key → V
  | .inl i => .int i
  | .inr x => .str x

inductive HO where
    | lst (xs : List V)
    | tup (xs : List V)
    | dK (kvs : List (Key × V)) | dT (kvs : List (List Key × V))
    | set (S : Int → Bool) (n : Nat)
    | ins (C dx : Addr) (fs : List (Str × V))
    | own (x : Addr)
    | xd (fs : List (Str × V))
    | met (f x : Addr)
    | rng (lo hi : Int)
    | frz (o : Obj) (u : HO)
    | tbl (ps : Array Value)
    | ext (φ : Heap → Prop)

noncomputable abbrev Hp := Addr → Option HO
noncomputable def upd (H : Hp) (a : Addr) (o : HO) : Hp := fun b => if b = a then some o else H b
theorem upd_same {H : Hp} {a : Addr} {o : HO} : upd H a o a = some o := by unfold upd; rw [if_pos rfl]
theorem upd_ne {H : Hp} {a b : Addr} {o : HO} (h : b ≠ a) : upd H a o b = H b := by unfold upd; rw [if_neg h]
theorem ne_of_none {H : Hp} {a b : Addr} {o : HO} (h : H a = some o) (h' : H b = none) : a ≠ b := by
  intro e; subst e; rw [h] at h'; cases h'

section
variable (P : Program) (w : World)
noncomputable def ObjOk (H : Hp) (h : Heap) (a : Addr) : HO → Prop
  | .lst xs => xs.length ≤ sizeLine ∧ ∃ (its : List Value) (n : Nat), Vals xs its ∧ h.get? a = some { cls := .type "list", data := .seq its.toArray n }
  | .tup xs => xs.length ≤ sizeLine ∧ ∃ its : List Value, Vals xs its ∧ IsTup h a its.toArray
  | .dK kvs => kvs.length ≤ sizeLine ∧ (a == sysModules) = false ∧ ∃ vs, KV kvs vs ∧ h.DictOf (mixKind P w) a vs
  | .dT kvs => kvs.length ≤ sizeLine ∧ (a == sysModules) = false ∧ ∃ xs : List (List Key × Addr × Value),
      Paired (fun (p : List Key × V) (q : List Key × Addr × Value) => p.1 = q.1 ∧ H q.2.1 = some (.tup (p.1.map kV)) ∧ RelV p.2 q.2.2) kvs xs ∧
      ∃ o es ep, h.get? a = some o ∧ o.ExactDict ∧ o.data = .dict es ep ∧ es.toList = xs.map (entryOfKey (tupleKind (mixKind P w))) ∧ (xs.map (·.1)).Nodup
  | .set S n => h.SetOf (intKind P w) a S n
  | .ins C dx fs => H dx = some (.own a) ∧ fs.length ≤ 1000 ∧ dx ≠ a ∧ h.get? a = some (PySem.W.instObj C dx) ∧
      ∃ mA, h.Ns1 dx mA ∧ (∀ f, RelO (fs.lookup f) (mA f)) ∧ PySem.Within mA (fs.map (·.1))
  | .own _ => ∃ o, h.get? a = some o
  | .xd fs => ∃ mA, h.Ns1 a mA ∧ ∀ f, RelO (fs.lookup f) (mA f)
  | .rng lo hi => ∃ t u v, h.get? a = some { cls := .type "range", data := .fields #[.int lo t, .int hi u, .int 1 v] }
  | .frz o u => h.get? a = some o ∧ ObjOk H h a u
  | .tbl ps => h.get? a = some { cls := .none, data := .fields ps }
  | .met f x => h.get? a = some (PySem.W.methodObj (.ref f) (.ref x))
  | .ext φ => φ h ∧ (∃ o, h.get? a = some o) ∧ ∀ h1 h2 : Heap, φ h1 → (∀ o, h1.get? a = some o → h2.get? a = some o) → φ h2
noncomputable def HOk (H : Hp) (h : Heap) : Prop := ∀ a o, H a = some o → ObjOk P w H h a o
end

section
variable {P : Program} {w : World} {H H' : Hp} {h h' : Heap} {a : Addr} {o : HO}
theorem ObjOk.lt (x : ObjOk P w H h a o) : a < h.objs.size := by
  cases o with
  | lst xs => obtain ⟨_, _, _, _, e⟩ := x; exact Heap.lt_size e
  | tup xs => obtain ⟨_, _, _, p⟩ := x; exact p.lt
  | dK kvs => obtain ⟨_, _, _, _, o, _, _, e, _⟩ := x; exact Heap.lt_size e
  | dT kvs => obtain ⟨_, _, _, _, o, _, _, e, _⟩ := x; exact Heap.lt_size e
  | set S n => obtain ⟨o, _, _, _, e, _⟩ := x; exact Heap.lt_size e
  | ins C dx fs => obtain ⟨_, _, _, e, _⟩ := x; exact Heap.lt_size e
  | own y => obtain ⟨_, e⟩ := x; exact Heap.lt_size e
  | xd fs => obtain ⟨_, ⟨_, _, _, e, _⟩, _⟩ := x; exact Heap.lt_size e
  | rng lo hi => obtain ⟨_, _, _, e⟩ := x; exact Heap.lt_size e
  | frz ob u => obtain ⟨e, _⟩ := x; exact Heap.lt_size e
  | tbl ps => exact Heap.lt_size (show h.get? a = some _ from x)
  | met f y => exact Heap.lt_size (show h.get? a = some _ from x)
  | ext φ => obtain ⟨_, ⟨_, e⟩, _⟩ := x; exact Heap.lt_size e
theorem Paired.mapP {α β : Type} {F G : α → β → Prop} : ∀ {l₁ : List α} {l₂ : List β}, Paired F l₁ l₂ → (∀ a b, F a b → G a b) → Paired G l₁ l₂
  | _, _, .nil, _ => .nil
  | _, _, .cons r t, f => .cons (f _ _ r) (Paired.mapP t f)
theorem ObjOk.stay (x : ObjOk P w H h a o) (k : ∀ b u, (b = a ∨ H b = some (.own a)) → h.get? b = some u → h'.get? b = some u)
    (ho : ∀ b, H b = some (.own a) → H' b = some (.own a)) (ht : ∀ b xs, H b = some (.tup xs) → H' b = some (.tup xs)) : ObjOk P w H' h' a o := by
  induction o with
  | lst xs => obtain ⟨z, its, n, r, e⟩ := x; exact ⟨z, its, n, r, k _ _ (.inl rfl) e⟩
  | tup xs => obtain ⟨z, its, r, ob, e, c⟩ := x; exact ⟨z, its, r, ob, k _ _ (.inl rfl) e, c⟩
  | dK kvs => obtain ⟨z, y, vs, r, ob, es, ep, e, c⟩ := x; exact ⟨z, y, vs, r, ob, es, ep, k _ _ (.inl rfl) e, c⟩
  | dT kvs =>
    obtain ⟨z, y, xs, r, ob, es, ep, e, c⟩ := x
    exact ⟨z, y, xs, Paired.mapP r fun p q z => ⟨z.1, ht _ _ z.2.1, z.2.2⟩, ob, es, ep, k _ _ (.inl rfl) e, c⟩
  | set S n => obtain ⟨ob, es, ep, t, e, c⟩ := x; exact ⟨ob, es, ep, t, k _ _ (.inl rfl) e, c⟩
  | ins C dx fs =>
    obtain ⟨d, z, ne, e, mA, ⟨od, es, ep, e2, c⟩, r⟩ := x
    exact ⟨ho _ d, z, ne, k _ _ (.inl rfl) e, mA, ⟨od, es, ep, k _ _ (.inr d) e2, c⟩, r⟩
  | own y => obtain ⟨ob, e⟩ := x; exact ⟨ob, k _ _ (.inl rfl) e⟩
  | xd fs => obtain ⟨mA, ⟨od, es, ep, e, c⟩, r⟩ := x; exact ⟨mA, ⟨od, es, ep, k _ _ (.inl rfl) e, c⟩, r⟩
  | rng lo hi => obtain ⟨t, u, v, e⟩ := x; exact ⟨t, u, v, k _ _ (.inl rfl) e⟩
  | frz ob u ih => obtain ⟨e, q⟩ := x; exact ⟨k _ _ (.inl rfl) e, ih q⟩
  | tbl ps =>
    have e : h.get? a = some { cls := .none, data := .fields ps } := x
    show h'.get? a = some { cls := .none, data := .fields ps }
    exact k a _ (.inl rfl) e
  | met f y =>
    have e : h.get? a = some (PySem.W.methodObj (.ref f) (.ref y)) := x
    show h'.get? a = some (PySem.W.methodObj (.ref f) (.ref y))
    exact k a _ (.inl rfl) e
  | ext φ => obtain ⟨p, ⟨o, e⟩, st⟩ := x; exact ⟨st _ _ p fun o q => k _ _ (.inl rfl) q, ⟨o, k _ _ (.inl rfl) e⟩, st⟩
theorem HOk.lt (x : HOk P w H h) (e : H a = some o) : a < h.objs.size := (x a o e).lt
theorem HOk.fresh (x : HOk P w H h) (e : h.objs.size ≤ a) : H a = none := by
  cases q : H a with
  | none => rfl
  | some u => exact absurd (Nat.lt_of_lt_of_le (x.lt q) e) (Nat.lt_irrefl _)
theorem HOk.kept (x : HOk P w H h) (k : ∀ b u, h.get? b = some u → h'.get? b = some u) : HOk P w H h' := fun a o e =>
  (x a o e).stay (fun b u _ q => k b u q) (fun _ q => q) fun _ _ q => q
theorem HOk.laid (x : HOk P w H h) (k : ∀ b u, h.get? b = some u → h'.get? b = some u) (hp : h.objs.size ≤ a) (new : ObjOk P w (upd H a o) h' a o) : HOk P w (upd H a o) h' := fun b u e => by
  have hn := x.fresh hp
  by_cases hb : b = a
  · subst hb; rw [upd_same] at e; cases e; exact new
  · rw [upd_ne hb] at e
    exact (x b u e).stay (fun c v _ q => k c v q) (fun c q => by rw [upd_ne (ne_of_none q hn)]; exact q) fun c xs q => by rw [upd_ne (ne_of_none q hn)]; exact q
end

noncomputable def Rd (H : Hp) (a : Addr) (u : HO) : Prop := H a = some u ∨ ∃ o, H a = some (.frz o u)
theorem Rd.ok {P : Program} {w : World} {H : Hp} {h : Heap} {a : Addr} {u : HO} (r : Rd H a u) (x : HOk P w H h) : ObjOk P w H h a u := by
  rcases r with r | ⟨o, r⟩
  · exact x a u r
  · obtain ⟨_, q⟩ := x a _ r
    exact q
noncomputable def Mut : Option HO → Prop
  | some (.lst _) => True
  | some (.dK _) => True
  | some (.dT _) => True
  | some (.set _ _) => True
  | some (.ins _ _ _) => True
  | some (.ext _) => True
  | _ => False
section
variable {P : Program} {w : World} {H : Hp} {h h' : Heap} {x e : Addr} {o' : HO}
theorem HOk.write (ok : HOk P w H h) (mu : Mut (H x)) (he : e = x ∨ H e = some (.own x)) (k : ∀ b u, b ≠ e → h.get? b = some u → h'.get? b = some u) (heo : ∃ u, h'.get? e = some u)
    (new : ObjOk P w (upd H x o') h' x o') : HOk P w (upd H x o') h' := fun b u q => by
  have nown : ∀ c y, H c = some (.own y) → c ≠ x := fun c y r z => by subst z; rw [r] at mu; exact mu
  have ntup : ∀ c xs, H c = some (.tup xs) → c ≠ x := fun c xs r z => by subst z; rw [r] at mu; exact mu
  by_cases hb : b = x
  · subst hb; rw [upd_same] at q; cases q; exact new
  · rw [upd_ne hb] at q
    by_cases hbe : b = e
    · have q' : H b = some (.own x) := by
        rcases he with z | z
        · exact absurd (hbe.trans z) hb
        · rw [hbe]; exact z
      rw [q] at q'; cases q'
      obtain ⟨v, hv⟩ := heo
      exact ⟨v, by rw [hbe]; exact hv⟩
    · refine (ok b u q).stay (fun c v hc r => k c v ?_ r) (fun c r => by rw [upd_ne (nown c b r)]; exact r) fun c xs r => by rw [upd_ne (ntup c xs r)]; exact r
      rcases hc with rfl | hc
      · exact hbe
      · rintro rfl
        rcases he with z | z
        · exact nown c b hc z
        · rw [hc] at z; cases z; exact hb rfl
end

structure Un (fs ex : List Addr) (H H' : Hp) (h h' : Heap) : Prop where
  keep : ∀ b o, h.get? b = some o → H b = none → b ∉ fs → b ∉ ex → h'.get? b = some o
  slot : ∀ b o, h.get? b = some o → H b = none → b ∈ fs → b ∉ ex → ∃ sl, h'.get? b = some { o with slots := sl }
  free : ∀ b o, h.get? b = some o → H b = none → b ∉ ex → H' b = none
  there : ∀ b o, h.get? b = some o → b ∉ ex → ∃ o', h'.get? b = some o'
  tups : ∀ b xs, H b = some (.tup xs) → H' b = some (.tup xs)
  frzs : ∀ b o u, H b = some (.frz o u) → H' b = some (.frz o u)
  tbls : ∀ b ps, H b = some (.tbl ps) → ∃ more, H' b = some (.tbl (ps ++ more))
section
variable {fs fs' ex ex' : List Addr} {H H1 H2 : Hp} {h h1 h2 h' : Heap} {a x e : Addr} {o : HO}
theorem Un.any (u : Un fs ex H H1 h h1) {b : Addr} {ob : Obj} (q : h.get? b = some ob) (n : H b = none) (hx : b ∉ ex) : ∃ sl, h1.get? b = some { ob with slots := sl } := by
  by_cases hb : b ∈ fs
  · exact u.slot b ob q n hb hx
  · exact ⟨ob.slots, u.keep b ob q n hb hx⟩
theorem Un.kept (k : ∀ b u, h.get? b = some u → h'.get? b = some u) : Un fs ex H H h h' :=
  ⟨fun b ob q _ _ _ => k b ob q, fun b ob q _ _ _ => ⟨ob.slots, k b ob q⟩, fun _ _ _ n _ => n, fun b ob q _ => ⟨ob, k b ob q⟩, fun _ _ q => q, fun _ _ _ q => q, fun _ ps q => ⟨#[], by rw [q]; simp⟩⟩
theorem Un.refl : Un fs ex H H h h := Un.kept fun _ _ q => q
theorem Un.laid (k : ∀ b u, h.get? b = some u → h'.get? b = some u) (hp : h.objs.size ≤ a) (hn : H a = none) : Un fs ex H (upd H a o) h h' where
  keep := fun b u q _ _ _ => k b u q
  slot := fun b u q _ _ _ => ⟨u.slots, k b u q⟩
  free := fun b u q n _ => by rw [upd_ne (Nat.ne_of_lt (Nat.lt_of_lt_of_le (Heap.lt_size q) hp))]; exact n
  there := fun b u q _ => ⟨u, k b u q⟩
  tups := fun b xs q => by rw [upd_ne (ne_of_none q hn)]; exact q
  frzs := fun b u xs q => by rw [upd_ne (ne_of_none q hn)]; exact q
  tbls := fun b ps q => ⟨#[], by rw [upd_ne (ne_of_none q hn), q]; simp⟩
theorem Un.write (mu : Mut (H x)) (he : e = x ∨ H e = some (.own x)) (k : ∀ b u, b ≠ e → h.get? b = some u → h'.get? b = some u) (heo : ∃ u, h'.get? e = some u) : Un fs ex H (upd H x o) h h' := by
  have hx : ∀ b, H b = none → b ≠ x := fun b n z => by subst z; rw [n] at mu; exact mu
  have hb : ∀ b, H b = none → b ≠ e := fun b n z => by
    subst z
    rcases he with r | r
    · exact hx b n r
    · rw [n] at r; cases r
  have hm : ∀ b u, H b = some u → ¬ Mut (some u) → b ≠ x := fun b u q nm z => by subst z; rw [q] at mu; exact nm mu
  refine ⟨fun b u q n _ _ => k b u (hb b n) q, fun b u q n _ _ => ⟨u.slots, k b u (hb b n) q⟩, fun b u q n _ => by rw [upd_ne (hx b n)]; exact n, fun b u q _ => ?_,
    fun b xs q => by rw [upd_ne (hm b _ q fun z => z)]; exact q, fun b u xs q => by rw [upd_ne (hm b _ q fun z => z)]; exact q, fun b ps q => ⟨#[], by rw [upd_ne (hm b _ q fun z => z), q]; simp⟩⟩
  by_cases hbe : b = e
  · subst hbe; exact heo
  · exact ⟨u, k b u hbe q⟩
end

noncomputable def trk (h : Heap) (H : Hp) : List Addr := (List.range h.objs.size).filter fun a => (H a).isSome
noncomputable def hidT (h : Heap) (H : Hp) : Heap := PySem.W.hideAll h (trk h H)
theorem hidT_size (h : Heap) (H : Hp) : (hidT h H).objs.size = h.objs.size := PySem.W.hideAll_size _ _
theorem hidT_get {h : Heap} {H : Hp} {b : Addr} {o : Obj} (e : h.get? b = some o) (n : H b = none) : (hidT h H).get? b = some o :=
  PySem.W.hideAll_get _ e fun hm => by
    have q : (H b).isSome = true := (List.mem_filter.mp hm).2
    rw [n] at q; simp at q
theorem of_hidT {h : Heap} {H : Hp} {b : Addr} {o : Obj} (e : (hidT h H).get? b = some o) : h.get? b = some o ∧ H b = none := by
  have e' : h.get? b = some o := PySem.W.of_hideAll (trk h H) e
  refine ⟨e', ?_⟩
  cases q : H b with
  | none => rfl
  | some x =>
    have hm : b ∈ trk h H := List.mem_filter.mpr ⟨List.mem_range.mpr (Heap.lt_size e'), by simp [q]⟩
    have z : (hidT h H).get? b = none := PySem.W.hideAll_none (trk h H) hm
    rw [z] at e; cases e

end L2

namespace L2
open PySem PySem.Spec PyProof.Rows

structure Mod (K : PySem.W.Frag) (mg : Str → Option Value) (base : Heap) : Prop where
  kin : K.In base
  glob : base.Ns mainGlobals mg
  blt : ∃ mb, base.Ns builtinsNs mb ∧ ∀ x : Str, x ≠ "__name__" → mb x = bootBuiltins x
  nolimit : base.NoLimit

structure Cx where
  prog : Program
  w : World
  K : PySem.W.Frag
  mg : Str → Option Value
  base : Heap
  A : Around
  N : List Str
  s_0 : Shared
  H_0 : Hp
  env : Env
  outer : List Env
  stack : List Env
  ex : List Addr
  fn : Str → Bool
  calm : Bool
  pn : List (Addr × Obj)
  xe : Value → Shared → Prop
noncomputable def frs (l : List Env) : List Addr := l.filterMap (·.frame)
noncomputable abbrev Cx.fs (X : Cx) : List Addr := frs X.outer

noncomputable def Vis (sc : Scope) (x : Str) : Prop := sc.names.lookup x = some .local ∨ sc.names.lookup x = some .cell ∨ sc.names.lookup x = some .free
noncomputable def Loc (sc : Scope) (x : Str) : Prop := sc.names.lookup x = some .local ∨ sc.names.lookup x = some .cell
noncomputable def Look (env : Env) (h : Heap) (m : Str → Option Value) (x : Str) (u : Value) : Prop :=
  (env.kindOf x = some .local ∧ m x = some u) ∨ ((env.kindOf x = some .cell ∨ env.kindOf x = some .free) ∧ ∃ c, env.cells.lookup x = some c ∧ h.IsCell c (some u))

structure Cx.Ok (X : Cx) : Prop where
  mod : Mod X.K X.mg X.base
  kind : X.env.scope.kind = .function
  glob : X.env.globals = mainGlobals
  blt : X.env.builtins = builtinsNs
  above : X.s_0.heap.objs.size ≤ X.env.locals
  inj : ∀ x y c, X.env.cells.lookup x = some c → X.env.cells.lookup y = some c → x = y
  has : ∀ x, (X.env.kindOf x = some .cell ∨ X.env.kindOf x = some .free) → ∃ c, X.env.cells.lookup x = some c
  cab : ∀ x c, X.fn x = true → X.env.cells.lookup x = some c → X.s_0.heap.objs.size ≤ c
  hd : X.calm = true → X.A.handled = none
  frames : X.A.frames = some X.stack
  stk : X.stack = X.outer ∨ (X.stack = X.env :: X.outer ∧ X.env.frame = some X.env.locals)
  exf : ∀ b ∈ X.ex, b ≠ X.env.locals ∧ ∀ x c, X.env.cells.lookup x = some c → c ≠ b
  bs : ∀ b o, X.base.get? b = some o → X.s_0.heap.get? b = some o ∧ X.H_0 b = none
  bsz : X.base.objs.size ≤ X.s_0.heap.objs.size
  noex : ∀ b o, X.base.get? b = some o → b ∉ X.ex
  exfs : ∀ b ∈ X.ex, b ∉ X.fs
  funs : X.s_0.heap.FunFrames X.base X.outer
  frf : ∀ b ∈ X.fs, X.H_0 b = none

structure Inv (X : Cx) (pins : List (Addr × Obj)) (σ : List (Option V)) (H : Hp) (s : Shared) : Prop where
  ok : X.Ok
  os : s.os = X.s_0.os
  bare : AllBare s.gens
  base : Un X.fs X.ex X.H_0 H X.s_0.heap s.heap
  loc : ∃ m, s.heap.Ns X.env.locals m ∧ ∀ (i : Nat) (x : Str) (v : V), X.N[i]? = some x → σ[i]? = some (some v) → Vis X.env.scope x → ∃ u, RelV v u ∧ Look X.env s.heap m x u
  cell : ∀ x c, X.env.cells.lookup x = some c → ∃ v, s.heap.IsCell c v
  free : H X.env.locals = none
  freeC : ∀ x c, X.env.cells.lookup x = some c → H c = none
  pin : ∀ p ∈ X.pn ++ pins, s.heap.get? p.1 = some p.2 ∧ H p.1 = none ∧ p.1 ≠ X.env.locals ∧ p.1 ∉ X.fs ∧ ∀ v, p.2.data ≠ .cell v
  hok : HOk X.prog X.w H s.heap
  len : σ.length = X.N.length

section
variable {X : Cx} {pins : List (Addr × Obj)} {σ : List (Option V)} {H H' : Hp} {s : Shared} {h' : Heap}

theorem Cx.Ok.nofr (ok : X.Ok) {b : Addr} {o : Obj} (e : X.base.get? b = some o) : b ∉ X.fs := fun hb => by
  have := (ok.funs.mem hb).1
  rw [e] at this; cases this
theorem Inv.bs (I : Inv X pins σ H s) : ∀ b o, X.base.get? b = some o → s.heap.get? b = some o ∧ H b = none := fun b o e =>
  ⟨I.base.keep b o (I.ok.bs b o e).1 (I.ok.bs b o e).2 (I.ok.nofr e) (I.ok.noex b o e), I.base.free b o (I.ok.bs b o e).1 (I.ok.bs b o e).2 (I.ok.noex b o e)⟩
theorem Inv.bk (I : Inv X pins σ H s) : ∀ b o, X.base.get? b = some o → s.heap.get? b = some o := fun b o e => (I.bs b o e).1
theorem Inv.mod (I : Inv X pins σ H s) : Mod X.K X.mg X.base := I.ok.mod
theorem Inv.kIn (I : Inv X pins σ H s) : X.K.In s.heap := I.ok.mod.kin.keeps I.bk
theorem Inv.fr (I : Inv X pins σ H s) : ∃ m, Fr X.base X.env.locals s.heap m :=
  let ⟨m, hn, _⟩ := I.loc
  ⟨m, hn, I.bk, Nat.le_trans I.ok.bsz I.ok.above⟩
theorem Inv.lt (I : Inv X pins σ H s) : X.env.locals < s.heap.objs.size := let ⟨_, hn, _⟩ := I.loc; hn.lt
theorem Inv.sz (I : Inv X pins σ H s) : X.s_0.heap.objs.size ≤ s.heap.objs.size := Nat.le_trans I.ok.above (Nat.le_of_lt I.lt)
theorem Inv.nofs (I : Inv X pins σ H s) {a : Addr} (h : s.heap.objs.size ≤ a) : a ∉ X.fs := fun hb => by
  obtain ⟨_, o, ho, _⟩ := I.ok.funs.mem hb
  exact absurd (Nat.lt_of_lt_of_le (Heap.lt_size ho) (Nat.le_trans I.sz h)) (Nat.lt_irrefl _)
theorem Inv.cne (I : Inv X pins σ H s) : ∀ x c, X.env.cells.lookup x = some c → c ≠ X.env.locals := fun x c e z => by
  obtain ⟨v, o, ho, hd⟩ := I.cell x c e
  obtain ⟨m, ⟨o', es, ep, ho', hd', _⟩, _⟩ := I.loc
  rw [z, ho'] at ho; cases ho; rw [hd'] at hd; cases hd
theorem Inv.funs (I : Inv X pins σ H s) : s.heap.FunFrames X.base X.outer := by
  have all : ∀ (l : List Env), (∀ b ∈ frs l, b ∈ X.fs) → X.s_0.heap.FunFrames X.base l → s.heap.FunFrames X.base l := by
    intro l
    induction l with
    | nil => intro _ _; trivial
    | cons env r ih =>
      intro hs hl
      obtain ⟨hk, ⟨L, o, hf, hn, ho, hd⟩, hr⟩ := hl
      have hL : L ∈ X.fs := hs L (by unfold frs; rw [List.filterMap_cons, hf]; exact List.mem_cons_self)
      obtain ⟨sl, e⟩ := I.base.slot L o ho (I.ok.frf L hL) hL fun z => I.ok.exfs L z hL
      exact ⟨hk, ⟨L, _, hf, hn, e, hd⟩, ih (fun b hb => hs b (by unfold frs; rw [List.filterMap_cons, hf]; exact List.mem_cons_of_mem _ hb)) hr⟩
  exact all X.outer (fun _ hb => hb) I.ok.funs

theorem Inv.stack (I : Inv X pins σ H s) : s.heap.FunFrames X.base X.stack := by
  rcases I.ok.stk with e | ⟨e, hf⟩
  · rw [e]; exact I.funs
  · rw [e]
    obtain ⟨m, hn, _⟩ := I.loc
    refine .cons (by rw [I.ok.kind]; decide) hf hn ?_ I.funs
    exact Heap.get?_none_of_le (Nat.le_trans I.ok.bsz I.ok.above)
theorem Inv.stkSub (I : Inv X pins σ H s) : ∀ b ∈ frs X.stack, b ∈ X.env.locals :: X.fs := fun b hb => by
  rcases I.ok.stk with e | ⟨e, hf⟩
  · rw [e] at hb; exact List.mem_cons_of_mem _ hb
  · rw [e] at hb
    unfold frs at hb
    rw [List.filterMap_cons, hf] at hb
    exact hb
theorem Inv.stkFree (I : Inv X pins σ H s) : ∀ b ∈ frs X.stack, H b = none := fun b hb => by
  rcases List.mem_cons.mp (I.stkSub b hb) with e | hb
  · rw [e]; exact I.free
  · obtain ⟨_, o, ho, _⟩ := I.ok.funs.mem hb
    exact I.base.free b o ho (I.ok.frf b hb) fun z => I.ok.exfs b z hb

theorem Inv.step {g' : Array GenState} {t' : Nat} {d' : Drawn} {ch : List Addr} (I : Inv X pins σ H s)
    (hch : ∀ b ∈ ch, (b ∈ X.ex ∨ X.s_0.heap.objs.size ≤ b) ∧ b ≠ X.env.locals ∧ (∀ x c, X.env.cells.lookup x = some c → c ≠ b) ∧ ∀ p ∈ X.pn ++ pins, p.1 ≠ b)
    (keep : ∀ b o, b ≠ X.env.locals → b ∉ X.fs → b ∉ ch → s.heap.get? b = some o → H b = none → h'.get? b = some o)
    (slot : ∀ b o, b ≠ X.env.locals → b ∈ X.fs → b ∉ ch → s.heap.get? b = some o → H b = none → ∃ sl, h'.get? b = some { o with slots := sl }) (free : ∀ b o, b ∉ ch → s.heap.get? b = some o → H b = none → H' b = none)
    (there : ∀ b o, b ∉ ch → s.heap.get? b = some o → ∃ o', h'.get? b = some o')
    (tups : ∀ b xs, H b = some (.tup xs) → H' b = some (.tup xs)) (frzs : ∀ b o u, H b = some (.frz o u) → H' b = some (.frz o u)) (tbls : ∀ b ps, H b = some (.tbl ps) → ∃ more, H' b = some (.tbl (ps ++ more)))
    (ns : ∀ m, s.heap.Ns X.env.locals m → h'.Ns X.env.locals m) (hok : HOk X.prog X.w H' h') (hg : AllBare g') :
    Inv X pins σ H' { s with heap := h', gens := g', drawn := d', toks := t' } := by
  have neL : ∀ b o, X.s_0.heap.get? b = some o → b ≠ X.env.locals := fun b o e => Nat.ne_of_lt (Nat.lt_of_lt_of_le (Heap.lt_size e) I.ok.above)
  have neC : ∀ b o, X.s_0.heap.get? b = some o → b ∉ X.ex → b ∉ ch := fun b o e hx hb => by
    rcases (hch b hb).1 with z | z
    · exact hx z
    · exact absurd (Nat.lt_of_lt_of_le (Heap.lt_size e) z) (Nat.lt_irrefl _)
  have cellK : ∀ x c, X.env.cells.lookup x = some c → ∀ v, s.heap.IsCell c v → h'.IsCell c v := fun x c e v ⟨o, ho, hd⟩ => by
    have nch : c ∉ ch := fun z => (hch c z).2.2.1 x c e rfl
    by_cases hc : c ∈ X.fs
    · obtain ⟨sl, q⟩ := slot c o (I.cne x c e) hc nch ho (I.freeC x c e)
      exact ⟨_, q, hd⟩
    · exact ⟨o, keep c o (I.cne x c e) hc nch ho (I.freeC x c e), hd⟩
  refine ⟨I.ok, I.os, hg, ⟨fun b o e n hb hx => ?_, fun b o e n hb hx => ?_, fun b o e n hx => ?_, fun b o e hx => ?_, fun b xs e => tups b xs (I.base.tups b xs e), fun b o xs e => frzs b o xs (I.base.frzs b o xs e), fun b ps e => ?_⟩, ?_, fun x c e => ?_, ?_, fun x c e => ?_, fun p hp => ?_, hok, I.len⟩
  · exact keep b o (neL b o e) hb (neC b o e hx) (I.base.keep b o e n hb hx) (I.base.free b o e n hx)
  · obtain ⟨sl, e1⟩ := I.base.slot b o e n hb hx
    obtain ⟨sl', e2⟩ := slot b _ (neL b o e) hb (neC b o e hx) e1 (I.base.free b o e n hx)
    exact ⟨sl', e2⟩
  · obtain ⟨o', e1⟩ := I.base.there b o e hx
    exact free b o' (neC b o e hx) e1 (I.base.free b o e n hx)
  · obtain ⟨o', e1⟩ := I.base.there b o e hx
    exact there b o' (neC b o e hx) e1
  · obtain ⟨m1, e1⟩ := I.base.tbls b ps e
    obtain ⟨m2, e2⟩ := tbls b _ e1
    exact ⟨m1 ++ m2, by rw [e2, Array.append_assoc]⟩
  · obtain ⟨m, hn, hl⟩ := I.loc
    refine ⟨m, ns m hn, fun i x v e1 e2 e3 => ?_⟩
    obtain ⟨u, r, l⟩ := hl i x v e1 e2 e3
    refine ⟨u, r, ?_⟩
    rcases l with l | ⟨k, c, e, z⟩
    · exact .inl l
    · exact .inr ⟨k, c, e, cellK x c e _ z⟩
  · obtain ⟨v, z⟩ := I.cell x c e
    exact ⟨v, cellK x c e v z⟩
  · obtain ⟨m, ⟨o, _, _, ho, _⟩, _⟩ := I.loc
    exact free _ o (fun z => (hch _ z).2.1 rfl) ho I.free
  · obtain ⟨v, o, ho, hd⟩ := I.cell x c e
    exact free c o (fun z => (hch c z).2.2.1 x c e rfl) ho (I.freeC x c e)
  · obtain ⟨e, n, ne, nf, d⟩ := I.pin p hp
    have nch : p.1 ∉ ch := fun z => (hch p.1 z).2.2.2 p hp rfl
    exact ⟨keep p.1 p.2 ne nf nch e n, free p.1 p.2 nch e n, ne, nf, d⟩
theorem Inv.un {t' : Nat} (I : Inv X pins σ H s) (u : Un X.fs [] H H' s.heap h') (hok : HOk X.prog X.w H' h') : Inv X pins σ H' { s with heap := h', toks := t' } := by
  obtain ⟨m, ⟨o, es, ep, ho, r⟩, _⟩ := id I.loc
  obtain ⟨sl, hL⟩ := u.any ho I.free (by simp)
  exact I.step (g' := s.gens) (d' := s.drawn) (ch := []) (fun _ z => nomatch z) (fun b o _ hb _ e n => u.keep b o e n hb (by simp)) (fun b o _ hb _ e n => u.slot b o e n hb (by simp)) (fun b o _ e n => u.free b o e n (by simp)) (fun b o _ e => u.there b o e (by simp)) u.tups u.frzs u.tbls (fun m' hm => by
    obtain ⟨o', es', ep', ho', r'⟩ := hm
    rw [ho] at ho'; cases ho'
    exact ⟨_, es', ep', hL, r'⟩) hok I.bare
theorem Inv.call {g' : Array GenState} {t' : Nat} {d' : Drawn} {ch : List Addr} (I : Inv X pins σ H s) (u : Un (frs X.stack) ch H H' s.heap h') (hok : HOk X.prog X.w H' h') (hg : AllBare g')
    (hch : ∀ b ∈ ch, (b ∈ X.ex ∨ X.s_0.heap.objs.size ≤ b) ∧ b ≠ X.env.locals ∧ (∀ x c, X.env.cells.lookup x = some c → c ≠ b) ∧ ∀ p ∈ X.pn ++ pins, p.1 ≠ b) :
    Inv X pins σ H' { s with heap := h', gens := g', drawn := d', toks := t' } := by
  obtain ⟨m, ⟨o, es, ep, ho, r⟩, _⟩ := id I.loc
  obtain ⟨sl, hL⟩ := u.any ho I.free fun z => (hch _ z).2.1 rfl
  exact I.step (ch := ch) hch (fun b o hL hb hc e n => u.keep b o e n (fun z => (List.mem_cons.mp (I.stkSub b z)).elim hL hb) hc) (fun b o _ _ hc e n => u.any e n hc) (fun b o hc e n => u.free b o e n hc) (fun b o hc e => u.there b o e hc) u.tups u.frzs u.tbls (fun m' hm => by
    obtain ⟨o', es', ep', ho', r'⟩ := hm
    rw [ho] at ho'; cases ho'
    exact ⟨_, es', ep', hL, r'⟩) hok hg
theorem Inv.turned {t' : Nat} {it : Addr} (I : Inv X pins σ H s) (k : ∀ b o, b ≠ it → s.heap.get? b = some o → h'.get? b = some o) (hn : H it = none) (hL : it ≠ X.env.locals)
    (h1 : it ∈ X.ex ∨ X.s_0.heap.objs.size ≤ it) (h2 : ∀ x c, X.env.cells.lookup x = some c → c ≠ it) (h3 : ∀ p ∈ X.pn ++ pins, p.1 ≠ it) : Inv X pins σ H { s with heap := h', toks := t' } := by
  have nit : ∀ b u, H b = some u → b ≠ it := fun b u e z => by rw [z, hn] at e; cases e
  refine I.step (g' := s.gens) (d' := s.drawn) (ch := [it]) (fun b hb => ?_) (fun b o _ _ hc e _ => k b o (fun z => hc (by simp [z])) e) (fun b o _ _ hc e _ => ⟨o.slots, k b o (fun z => hc (by simp [z])) e⟩) (fun _ _ _ _ n => n)
    (fun b o hc e => ⟨o, k b o (fun z => hc (by simp [z])) e⟩) (fun _ _ e => e) (fun _ _ _ e => e) (fun b ps e => ⟨#[], by rw [e]; simp⟩) (fun m hm => ?_) (fun b u e => ?_) I.bare
  · have e : b = it := by simpa using hb
    subst e
    exact ⟨h1, hL, h2, h3⟩
  · obtain ⟨o, es, ep, ho, r⟩ := hm
    exact ⟨o, es, ep, k _ o (Ne.symm hL) ho, r⟩
  · refine (I.hok b u e).stay (fun c v hc q => k c v ?_ q) (fun _ q => q) fun _ _ q => q
    rcases hc with z | z
    · rw [z]; exact nit b u e
    · exact nit c _ z
theorem Inv.tok (I : Inv X pins σ H s) (t : Nat) : Inv X pins σ H { s with toks := t } := I.un (h' := s.heap) (t' := t) Un.refl I.hok
theorem Inv.kept {t' : Nat} (I : Inv X pins σ H s) (k : ∀ b u, s.heap.get? b = some u → h'.get? b = some u) : Inv X pins σ H { s with heap := h', toks := t' } := I.un (Un.kept k) (I.hok.kept k)
theorem Inv.laid {a : Addr} {o : HO} {t' : Nat} (I : Inv X pins σ H s) (k : ∀ b u, s.heap.get? b = some u → h'.get? b = some u) (hp : s.heap.objs.size ≤ a) (new : ObjOk X.prog X.w (upd H a o) h' a o) :
    Inv X pins σ (upd H a o) { s with heap := h', toks := t' } := I.un (Un.laid k hp (I.hok.fresh hp)) (I.hok.laid k hp new)
theorem Inv.write {x e : Addr} {o : HO} {t' : Nat} (I : Inv X pins σ H s) (mu : Mut (H x)) (he : e = x ∨ H e = some (.own x)) (k : ∀ b u, b ≠ e → s.heap.get? b = some u → h'.get? b = some u) (heo : ∃ u, h'.get? e = some u)
    (new : ObjOk X.prog X.w (upd H x o) h' x o) : Inv X pins σ (upd H x o) { s with heap := h', toks := t' } := I.un (Un.write mu he k heo) (I.hok.write mu he k heo new)
theorem Inv.weak {σ' : List (Option V)} (I : Inv X pins σ H s) (hl : σ'.length = σ.length) (w : ∀ (i : Nat) v, σ'[i]? = some (some v) → σ[i]? = some (some v)) : Inv X pins σ' H s :=
  ⟨I.ok, I.os, I.bare, I.base, let ⟨m, hn, hl'⟩ := I.loc; ⟨m, hn, fun i x v e1 e2 e3 => hl' i x v e1 (w i v e2) e3⟩, I.cell, I.free, I.freeC, I.pin, I.hok, hl.trans I.len⟩
theorem Inv.pins_of {pins' : List (Addr × Obj)} (I : Inv X pins σ H s) (h : ∀ p ∈ pins', s.heap.get? p.1 = some p.2 ∧ H p.1 = none ∧ p.1 ≠ X.env.locals ∧ p.1 ∉ X.fs ∧ ∀ v, p.2.data ≠ .cell v) : Inv X pins' σ H s :=
  ⟨I.ok, I.os, I.bare, I.base, I.loc, I.cell, I.free, I.freeC, fun p hp => (List.mem_append.mp hp).elim (fun z => I.pin p (List.mem_append_left _ z)) (h p), I.hok, I.len⟩

theorem nodup_ix {N : List Str} (hN : N.Nodup) {i j : Nat} {x : Str} (a : N[i]? = some x) (b : N[j]? = some x) : i = j := by
  obtain ⟨h1, e1⟩ := List.getElem?_eq_some_iff.mp a
  obtain ⟨h2, e2⟩ := List.getElem?_eq_some_iff.mp b
  exact (List.getElem_inj hN).mp (e1.trans e2.symm)

theorem store_ok2 {M : Model} {A : Around} {E : Value → Shared → Prop} {i : Nat} {x : Str} {v : V} {u : Value} {Q : Unit → Shared → Prop} (I : Inv X pins σ H s) (hN : X.N.Nodup) (hi : X.N[i]? = some x) (hx : Loc X.env.scope x) (r : RelV v u)
    (h : ∀ s', Inv X pins (σ.set i (some v)) H s' → (∃ a, Heap.SameBut a s.heap s'.heap ∧ (a = X.env.locals ∨ X.env.cells.lookup x = some a)) → Q () s') (hf : X.fn x = true ∨ X.env.scope.names.lookup x = some .local := by first | exact .inl rfl | exact .inr rfl | assumption) : wpAny M A (storeName X.env x u) Q E s := by
  obtain ⟨m, hn, hl⟩ := id I.loc
  have hcls : (X.env.scope.kind == .class || (X.env.scope.kind == .module && X.env.locals != X.env.globals)) = false := by rw [I.ok.kind]; rfl
  have hiσ : i < σ.length := by rw [I.len]; exact (List.getElem?_eq_some_iff.mp hi).1
  have cne := I.cne
  have tracked : ∀ {a : Addr} {h' : Heap}, (∃ o, s.heap.get? a = some o ∧ H a = none) → Heap.SameBut a s.heap h' → HOk X.prog X.w H h' := fun {a h'} ha hs b ob e => by
    obtain ⟨_, _, hfree⟩ := ha
    refine (I.hok b ob e).stay (fun c w' hc q => (hs.2 c ?_).trans q) (fun _ q => q) fun _ _ q => q
    rintro rfl
    rcases hc with rfl | hc
    · rw [hfree] at e; cases e
    · rw [hfree] at hc; cases hc
  rcases hx with hk | hk
  · refine wpAny_storeName_local hk hn (fun h' hn' hs => ?_) hcls
    obtain ⟨oL, _, _, hoL, _⟩ := id hn
    refine h _ ⟨I.ok, I.os, I.bare, ⟨fun b o e n hb hx => ?_, fun b o e n hb hx => ?_, I.base.free, fun b o e hx => ?_, I.base.tups, I.base.frzs, I.base.tbls⟩, ⟨_, hn', fun j y v' e1 e2 e3 => ?_⟩, fun y c e => ?_, I.free, I.freeC, fun p hp => ?_, tracked ⟨oL, hoL, I.free⟩ hs, by simpa using I.len⟩ ⟨_, hs, .inl rfl⟩
    · exact (hs.2 b (Nat.ne_of_lt (Nat.lt_of_lt_of_le (Heap.lt_size e) I.ok.above))).trans (I.base.keep b o e n hb hx)
    · obtain ⟨sl, e1⟩ := I.base.slot b o e n hb hx
      exact ⟨sl, (hs.2 b (Nat.ne_of_lt (Nat.lt_of_lt_of_le (Heap.lt_size e) I.ok.above))).trans e1⟩
    · obtain ⟨o', e1⟩ := I.base.there b o e hx
      exact ⟨o', (hs.2 b (Nat.ne_of_lt (Nat.lt_of_lt_of_le (Heap.lt_size e) I.ok.above))).trans e1⟩
    · by_cases hj : j = i
      · subst hj
        rw [hi] at e1; cases e1
        rw [List.getElem?_set_self hiσ] at e2
        cases e2
        exact ⟨u, r, .inl ⟨hk, by simp⟩⟩
      · rw [List.getElem?_set_ne (Ne.symm hj)] at e2
        obtain ⟨u', r', q⟩ := hl j y v' e1 e2 e3
        refine ⟨u', r', ?_⟩
        rcases q with ⟨k, e⟩ | ⟨k, c, e, z⟩
        · refine .inl ⟨k, ?_⟩
          have : y ≠ x := fun e => hj (nodup_ix hN e1 (e ▸ hi))
          simp [this, e]
        · exact .inr ⟨k, c, e, z.sameBut hs (cne y c e)⟩
    · obtain ⟨w', z⟩ := I.cell y c e
      exact ⟨w', z.sameBut hs (cne y c e)⟩
    · obtain ⟨e, n, ne, nf, d⟩ := I.pin p hp
      exact ⟨(hs.2 p.1 ne).trans e, n, ne, nf, d⟩
  · have hfn : X.fn x = true := by
      rcases hf with z | z
      · exact z
      · rw [z] at hk; cases hk
    obtain ⟨c, hc⟩ := I.ok.has x (.inl hk)
    obtain ⟨w', z⟩ := I.cell x c hc
    refine wpAny_storeName_cell I.ok.kind hk hc z (fun h' hc' hs => ?_)
    obtain ⟨oc, hoc, hocd⟩ := id z
    refine h { s with heap := h' } ⟨I.ok, I.os, I.bare, ⟨fun b o e n hb hx => ?_, fun b o e n hb hx => ?_, I.base.free, fun b o e hx => ?_, I.base.tups, I.base.frzs, I.base.tbls⟩, ⟨m, hn.sameBut hs (Ne.symm (cne x c hc)), fun j y v' e1 e2 e3 => ?_⟩, fun y c' e => ?_, I.free, I.freeC, fun p hp => ?_, tracked ⟨oc, hoc, I.freeC x c hc⟩ hs, by simpa using I.len⟩ ⟨c, hs, .inr hc⟩
    · exact (hs.2 b (Nat.ne_of_lt (Nat.lt_of_lt_of_le (Heap.lt_size e) (I.ok.cab x c hfn hc)))).trans (I.base.keep b o e n hb hx)
    · obtain ⟨sl, e1⟩ := I.base.slot b o e n hb hx
      exact ⟨sl, (hs.2 b (Nat.ne_of_lt (Nat.lt_of_lt_of_le (Heap.lt_size e) (I.ok.cab x c hfn hc)))).trans e1⟩
    · obtain ⟨o', e1⟩ := I.base.there b o e hx
      exact ⟨o', (hs.2 b (Nat.ne_of_lt (Nat.lt_of_lt_of_le (Heap.lt_size e) (I.ok.cab x c hfn hc)))).trans e1⟩
    · by_cases hj : j = i
      · subst hj
        rw [hi] at e1; cases e1
        rw [List.getElem?_set_self hiσ] at e2
        cases e2
        exact ⟨u, r, .inr ⟨.inl hk, c, hc, hc'⟩⟩
      · rw [List.getElem?_set_ne (Ne.symm hj)] at e2
        obtain ⟨u', r', q⟩ := hl j y v' e1 e2 e3
        refine ⟨u', r', ?_⟩
        rcases q with q | ⟨k, c', e, z'⟩
        · exact .inl q
        · refine .inr ⟨k, c', e, z'.sameBut hs ?_⟩
          rintro rfl
          exact hj (nodup_ix hN e1 (I.ok.inj _ _ _ e hc ▸ hi))
    · by_cases hcc : c' = c
      · subst hcc; exact ⟨_, hc'⟩
      · obtain ⟨w2, z2⟩ := I.cell y c' e
        exact ⟨w2, z2.sameBut hs hcc⟩
    · obtain ⟨e, n, ne, nf, d⟩ := I.pin p hp
      refine ⟨(hs.2 p.1 ?_).trans e, n, ne, nf, d⟩
      intro q
      rw [q, hoc] at e
      have q' : oc = p.2 := Option.some.inj e
      exact d w' (by rw [← q']; exact hocd)
theorem store_ok {M : Model} {A : Around} {E : Value → Shared → Prop} {i : Nat} {x : Str} {v : V} {u : Value} {Q : Unit → Shared → Prop} (I : Inv X pins σ H s) (hN : X.N.Nodup) (hi : X.N[i]? = some x) (hx : Loc X.env.scope x) (r : RelV v u)
    (h : ∀ s', Inv X pins (σ.set i (some v)) H s' → Q () s') (hf : X.fn x = true ∨ X.env.scope.names.lookup x = some .local := by first | exact .inl rfl | exact .inr rfl | assumption) : wpAny M A (storeName X.env x u) Q E s :=
  store_ok2 I hN hi hx r (fun s' I' _ => h s' I') hf
theorem Inv.call' {s' : Shared} {ch : List Addr} (I : Inv X pins σ H s) (ho : s'.os = s.os) (u : Un (frs X.stack) ch H H' s.heap s'.heap) (hok : HOk X.prog X.w H' s'.heap) (hg : AllBare s'.gens)
    (hch : ∀ b ∈ ch, (b ∈ X.ex ∨ X.s_0.heap.objs.size ≤ b) ∧ b ≠ X.env.locals ∧ (∀ x c, X.env.cells.lookup x = some c → c ≠ b) ∧ ∀ p ∈ X.pn ++ pins, p.1 ≠ b) : Inv X pins σ H' s' := by
  obtain ⟨h', g', d', t', o'⟩ := s'
  have e : o' = s.os := ho
  subst e
  exact I.call (g' := g') (t' := t') (d' := d') u hok hg hch
end

noncomputable abbrev XK := Value → Option Addr → Hp → Prop
noncomputable abbrev St := List (Option V)
noncomputable abbrev VK := V → Hp → Prop
noncomputable abbrev TE := St → Hp → VK → Prop
noncomputable abbrev TT := St → Hp → (Bool → Hp → Prop) → Prop
noncomputable abbrev TA := St → Hp → (List V → Hp → Prop) → Prop
structure Ends where
  nx : St → Hp → Prop
  rt : VK
  bk : St → Hp → Prop := fun _ _ => False
  ct : St → Hp → Prop := fun _ _ => False
noncomputable abbrev TS := Ends → St → Hp → Prop

noncomputable def EP (X : Cx) (pins : List (Addr × Obj)) (σ : St) (Q : VK) (u : Value) (s' : Shared) : Prop := ∃ v H', Inv X pins σ H' s' ∧ RelV v u ∧ Q v H'
noncomputable def TP (X : Cx) (pins : List (Addr × Obj)) (σ : St) (Q : Bool → Hp → Prop) (b : Bool) (s' : Shared) : Prop := ∃ H', Inv X pins σ H' s' ∧ Q b H'
noncomputable def AP (X : Cx) (pins : List (Addr × Obj)) (σ : St) (Q : List V → Hp → Prop) (us : List Value) (s' : Shared) : Prop := ∃ vs H', Inv X pins σ H' s' ∧ Vals vs us ∧ Q vs H'
noncomputable def SP (X : Cx) (pins : List (Addr × Obj)) (D : Ends) (f : Flow) (s' : Shared) : Prop :=
  match f with
  | .next => ∃ σ' H', Inv X pins σ' H' s' ∧ D.nx σ' H'
  | .brk => ∃ σ' H', Inv X pins σ' H' s' ∧ D.bk σ' H'
  | .cont => ∃ σ' H', Inv X pins σ' H' s' ∧ D.ct σ' H'
  | .ret u => ∃ v σ' H', Inv X pins σ' H' s' ∧ RelV v u ∧ D.rt v H'

noncomputable def PE (X : Cx) (e : Expr) (t : TE) : Prop :=
  ∀ (pins : List (Addr × Obj)) (s : Shared) (σ : St) (H : Hp) (Q : VK), Inv X pins σ H s → t σ H Q → wpAny (model X.prog X.w) X.A (eval e X.env) (EP X pins σ Q) X.xe s
noncomputable def PT (X : Cx) (e : Expr) (t : TT) : Prop :=
  ∀ (pins : List (Addr × Obj)) (s : Shared) (σ : St) (H : Hp) (Q : Bool → Hp → Prop), Inv X pins σ H s → t σ H Q → wpAny (model X.prog X.w) X.A (isTrue e X.env (eval e X.env)) (TP X pins σ Q) X.xe s
noncomputable def PW (X : Cx) (e : Expr) (t : TT) : Prop :=
  ∀ (whole : Sem Value) (pins : List (Addr × Obj)) (s : Shared) (σ : St) (H : Hp) (Q : Bool → Hp → Prop), Inv X pins σ H s → t σ H Q → wpAny (model X.prog X.w) X.A (isTrue e X.env whole) (TP X pins σ Q) X.xe s
theorem PW.pt {X : Cx} {e : Expr} {t : TT} (h : PW X e t) : PT X e t := h _
noncomputable def PA (X : Cx) (es : List Expr) (t : TA) : Prop :=
  ∀ (pos : Pos) (pins : List (Addr × Obj)) (s : Shared) (σ : St) (H : Hp) (Q : List V → Hp → Prop), Inv X pins σ H s → t σ H Q → wpAny (model X.prog X.w) X.A (spliced (backTo pos (starEach es X.env))) (AP X pins σ Q) X.xe s
noncomputable def PS (X : Cx) (st : Stmt) (t : TS) : Prop :=
  ∀ (pins : List (Addr × Obj)) (s : Shared) (σ : St) (H : Hp) (D : Ends), Inv X pins σ H s → t D σ H → wpAny (model X.prog X.w) X.A (exec st X.env) (SP X pins D) X.xe s
noncomputable def PSs (X : Cx) (st : List Stmt) (t : TS) : Prop :=
  ∀ (pins : List (Addr × Obj)) (s : Shared) (σ : St) (H : Hp) (D : Ends), Inv X pins σ H s → t D σ H → wpAny (model X.prog X.w) X.A (execs st X.env) (SP X pins D) X.xe s
theorem thn {α : Type} {t : Sem α} {Q Q' : α → Shared → Prop} {M : Model} {A : Around} {E : Value → Shared → Prop} {s : Shared} (h : wpAny M A t Q E s) (hQ : ∀ a s, Q a s → Q' a s) : wpAny M A t Q' E s := wpAny_mono h hQ fun _ _ x => x
end L2

namespace L2
open PySem PySem.Spec PyProof.Rows
section
variable {X : Cx}

theorem bin {a b : Expr} {ta tb : TE} (ha : PE X a ta) (hb : PE X b tb) {pins : List (Addr × Obj)} {s : Shared} {σ : St} {H : Hp} {R : V → V → Hp → Prop} (I : Inv X pins σ H s) (h : ta σ H fun x H1 => tb σ H1 fun y H2 => R x y H2)
    {α : Type} {Q : α → Shared → Prop} {f : Value → Value → Sem α}
    (hf : ∀ v u s2 x y H2, Inv X pins σ H2 s2 → RelV x v → RelV y u → R x y H2 → wpAny (model X.prog X.w) X.A (f v u) Q X.xe s2) :
    wpAny (model X.prog X.w) X.A (eval a X.env) (fun v s₁ => wpAny (model X.prog X.w) X.A (eval b X.env) (fun u s₂ => wpAny (model X.prog X.w) X.A (f v u) Q X.xe s₂) X.xe s₁) X.xe s := by
  refine thn (ha pins s σ H _ I h) fun v s1 ⟨x, H1, I1, r1, q1⟩ => ?_
  refine thn (hb pins s1 σ H1 _ I1 q1) fun u s2 ⟨y, H2, I2, r2, q2⟩ => ?_
  exact hf v u s2 x y H2 I2 r1 r2 q2

noncomputable def tVar (i : Nat) : TE := fun σ H Q => ∃ v, σ[i]? = some (some v) ∧ Q v H
noncomputable def tC (v : V) : TE := fun _ H Q => Q v H
theorem pe_var {i : Nat} {x : Str} {pos : Pos} (hN : X.N[i]? = some x) (hv : Vis X.env.scope x) (hd : (x == ("__debug__" : Str)) = false := by decide) (hcd : (x == ("__classdict__" : Str)) = false := by decide) : PE X (.Name x pos) (tVar i) := by
  intro pins s σ H Q I h
  obtain ⟨v, e, h⟩ := h
  obtain ⟨m, hn, hl⟩ := I.loc
  obtain ⟨u, r, l⟩ := hl i x v hN e hv
  have fin : EP X pins σ Q u s := ⟨v, H, I, r, h⟩
  rcases l with ⟨hk, hm⟩ | ⟨hk, c, hc, hcell⟩
  · exact wpAny_Name (wpAny_loadName_local I.ok.kind hk hn hm fin) hd
  · rcases hk with hk | hk
    · exact wpAny_Name (wpAny_loadName_cell I.ok.kind hk hc hcell fin) hd
    · exact wpAny_Name (wpAny_loadName_free I.ok.kind hk hc hcell fin hcd) hd
theorem pe_int {i j pos} : PE X (.Constant (.int i) j pos) (tC (.int i)) := fun _ _ _ H _ I h => wpAny_Constant_int ⟨.int i, H, I.tok _, ⟨_, rfl⟩, h⟩
theorem pe_bl {b j pos} : PE X (.Constant (.bool b) j pos) (tC (.bl b)) := fun _ _ _ H _ I h => Constant_bool ⟨.bl b, H, I, rfl, h⟩
theorem pe_str {x j pos} : PE X (.Constant (.str x) j pos) (tC (.str x)) := fun _ _ _ H _ I h => Calls.Constant_str ⟨.str x, H, I.tok _, ⟨_, rfl⟩, h⟩

noncomputable def Gl (X : Cx) (x : Str) : Prop := X.env.kindOf x = some .globalImplicit
theorem ld_glob {E : Value → Shared → Prop} {pins : List (Addr × Obj)} {s : Shared} {σ : St} {H : Hp} {x : Str} {u : Value} {pos : Pos} {Q : Value → Shared → Prop} (I : Inv X pins σ H s) (hg : Gl X x) (hm : X.mg x = some u) (h : Q u s)
    (hd : (x == ("__debug__" : Str)) = false := by decide) : wpAny (model X.prog X.w) X.A (eval (.Name x pos) X.env) Q E s :=
  Calls.Name_function_global I.ok.kind hg (Calls.loadGlobal_global (by rw [I.ok.glob]; exact I.mod.glob.keeps I.bk) hm h) hd
theorem ld_blt {E : Value → Shared → Prop} {pins : List (Addr × Obj)} {s : Shared} {σ : St} {H : Hp} {x : Str} {u : Value} {pos : Pos} {Q : Value → Shared → Prop} (I : Inv X pins σ H s) (hg : Gl X x) (hm : X.mg x = none) (hv : bootBuiltins x = some u) (h : Q u s)
    (hn : x ≠ "__name__" := by decide) (hd : (x == ("__debug__" : Str)) = false := by decide) : wpAny (model X.prog X.w) X.A (eval (.Name x pos) X.env) Q E s := by
  obtain ⟨mb, h1, h2⟩ := I.mod.blt
  exact Calls.Name_function_global I.ok.kind hg (Calls.loadGlobal_builtin (by rw [I.ok.glob]; exact I.mod.glob.keeps I.bk) hm (by rw [I.ok.blt]; exact h1.keeps I.bk) ((h2 x hn).trans hv) h) hd
theorem pe_glob {x : Str} {v : V} {u : Value} {pos : Pos} (hg : Gl X x) (hm : X.mg x = some u) (r : RelV v u) (hd : (x == ("__debug__" : Str)) = false := by decide) : PE X (.Name x pos) (tC v) :=
  fun _ _ _ H _ I h => ld_glob I hg hm ⟨v, H, I, r, h⟩ hd

variable {a b : Expr} {ta tb : TE} {pos : Pos}

noncomputable def PC (X : Cx) (op : CmpOp) (a b : Expr) (t : TE) : Prop :=
  ∀ (pins : List (Addr × Obj)) (s : Shared) (σ : St) (H : Hp) (Q : VK), Inv X pins σ H s → t σ H Q →
    wpAny (model X.prog X.w) X.A (eval a X.env) (fun v s₁ => wpAny (model X.prog X.w) X.A (eval b X.env) (fun u s₂ => wpAny (model X.prog X.w) X.A (compareOp op v u) (EP X pins σ Q) X.xe s₂) X.xe s₁) X.xe s
noncomputable def tB (t : TE) : TT := fun σ H Q => t σ H fun x H1 => ∃ c, x = .bl c ∧ Q c H1
theorem pt_cmp {op : CmpOp} {t : TE} (h : PC X op a b t) (h1 : behindInMarks op b = false := by first | exact nobehind _ (by decide) (by decide) | rfl) : PT X (.Compare a [op] [b] pos) (tB t) := by
  intro pins s σ H Q I hw
  refine wpAny_isTrue_Compare1 (thn (h pins s σ H _ I hw) fun v s1 h1 => thn h1 fun u s2 h2 => thn h2 fun c s3 ⟨x, H1, I1, r1, q1⟩ => ?_) h1
  obtain ⟨d, rfl, q⟩ := q1
  cases r1
  exact wpAny_truthy_bool ⟨H1, I1, q⟩
theorem pt_val {e : Expr} {t : TE} (h : PE X e t) (he : ∀ whole, isTrue e X.env whole = (do let v ← whole; standAt e.pos; holding [v] (truthy v)) := by intro _; rfl) : PT X e (tB t) := by
  intro pins s σ H Q I hw
  refine isTrue_plain (thn (h pins s σ H _ I hw) fun v s1 ⟨x, H1, I1, r1, q1⟩ => ?_) (he _)
  obtain ⟨d, rfl, q⟩ := q1
  cases r1
  exact wpAny_truthy_bool ⟨H1, I1, q⟩

variable {tA tB' : TT} {rest : List Expr}
noncomputable def tAnd (t u : TT) : TT := fun σ H Q => t σ H fun c H1 => if c = true then u σ H1 Q else Q false H1
noncomputable def tOr (t u : TT) : TT := fun σ H Q => t σ H fun c H1 => if c = true then Q true H1 else u σ H1 Q
noncomputable def tNot (t : TT) : TT := fun σ H Q => t σ H fun c H1 => Q (!c) H1
theorem pw_and1 (ha : PT X a tA) : PW X (.BoolOp .And [a] pos) tA := by
  intro wh pins s σ H Q I h
  refine isTrue_and (thn (ha pins s σ H Q I h) fun c s1 e => ?_)
  cases c with
  | true => exact isTrue_and_nil e
  | false => exact e
theorem pw_or1 (ha : PT X a tA) : PW X (.BoolOp .Or [a] pos) tA := by
  intro wh pins s σ H Q I h
  refine isTrue_or (thn (ha pins s σ H Q I h) fun c s1 e => ?_)
  cases c with
  | false => exact isTrue_or_nil e
  | true => exact e
theorem pw_and (ha : PT X a tA) (hb : PW X (.BoolOp .And (b :: rest) pos) tB') : PW X (.BoolOp .And (a :: b :: rest) pos) (tAnd tA tB') := by
  intro wh pins s σ H Q I h
  refine isTrue_and (thn (ha pins s σ H _ I h) fun c s1 ⟨H1, I1, q1⟩ => ?_)
  cases c with
  | true => exact hb wh pins s1 σ H1 Q I1 q1
  | false => exact ⟨H1, I1, q1⟩
theorem pw_or (ha : PT X a tA) (hb : PW X (.BoolOp .Or (b :: rest) pos) tB') : PW X (.BoolOp .Or (a :: b :: rest) pos) (tOr tA tB') := by
  intro wh pins s σ H Q I h
  refine isTrue_or (thn (ha pins s σ H _ I h) fun c s1 ⟨H1, I1, q1⟩ => ?_)
  cases c with
  | true => exact ⟨H1, I1, q1⟩
  | false => exact hb wh pins s1 σ H1 Q I1 q1
theorem pt_not (ha : PT X a tA) : PT X (.UnaryOp .Not a pos) (tNot tA) := by
  intro pins s σ H Q I h
  exact isTrue_not (ha pins s σ H (fun c H1 => Q (!c) H1) I h)
noncomputable def tAndV (ta tb : TE) : TE := fun σ H Q => ta σ H fun x H1 => ∃ c, x = .bl c ∧ if c = true then tb σ H1 Q else Q (.bl false) H1
noncomputable def tNotV (ta : TE) : TE := fun σ H Q => ta σ H fun x H1 => ∃ c, x = .bl c ∧ Q (.bl (!c)) H1
theorem pe_one {op} {t : TE} (h : PE X a t) : PE X (.BoolOp op [a] pos) t := fun pins s σ H Q I hw => BoolOp_one (h pins s σ H Q I hw)
theorem pe_and (ha : PE X a ta) (hb : PE X (.BoolOp .And (b :: rest) pos) tb) : PE X (.BoolOp .And (a :: b :: rest) pos) (tAndV ta tb) := by
  intro pins s σ H Q I h
  refine BoolOp_and (thn (ha pins s σ H _ I h) fun v s1 ⟨x, H1, I1, r1, q1⟩ => ?_)
  obtain ⟨c, rfl, q1⟩ := q1
  cases r1
  refine wpAny_truthy_bool ?_
  cases c with
  | true => exact hb pins s1 σ H1 Q I1 q1
  | false => exact ⟨.bl false, H1, I1, rfl, q1⟩
theorem pe_not (ha : PE X a ta) : PE X (.UnaryOp .Not a pos) (tNotV ta) := by
  intro pins s σ H Q I h
  refine UnaryOp_ (thn (ha pins s σ H _ I h) fun v s1 ⟨x, H1, I1, r1, q1⟩ => ?_)
  obtain ⟨c, rfl, q1⟩ := q1
  cases r1
  exact not_of (wpAny_truthy_bool ⟨.bl (!c), H1, I1, rfl, q1⟩)
noncomputable def tIf (t : TT) (ta tb : TE) : TE := fun σ H Q => t σ H fun c H1 => if c = true then ta σ H1 Q else tb σ H1 Q
theorem pe_ifExp {c : Expr} (hc : PT X c tA) (ha : PE X a ta) (hb : PE X b tb) : PE X (.IfExp c a b pos) (tIf tA ta tb) := by
  intro pins s σ H Q I h
  refine wpAny_IfExp (thn (hc pins s σ H _ I h) fun d s1 ⟨H1, I1, q1⟩ => ?_)
  cases d with
  | true => exact ha pins s1 σ H1 Q I1 q1
  | false => exact hb pins s1 σ H1 Q I1 q1
end
end L2

namespace L2
open PySem PySem.Spec PyProof.Rows

noncomputable def SqL (K : PySem.W.Frag) (H : Hp) (a : Addr) (xs : List V) : Prop :=
  Rd H a (.lst xs) ∨
    ∃ (o : Obj) (its : Array Value) (n : Nat), K.lookup a = some o ∧ o.cls = .type "list" ∧ o.dict = none ∧ o.data = .seq its n ∧ its.size ≤ sizeLine ∧ Vals xs its.toList
noncomputable def SqT (K : PySem.W.Frag) (H : Hp) (a : Addr) (xs : List V) : Prop :=
  Rd H a (.tup xs) ∨
    ∃ (o : Obj) (its : Array Value) (n : Nat), K.lookup a = some o ∧ o.cls = .type "tuple" ∧ o.data = .seq its n ∧ its.size ≤ sizeLine ∧ Vals xs its.toList
noncomputable def absV : Value → Option V
  | .none => some .non
  | .bool b => some (.bl b)
  | .int i _ => some (.int i)
  | .str x _ => some (.str x)
  | .bytes b _ => some (.byt b)
  | .float b _ => some (.flt b)
  | .ref a => some (.ref a)
  | .type n => some (.ty n)
  | _ => none
theorem RelV.abs {x : V} {u : Value} (r : RelV x u) : absV u = some x := by
  cases x with
  | non => cases r; rfl
  | bl _ => cases r; rfl
  | int _ => obtain ⟨t, rfl⟩ := r; rfl
  | str _ => obtain ⟨t, rfl⟩ := r; rfl
  | byt _ => obtain ⟨t, rfl⟩ := r; rfl
  | flt _ => obtain ⟨t, rfl⟩ := r; rfl
  | ref _ => cases r; rfl
  | ty _ => cases r; rfl
theorem RelV.inj {x y : V} {u : Value} (r : RelV x u) (q : RelV y u) : x = y := Option.some.inj (r.abs.symm.trans q.abs)
theorem Vals.inj : ∀ {xs ys : List V} {us : List Value}, Vals xs us → Vals ys us → xs = ys
  | _, _, _, .nil, .nil => rfl
  | _, _, _, .cons r t, .cons r' t' => by rw [r.inj r', Vals.inj t t']
section
variable {X : Cx} {pins : List (Addr × Obj)} {σ : St} {H : Hp} {s : Shared} {a : Addr} {xs ys : List V}
theorem SqL.of {K : PySem.W.Frag} (h : H a = some (.lst xs)) : SqL K H a xs := .inl (.inl h)
theorem SqT.of {K : PySem.W.Frag} (h : H a = some (.tup xs)) : SqT K H a xs := .inl (.inl h)
theorem Inv.list (I : Inv X pins σ H s) (h : SqL X.K H a xs) : ∃ its : List Value, Vals xs its ∧ PlainL s.heap a its.toArray ∧ xs.length ≤ sizeLine := by
  rcases h with h | ⟨o, its, n, hk, hc, hd, hs, hz, r⟩
  · obtain ⟨z, its, n, r, e⟩ := h.ok I.hok
    exact ⟨its, r, ⟨_, n, e, rfl, rfl, rfl⟩, z⟩
  · refine ⟨its.toList, r, ⟨o, n, I.kIn a o hk, hc, hd, by simpa using hs⟩, ?_⟩
    have e := r.length
    simp only [Array.length_toList] at e
    lia
theorem Inv.tuple (I : Inv X pins σ H s) (h : SqT X.K H a xs) : ∃ its : List Value, Vals xs its ∧ IsTup s.heap a its.toArray ∧ xs.length ≤ sizeLine := by
  rcases h with h | ⟨o, its, n, hk, hc, hs, hz, r⟩
  · obtain ⟨z, its, r, p⟩ := h.ok I.hok
    exact ⟨its, r, p, z⟩
  · refine ⟨its.toList, r, ⟨o, I.kIn a o hk, hc, n, by simpa using hs⟩, ?_⟩
    have e := r.length
    simp only [Array.length_toList] at e
    lia
theorem Inv.list_inj (I : Inv X pins σ H s) (h : SqL X.K H a xs) (h' : SqL X.K H a ys) : xs = ys := by
  obtain ⟨its, r, ⟨o, n, e, _, _, d⟩, _⟩ := I.list h
  obtain ⟨its', r', ⟨o', n', e', _, _, d'⟩, _⟩ := I.list h'
  rw [e] at e'; cases e'
  rw [d] at d'
  injection d' with d1 _
  have : its = its' := by simpa using congrArg Array.toList d1
  subst this
  exact r.inj r'
end

noncomputable abbrev Cx.wish (X : Cx) (E : Value → Shared → Prop) : Cx := { X with xe := E }
noncomputable abbrev Cx.nox (X : Cx) : Cx := X.wish fun _ _ => False
theorem Cx.Ok.wish {X : Cx} (ok : X.Ok) (E : Value → Shared → Prop) : (X.wish E).Ok :=
  ⟨ok.mod, ok.kind, ok.glob, ok.blt, ok.above, ok.inj, ok.has, ok.cab, ok.hd, ok.frames, ok.stk, ok.exf, ok.bs, ok.bsz, ok.noex, ok.exfs, ok.funs, ok.frf⟩
theorem Cx.Ok.unwish {X : Cx} {E : Value → Shared → Prop} (ok : (X.wish E).Ok) : X.Ok :=
  ⟨ok.mod, ok.kind, ok.glob, ok.blt, ok.above, ok.inj, ok.has, ok.cab, ok.hd, ok.frames, ok.stk, ok.exf, ok.bs, ok.bsz, ok.noex, ok.exfs, ok.funs, ok.frf⟩
section
variable {X : Cx} {pins : List (Addr × Obj)} {σ : St} {H : Hp} {s : Shared} {E : Value → Shared → Prop}
theorem Inv.wish (I : Inv X pins σ H s) (E : Value → Shared → Prop) : Inv (X.wish E) pins σ H s := ⟨I.ok.wish E, I.os, I.bare, I.base, I.loc, I.cell, I.free, I.freeC, I.pin, I.hok, I.len⟩
theorem Inv.unwish (I : Inv (X.wish E) pins σ H s) : Inv X pins σ H s := ⟨I.ok.unwish, I.os, I.bare, I.base, I.loc, I.cell, I.free, I.freeC, I.pin, I.hok, I.len⟩
theorem SP.unwish {D : Ends} {f : Flow} {s' : Shared} (h : SP (X.wish E) pins D f s') : SP X pins D f s' := by
  cases f with
  | next => obtain ⟨σ', H', I, q⟩ := h; exact ⟨σ', H', I.unwish, q⟩
  | brk => obtain ⟨σ', H', I, q⟩ := h; exact ⟨σ', H', I.unwish, q⟩
  | cont => obtain ⟨σ', H', I, q⟩ := h; exact ⟨σ', H', I.unwish, q⟩
  | ret u => obtain ⟨v, σ', H', I, r, q⟩ := h; exact ⟨v, σ', H', I.unwish, r, q⟩
theorem PSs.nox {st : List Stmt} {t : TS} (h : PSs X.nox st t) : PSs X st t := fun pins s σ H D I hw =>
  wpAny_mono (h pins s σ H D (I.wish _) hw) (fun _ _ q => q.unwish) fun _ _ z => False.elim z
end

section
variable {X : Cx} {st : Stmt} {rest : List Stmt} {t u : TS} {e : Expr} {te : TE} {pos : Pos}
noncomputable def tNext : TS := fun D σ H => D.nx σ H
noncomputable def tSeq (t u : TS) : TS := fun D σ H => t { D with nx := u D } σ H
theorem pss_nil : PSs X [] tNext := fun _ _ σ H _ I h => wpAny_execs_nil ⟨σ, H, I, h⟩
theorem pss_cons (h1 : PS X st t) (h2 : PSs X rest u) : PSs X (st :: rest) (tSeq t u) := by
  intro pins s σ H D I h
  refine wpAny_execs_cons (thn (h1 pins s σ H { D with nx := u D } I h) fun f s1 q => ?_)
  cases f with
  | next =>
    obtain ⟨σ', H', I', q⟩ := q
    exact h2 pins s1 σ' H' D I' q
  | ret v => exact q
  | brk => exact q
  | cont => exact q
theorem pss_one (h1 : PS X st t) : PSs X [st] t := by
  intro pins s σ H D I h
  refine wpAny_execs_cons (thn (h1 pins s σ H D I h) fun f s1 q => ?_)
  cases f with
  | next => exact wpAny_execs_nil q
  | ret v => exact q
  | brk => exact q
  | cont => exact q
noncomputable def tCont : TS := fun D σ H => D.ct σ H
theorem ps_continue : PS X (.Continue pos) tCont := fun _ _ σ H _ I h => wpAny_Continue ⟨σ, H, I, h⟩
theorem Inv.quiet {pins : List (Addr × Obj)} {σ : St} {H : Hp} {s : Shared} (I : Inv X pins σ H s) : interactive X.env = false := by simp [interactive, I.ok.kind]
noncomputable def tDrop (te : TE) : TS := fun D σ H => te σ H fun _ H1 => D.nx σ H1
theorem ps_expr (he : PE X e te) (hs : swapsWith e none pos.line X.env = pure false := by rfl) : PS X (.Expr e pos) (tDrop te) := by
  intro pins s σ H D I h
  exact wpAny_Expr_any (thn (he pins s σ H _ I h) fun v s1 ⟨x, H1, I1, r1, q1⟩ => ⟨σ, H1, I1, q1⟩) I.quiet hs
noncomputable def tRet (te : TE) : TS := fun D σ H => te σ H D.rt
theorem ps_ret (he : PE X e te) : PS X (.Return (some e) pos) (tRet te) := by
  intro pins s σ H D I h
  exact wpAny_Return_some (thn (he pins s σ H _ I h) fun v s1 ⟨x, H1, I1, r1, q1⟩ => ⟨x, σ, H1, I1, r1, q1⟩)
noncomputable def tIfS (c : TT) (t u : TS) : TS := fun D σ H => c σ H fun b H1 => if b = true then t D σ H1 else u D σ H1
theorem ps_if {c : Expr} {a b : List Stmt} {tc : TT} (hc : PT X c tc) (ha : PSs X a t) (hb : PSs X b u) : PS X (.If c a b pos) (tIfS tc t u) := by
  intro pins s σ H D I h
  refine wpAny_If (thn (hc pins s σ H _ I h) fun d s1 ⟨H1, I1, q1⟩ => ?_)
  cases d with
  | true => exact ha pins s1 σ H1 D I1 q1
  | false => exact hb pins s1 σ H1 D I1 q1
end

noncomputable abbrev TG := V → St → Hp → (St → Hp → Prop) → Prop
noncomputable abbrev TGs := List V → St → Hp → (St → Hp → Prop) → Prop
noncomputable def PG (X : Cx) (target : Expr) (t : TG) : Prop :=
  ∀ (pins : List (Addr × Obj)) (s : Shared) (σ : St) (H : Hp) (v : V) (u : Value) (Q : St → Hp → Prop), Inv X pins σ H s → RelV v u → t v σ H Q →
    wpAny (model X.prog X.w) X.A (assign target X.env u) (fun _ s' => ∃ σ' H', Inv X pins σ' H' s' ∧ Q σ' H') X.xe s
noncomputable def PGs (X : Cx) (ts : List Expr) (t : TGs) : Prop :=
  ∀ (pins : List (Addr × Obj)) (s : Shared) (σ : St) (H : Hp) (vs : List V) (us : List Value) (Q : St → Hp → Prop), Inv X pins σ H s → Vals vs us → t vs σ H Q →
    wpAny (model X.prog X.w) X.A (assignInOrder ((assignEach ts X.env).map (·.2)) us) (fun _ s' => ∃ σ' H', Inv X pins σ' H' s' ∧ Q σ' H') X.xe s
noncomputable abbrev TSet := V → V → V → Hp → (Hp → Prop) → Prop
noncomputable def PSet (X : Cx) (t : TSet) : Prop :=
  ∀ (pins : List (Addr × Obj)) (s : Shared) (σ : St) (H : Hp) (o i v : V) (ov iv u : Value) (Q : Hp → Prop), Inv X pins σ H s → RelV o ov → RelV i iv → RelV v u → t o i v H Q →
    wpAny (model X.prog X.w) X.A (setItem ov iv u) (fun _ s' => ∃ H', Inv X pins σ H' s' ∧ Q H') X.xe s
noncomputable abbrev TIp := V → V → Hp → VK → Prop
noncomputable def PIp (X : Cx) (op : Operator) (t : TIp) : Prop :=
  ∀ (pins : List (Addr × Obj)) (s : Shared) (σ : St) (H : Hp) (x y : V) (v u : Value) (Q : VK), Inv X pins σ H s → RelV x v → RelV y u → t x y H Q →
    wpAny (model X.prog X.w) X.A (inplaceOp op v u) (EP X pins σ Q) X.xe s
section
variable {X : Cx} {pos : Pos}
noncomputable def gName (i : Nat) : TG := fun v σ H Q => Q (σ.set i (some v)) H
theorem pg_name {i : Nat} {x : Str} (hN : X.N.Nodup) (hi : X.N[i]? = some x) (hx : Loc X.env.scope x) (hf : X.fn x = true ∨ X.env.scope.names.lookup x = some .local := by first | exact .inl rfl | exact .inr rfl | assumption) : PG X (.Name x pos) (gName i) := by
  intro pins s σ H v u Q I r h
  exact wpAny_assign_Name (store_ok I hN hi hx r (fun s' I' => ⟨_, H, I', h⟩) hf)
noncomputable def gNil : TGs := fun vs σ H Q => vs = [] ∧ Q σ H
noncomputable def gCons (t : TG) (u : TGs) : TGs := fun vs σ H Q => ∃ v r, vs = v :: r ∧ t v σ H fun σ' H' => u r σ' H' Q
theorem pgs_nil : PGs X [] gNil := by
  intro pins s σ H vs us Q I r h
  obtain ⟨e, h⟩ := h
  subst e
  cases r
  exact assignInOrder_nil ⟨σ, H, I, h⟩
theorem pgs_cons {e : Expr} {es : List Expr} {t : TG} {u : TGs} (h1 : PG X e t) (h2 : PGs X es u)
    (hs : (assignEach (e :: es) X.env).map (·.2) = assign e X.env :: (assignEach es X.env).map (·.2) := by rfl) : PGs X (e :: es) (gCons t u) := by
  intro pins s σ H vs us Q I r h
  obtain ⟨v, vr, e1, h⟩ := h
  subst e1
  cases r with
  | cons r rr =>
    rw [hs]
    refine assignInOrder_cons (thn (h1 pins s σ H _ _ _ I r h) fun _ s1 ⟨σ1, H1, I1, q1⟩ => ?_)
    exact h2 pins s1 σ1 H1 _ _ Q I1 rr q1
noncomputable def gTup (K : PySem.W.Frag) (n : Nat) (t : TGs) : TG := fun v σ H Q => ∃ a xs, v = .ref a ∧ SqT K H a xs ∧ xs.length = n ∧ t xs σ H Q
theorem pg_tup {es : List Expr} {k : Nat} {t : TGs} {n : Nat} (hc : X.calm = true) (h : PGs X es t)
    (hn : (assignEach es X.env).length = n := by rfl) (hst : (assignEach es X.env).findIdx? (·.1) = none := by rfl) : PG X (.Tuple es k pos) (gTup X.K n t) := by
  intro pins s σ H v u Q I r hw
  obtain ⟨a, xs, e1, hq, hl, hw⟩ := hw
  subst e1
  cases r
  obtain ⟨its, rv, ht, hz⟩ := I.tuple hq
  refine assign_Tuple_tuple (I.ok.hd hc) ht (by simp [hn, ← hl, rv.length]) hst fun h' hx => ?_
  have I1 : Inv X pins σ H { s with heap := h' } := I.kept (t' := s.toks) fun b o e => hx b o (Nat.ne_of_lt (Heap.lt_size e)) e
  exact h pins _ σ H xs _ Q I1 (by simpa using rv) hw
noncomputable def tAsg (te : TE) (g : TG) : TS := fun D σ H => te σ H fun x H1 => g x σ H1 D.nx
theorem ps_set {i : Nat} {x : Str} {e : Expr} {te : TE} {pos' : Pos} (hN : X.N.Nodup) (hi : X.N[i]? = some x) (hx : Loc X.env.scope x) (he : PE X e te) (hs : swapsWith e (some (.Name x pos')) pos.line X.env = pure false := by rfl) (hf : X.fn x = true ∨ X.env.scope.names.lookup x = some .local := by first | exact .inl rfl | exact .inr rfl | assumption) :
    PS X (.Assign [.Name x pos'] e pos) (tAsg te (gName i)) := by
  intro pins s σ H D I h
  refine wpAny_Assign_Name (thn (he pins s σ H _ I h) fun v s1 ⟨y, H1, I1, r1, q1⟩ => ?_) hs
  exact store_ok I1 hN hi hx r1 (fun s2 I2 => ⟨_, H1, I2, q1⟩) hf
noncomputable def tAug (i : Nat) (te : TE) (ti : TIp) : TS := fun D σ H => ∃ x, σ[i]? = some (some x) ∧ te σ H fun y H1 => ti x y H1 fun z H2 => D.nx (σ.set i (some z)) H2
theorem ps_aug {i : Nat} {x : Str} {e : Expr} {te : TE} {op : Operator} {ti : TIp} {pos' : Pos} (hN : X.N.Nodup) (hi : X.N[i]? = some x) (hx : Loc X.env.scope x) (he : PE X e te) (ho : PIp X op ti) (hf : X.fn x = true ∨ X.env.scope.names.lookup x = some .local := by first | exact .inl rfl | exact .inr rfl | assumption) :
    PS X (.AugAssign (.Name x pos') op e pos) (tAug i te ti) := by
  intro pins s σ H D I h
  obtain ⟨v, e1, h⟩ := h
  obtain ⟨m, hn, hl⟩ := I.loc
  have vis : Vis X.env.scope x := by rcases hx with k | k; exact .inl k; exact .inr (.inl k)
  obtain ⟨u, r, l⟩ := hl i x v hi e1 vis
  refine wpAny_AugAssign_Name ?_
  have go : wpAny (model X.prog X.w) X.A (eval e X.env) (fun w s₂ => wpAny (model X.prog X.w) X.A (inplaceOp op u w) (fun r s₃ => wpAny (model X.prog X.w) X.A (storeName X.env x r) (fun _ => SP X pins D .next) X.xe s₃) X.xe s₂) X.xe s := by
    refine thn (he pins s σ H _ I h) fun w s1 ⟨y, H1, I1, r1, q1⟩ => ?_
    refine thn (ho pins s1 σ H1 v y u w _ I1 r r1 q1) fun z s2 ⟨zv, H2, I2, r2, q2⟩ => ?_
    exact store_ok I2 hN hi hx r2 (fun s3 I3 => ⟨_, H2, I3, q2⟩) hf
  rcases l with ⟨hk, hm⟩ | ⟨hk, c, hc, hcell⟩
  · exact wpAny_loadName_local I.ok.kind hk hn hm go
  · rcases hk with hk | hk
    · exact wpAny_loadName_cell I.ok.kind hk hc hcell go
    · rcases hx with k | k
      · have : X.env.scope.names.lookup x = some .free := hk
        rw [k] at this; cases this
      · have : X.env.scope.names.lookup x = some .free := hk
        rw [k] at this; cases this
noncomputable def tAugS (to ti te : TE) (tget : V → V → Hp → VK → Prop) (tip : TIp) (tset : TSet) : TS := fun D σ H => to σ H fun o H1 => ti σ H1 fun i H2 => tget o i H2 fun x H3 => te σ H3 fun y H4 => tip x y H4 fun z H5 => tset o i z H5 fun H6 => D.nx σ H6
noncomputable def PGet (X : Cx) (t : V → V → Hp → VK → Prop) : Prop :=
  ∀ (pins : List (Addr × Obj)) (s : Shared) (σ : St) (H : Hp) (o i : V) (ov iv : Value) (Q : VK), Inv X pins σ H s → RelV o ov → RelV i iv → t o i H Q →
    wpAny (model X.prog X.w) X.A (getItem ov iv) (EP X pins σ Q) X.xe s
theorem ps_augS {o i e : Expr} {to ti te : TE} {tget : V → V → Hp → VK → Prop} {tip : TIp} {tset : TSet} {op : Operator} {tpos : Pos} (ho : PE X o to) (hi : PE X i ti) (hg : PGet X tget) (he : PE X e te) (hp : PIp X op tip) (hs : PSet X tset)
    (ha : ∀ ov iv new, augStore i ov iv new = (do holding [new, ov, iv] (setItem ov iv new); release [new, ov, iv] []; pure .next) := by intros; rfl) : PS X (.AugAssign (.Subscript o i tpos) op e pos) (tAugS to ti te tget tip tset) := by
  intro pins s σ H D I h
  refine wpAny_AugAssign_SubscriptAny (thn (ho pins s σ H _ I h) fun ov s1 ⟨x1, H1, I1, r1, q1⟩ => ?_) ha
  refine thn (hi pins s1 σ H1 _ I1 q1) fun iv s2 ⟨x2, H2, I2, r2, q2⟩ => ?_
  refine thn (hg pins s2 σ H2 x1 x2 ov iv _ I2 r1 r2 q2) fun old s3 ⟨x3, H3, I3, r3, q3⟩ => ?_
  refine thn (he pins s3 σ H3 _ I3 q3) fun v s4 ⟨x4, H4, I4, r4, q4⟩ => ?_
  refine thn (hp pins s4 σ H4 x3 x4 old v _ I4 r3 r4 q4) fun new s5 ⟨x5, H5, I5, r5, q5⟩ => ?_
  exact thn (hs pins s5 σ H5 x1 x2 x5 ov iv new _ I5 r1 r2 r5 q5) fun _ s6 ⟨H6, I6, q6⟩ => ⟨σ, H6, I6, q6⟩
noncomputable def ipI (f : Int → Int → Int) : TIp := fun x y H Q => ∃ i j, x = .int i ∧ y = .int j ∧ Q (.int (f i j)) H
theorem ip_add : PIp X .Add (ipI fun i j => i + j) := by
  intro pins s σ H x y v u Q I r1 r2 h
  obtain ⟨i, j, e1, e2, q⟩ := h
  subst e1; subst e2
  obtain ⟨t, rfl⟩ := r1
  obtain ⟨t', rfl⟩ := r2
  exact iadd_int ⟨.int _, H, I.tok _, ⟨_, rfl⟩, q⟩
theorem ip_sub : PIp X .Sub (ipI fun i j => i - j) := by
  intro pins s σ H x y v u Q I r1 r2 h
  obtain ⟨i, j, e1, e2, q⟩ := h
  subst e1; subst e2
  obtain ⟨t, rfl⟩ := r1
  obtain ⟨t', rfl⟩ := r2
  exact isub_int ⟨.int _, H, I.tok _, ⟨_, rfl⟩, q⟩
end

section
variable {X : Cx} {pos : Pos}
noncomputable def tWhile (c : TT) (tb : TS) : TS := fun D σ H => ∃ W : Nat → St → Hp → Prop, (∃ m, W m σ H) ∧ ∀ m σ H, W m σ H →
  c σ H fun b H1 => if b = true then ∃ N : St → Hp → Prop, (∀ σ' H', N σ' H' → ∃ m', m' < m ∧ W m' σ' H') ∧ tb { D with nx := N, ct := N, bk := D.nx } σ H1 else D.nx σ H1
theorem ps_while {c : Expr} {body : List Stmt} {tc : TT} {tb : TS} (hp : PassesOwn (model X.prog X.w) X.A X.env X.xe) (hc : PT X c tc) (hb : PSs X body tb) : PS X (.While c body [] pos) (tWhile tc tb) := by
  intro pins s σ H D I h
  obtain ⟨W, ⟨m0, w0⟩, turn⟩ := h
  refine wpAny_While (codeAny_whileLoop (fun n s' => ∃ σ' H', Inv X pins σ' H' s' ∧ W n σ' H') ?_ m0 ⟨σ, H, I, w0⟩)
  rintro n s1 ⟨σ1, H1, I1, w1⟩
  refine wpAny_passesOwn hp (thn (hc pins s1 σ1 H1 _ I1 (turn n σ1 H1 w1)) fun b s2 ⟨H2, I2, q2⟩ => ?_)
  cases b with
  | true =>
    obtain ⟨N, hN, q2⟩ := q2
    rw [if_pos rfl]
    refine wpAny_passesOwn hp (thn (hb pins s2 σ1 H2 _ I2 q2) fun f s3 q3 => ?_)
    cases f with
    | next =>
      obtain ⟨σ3, H3, I3, n3⟩ := q3
      obtain ⟨m', hm, w3⟩ := hN σ3 H3 n3
      exact ⟨m', hm, σ3, H3, I3, w3⟩
    | cont =>
      obtain ⟨σ3, H3, I3, n3⟩ := q3
      obtain ⟨m', hm, w3⟩ := hN σ3 H3 n3
      exact ⟨m', hm, σ3, H3, I3, w3⟩
    | brk => exact q3
    | ret v => exact q3
  | false =>
    rw [if_neg Bool.false_ne_true]
    exact wpAny_execs_nil ⟨σ1, H2, I2, q2⟩
end

structure It where
  go : Nat → Hp → Prop
  yld : Nat → Hp → V → Hp → Prop
  stop : Nat → Hp → Prop
noncomputable def FpOk (X : Cx) (pins : List (Addr × Obj)) (H : Hp) (b : Addr) : Prop :=
  H b = none ∧ b ≠ X.env.locals ∧ b ∉ X.fs ∧ (b ∈ X.ex ∨ X.s_0.heap.objs.size ≤ b) ∧ (∀ x c, X.env.cells.lookup x = some c → c ≠ b) ∧ ∀ p ∈ X.pn ++ pins, p.1 ≠ b
theorem Inv.fpOk {X : Cx} {pins : List (Addr × Obj)} {σ : St} {H H' : Hp} {s : Shared} {b : Addr} (I : Inv X pins σ H s) (hb : s.heap.objs.size ≤ b) (hn : H' b = none) : FpOk X pins H' b := by
  refine ⟨hn, Nat.ne_of_gt (Nat.lt_of_lt_of_le I.lt hb), I.nofs hb, .inr (Nat.le_trans I.sz hb), fun x c e z => ?_, fun p hp z => ?_⟩
  · obtain ⟨v, q⟩ := I.cell x c e
    exact absurd (Nat.lt_of_lt_of_le q.lt (by rw [z]; exact hb)) (Nat.lt_irrefl _)
  · exact absurd (Nat.lt_of_lt_of_le (Heap.lt_size (I.pin p hp).1) (by rw [z]; exact hb)) (Nat.lt_irrefl _)
structure Turn (P : Program) (w : World) (K : PySem.W.Frag) (tg : Expr) (J : It) (fp : List Addr) (it : Addr) (tn : Nat → Heap → Prop) : Prop where
  mem : it ∈ fp
  obj : ∀ i h, tn i h → ∀ b ∈ fp, ∃ o, h.get? b = some o ∧ ∀ v, o.data ≠ .cell v
  keep : ∀ i h h', tn i h → (∀ b ∈ fp, ∀ o, h.get? b = some o → h'.get? b = some o) → tn i h'
  item : ∀ (X : Cx), X.prog = P → X.w = w → X.K = K → X.calm = true → ∀ (i : Nat) (pins : List (Addr × Obj)) (s : Shared) (σ : St) (H : Hp) (E : Value → Shared → Prop), Inv X pins σ H s → (∀ b ∈ fp, FpOk X pins H b) → tn i s.heap → J.go i H →
    wpAny (model P w) X.A (pyNext (.ref it)) (fun r s1 => ∃ u, r = some u ∧
      wpAny (model P w) X.A (letOwnedTupleGo tg (.ref it) u) (fun _ s2 => ∃ x H', Inv X pins σ H' s2 ∧ RelV x u ∧ J.yld i H x H' ∧ tn (i + 1) s2.heap ∧ ∀ b ∈ fp, H' b = none) E s1) E s
  done : ∀ (X : Cx), X.prog = P → X.w = w → X.K = K → X.calm = true → ∀ (i : Nat) (pins : List (Addr × Obj)) (s : Shared) (σ : St) (H : Hp) (E : Value → Shared → Prop), Inv X pins σ H s → (∀ b ∈ fp, FpOk X pins H b) → tn i s.heap → J.stop i H →
    wpAny (model P w) X.A (pyNext (.ref it)) (fun r s1 => r = none ∧ Inv X pins σ H s1) E s
  self : ∀ (A : Around) (i : Nat) (s : Shared) (Q : Value → Shared → Prop) (E : Value → Shared → Prop), tn i s.heap → Q (.ref it) s → wpAny (model P w) A (pyIter (.ref it)) Q E s
noncomputable abbrev TI := St → Hp → (It → Hp → Prop) → Prop
noncomputable def PIE (X : Cx) (pins : List (Addr × Obj)) (σ : St) (tg : Expr) (R : It → Hp → Prop) (itv : Value) (s2 : Shared) : Prop :=
  ∃ (it : Addr) (fp : List Addr) (tn : Nat → Heap → Prop) (J : It) (H' : Hp), itv = .ref it ∧ Inv X pins σ H' s2 ∧ Turn X.prog X.w X.K tg J fp it tn ∧ tn 0 s2.heap ∧ (∀ b ∈ fp, FpOk X pins H' b) ∧ R J H'
noncomputable def PI (X : Cx) (tg iter : Expr) (wi : TI) : Prop :=
  ∀ (pins : List (Addr × Obj)) (s : Shared) (σ : St) (H : Hp) (R : It → Hp → Prop), Inv X pins σ H s → wi σ H R →
    wpAny (model X.prog X.w) X.A (eval iter X.env) (fun v s1 => wpAny (model X.prog X.w) X.A (pyIter v) (PIE X pins σ tg R) X.xe s1) X.xe s

theorem go_of {M : Model} {A : Around} {E : Value → Shared → Prop} {s : Shared} {tg : Expr} {it : Addr} {u : Value} {o : Obj} {n : String} {vs : Array Value} {Q : Unit → Shared → Prop} (ho : s.heap.get? it = some o) (hc : o.cls = .type n) (hd : o.data = .fields vs)
    (hn : ["enumerate", "zip", "dict_itemiterator", "dict_reverseitemiterator", "odict_iterator", "itertools.zip_longest", "itertools.pairwise"].contains n = false) (hQ : Q () s) : wpAny M A (letOwnedTupleGo tg (.ref it) u) Q E s := by
  unfold letOwnedTupleGo
  cases tg <;> first
    | exact wpAny_pure hQ
    | (cases u <;> first
        | exact wpAny_pure hQ
        | (refine wpAny_bind (wpAny_load ho ?_)
           rw [hc, hd]
           show wpAny M A (if (["enumerate", "zip", "dict_itemiterator", "dict_reverseitemiterator", "odict_iterator", "itertools.zip_longest", "itertools.pairwise"].contains n && vs[0]? == some (rawInt _)) = true then _ else _) Q E s
           rw [if_neg (by intro h; rw [hn, Bool.false_and] at h; cases h)]
           exact wpAny_pure hQ))

noncomputable def Itl (K : PySem.W.Frag) (a : Addr) : It :=
  ⟨fun i H => ∃ xs x, SqL K H a xs ∧ xs[i]? = some x, fun i H x H' => H' = H ∧ ∀ xs, SqL K H a xs → xs[i]? = some x, fun i H => ∃ xs, SqL K H a xs ∧ xs.length ≤ i⟩
noncomputable def Itr (lo : Int) (n : Nat) : It := ⟨fun i _ => i < n, fun i H x H' => H' = H ∧ x = .int (lo + i), fun i _ => n ≤ i⟩
theorem turn_list {P : Program} {w : World} {K : PySem.W.Frag} {tg : Expr} (a it : Addr) : Turn P w K tg (Itl K a) [it] it (fun i h => h.IsListIter it a i) where
  mem := by simp
  obj := fun i h st b hb => by
    have e : b = it := by simpa using hb
    subst e
    obtain ⟨o, e, c, d⟩ := st
    exact ⟨o, e, fun v z => by rw [d] at z; cases z⟩
  keep := fun i h h' st k => st.at fun o e => k it (by simp) o e
  item := by
    intro X hP hw hK hc i pins s σ H E I hf st hg
    subst hP hw hK
    obtain ⟨xs, x, hq, hx⟩ := hg
    obtain ⟨its, rv, p, hz⟩ := I.list hq
    obtain ⟨u, hu, ru⟩ := rv.get hx
    obtain ⟨f0, f1, f2, f3, f4, f5⟩ := hf it (by simp)
    refine wpAny_pyNext_list_item st p.isList (x := u) (by simpa using hu) fun h' st' sb => ?_
    have I1 : Inv X pins σ H { s with heap := h' } := I.turned (t' := s.toks) (fun b o hb e => (sb.2 b hb).trans e) f0 f1 f3 f4 f5
    obtain ⟨o, e, c, d⟩ := id st'
    exact ⟨u, rfl, go_of (s := { s with heap := h' }) e c d (by decide) ⟨x, H, I1, ru, ⟨rfl, fun ys hy => by rw [I.list_inj hy hq]; exact hx⟩, st', fun b hb => (hf b hb).1⟩⟩
  done := by
    intro X hP hw hK hc i pins s σ H E I hf st hg
    subst hP hw hK
    obtain ⟨xs, hq, hx⟩ := hg
    obtain ⟨its, rv, p, hz⟩ := I.list hq
    obtain ⟨f0, f1, f2, f3, f4, f5⟩ := hf it (by simp)
    have hl := rv.length
    exact wpAny_pyNext_list_end (I.ok.hd hc) st p.isList (by simp; lia) fun h' eb => ⟨rfl, I.turned (t' := s.toks) (fun b o hb e => eb b o hb e) f0 f1 f3 f4 f5⟩
  self := fun _ _ _ _ _ st h => wpAny_pyIter_listiter st h
theorem turn_range {P : Program} {w : World} {K : PySem.W.Frag} {tg : Expr} (it : Addr) (lo : Int) (n : Nat) : Turn P w K tg (Itr lo n) [it] it (fun i h => IsRangeIter h it (lo + (i : Nat) * 1) ((n : Int) - (i : Nat)) 1) where
  mem := by simp
  obj := fun i h st b hb => by
    have e : b = it := by simpa using hb
    subst e
    exact ⟨_, st, fun v z => by
      have z' : Data.fields _ = Data.cell v := z
      cases z'⟩
  keep := fun i h h' st k => k it (by simp) _ st
  item := by
    intro X hP hw hK hc i pins s σ H E I hf st hg
    subst hP hw hK
    obtain ⟨f0, f1, f2, f3, f4, f5⟩ := hf it (by simp)
    have W := Walks.range (prog := X.prog) (w := X.w) (I.ok.hd hc) it lo 1 n
    refine W.item i s _ _ hg st fun v h' tk hv st' kk => ?_
    obtain ⟨t, rfl⟩ := hv
    have I1 : Inv X pins σ H { s with heap := h', toks := tk } := I.turned (fun b o hb e => kk b o (by simpa using hb) e) f0 f1 f3 f4 f5
    refine ⟨_, rfl, go_of (s := { s with heap := h', toks := tk }) (n := "range_iterator") st' rfl rfl (by decide) ⟨.int (lo + i), H, I1, ⟨t, ?_⟩, ⟨rfl, rfl⟩, st', fun b hb => (hf b hb).1⟩⟩
    rw [Int.mul_one]
  done := by
    intro X hP hw hK hc i pins s σ H E I hf st hg
    subst hP hw hK
    obtain ⟨f0, f1, f2, f3, f4, f5⟩ := hf it (by simp)
    exact wpAny_pyNext_range_end (I.ok.hd hc) st (by have : n ≤ i := hg; lia) fun h' eb => ⟨rfl, I.turned (t' := s.toks) (fun b o hb e => eb b o hb e) f0 f1 f3 f4 f5⟩
  self := fun _ _ _ _ _ st h => wpAny_pyIter_rangeiter st h
end L2

namespace L2
open PySem PySem.Spec PyProof.Rows
section
variable {X : Cx} {tg : Expr}
noncomputable def iList (K : PySem.W.Frag) (tl : TE) : TI := fun σ H R => tl σ H fun x H1 => ∃ a, x = .ref a ∧ (∃ xs, SqL K H1 a xs) ∧ R (Itl K a) H1
theorem pi_list {l : Expr} {tl : TE} (hl : PE X l tl) : PI X tg l (iList X.K tl) := by
  intro pins s σ H R I h
  refine thn (hl pins s σ H _ I h) fun v s1 ⟨x, H1, I1, r1, q1⟩ => ?_
  obtain ⟨a, e, ⟨xs, hq⟩, q⟩ := q1
  subst e
  cases r1
  obtain ⟨its, rv, p, hz⟩ := I1.list hq
  refine wpAny_pyIter_list p.isList ?_
  refine ⟨s1.heap.objs.size, [s1.heap.objs.size], _, _, H1, rfl, I1.kept (t' := s1.toks) fun b o e => Heap.get?_push_of_some _ e, turn_list a _, ⟨_, Heap.get?_push_size _ rfl, rfl, rfl⟩, fun b hb => ?_, q⟩
  have e : b = s1.heap.objs.size := by simpa using hb
  subst e
  exact I1.fpOk (Nat.le_refl _) (I1.hok.fresh (Nat.le_refl _))
theorem range_it {pins : List (Addr × Obj)} {σ : St} {H : Hp} {s : Shared} {R : It → Hp → Prop} {E : Value → Shared → Prop} {lo hi : Int} {t u v : Tok} {tk : Nat} (I : Inv X pins σ H s) (h1 : -(2 ^ 62) ≤ lo) (h2 : lo < 2 ^ 62) (h3 : -(2 ^ 62) ≤ hi) (h4 : hi < 2 ^ 62)
    (q : R (Itr lo (hi - lo).toNat) H) : wpAny (model X.prog X.w) X.A (pyIter (.ref s.heap.objs.size)) (PIE X pins σ tg R) E { s with heap := s.heap.push { cls := .type "range", data := .fields #[.int lo t, .int hi u, .int 1 v] }, toks := tk } := by
  refine wpAny_pyIter_range (IsRange.new ..) (small_one h1 h2 h3 h4) ?_
  have I1 : Inv X pins σ H { s with heap := s.heap.push { cls := .type "range", data := .fields #[.int lo t, .int hi u, .int 1 v] }, toks := tk } := I.kept fun b o e => Heap.get?_push_of_some _ e
  refine ⟨(s.heap.push { cls := .type "range", data := .fields #[.int lo t, .int hi u, .int 1 v] }).objs.size, [(s.heap.push { cls := .type "range", data := .fields #[.int lo t, .int hi u, .int 1 v] }).objs.size], _, _, H, rfl,
    I1.kept (t' := tk) fun b o e => Heap.get?_push_of_some _ e, turn_range _ lo (hi - lo).toNat, ?_, fun b hb => ?_, q⟩
  · have e1 : lo + ((0 : Nat) : Int) * 1 = lo := by simp
    have e2 : (((hi - lo).toNat : Nat) : Int) - ((0 : Nat) : Int) = Builtin.Range.rangeSize lo hi 1 := by rw [rangeSize_one]; split <;> lia
    show IsRangeIter _ _ (lo + ((0 : Nat) : Int) * 1) ((((hi - lo).toNat : Nat) : Int) - ((0 : Nat) : Int)) 1
    rw [e1, e2]
    exact Heap.get?_push_size _ rfl
  · have e : b = (s.heap.push { cls := .type "range", data := .fields #[.int lo t, .int hi u, .int 1 v] }).objs.size := by simpa using hb
    subst e
    exact I1.fpOk (Nat.le_refl _) (I1.hok.fresh (Nat.le_refl _))
noncomputable def iRng1 (ta : TA) : TI := fun σ H R => ta σ H fun vs H1 => ∃ j : Int, vs = [.int j] ∧ -(2 ^ 62) ≤ j ∧ j < 2 ^ 62 ∧ R (Itr 0 j.toNat) H1
noncomputable def iRng2 (ta : TA) : TI := fun σ H R => ta σ H fun vs H1 => ∃ i j : Int, vs = [.int i, .int j] ∧ (-(2 ^ 62) ≤ i ∧ i < 2 ^ 62 ∧ -(2 ^ 62) ≤ j ∧ j < 2 ^ 62) ∧ R (Itr i (j - i).toNat) H1
theorem pi_range1 {a : Expr} {ta : TA} {p pos : Pos} (hg : Gl X "range") (hm : X.mg "range" = none) (ha : PA X [a] ta) (hs : starEach [a] X.env = [(false, eval a X.env)] := by rfl) : PI X tg (.Call (.Name "range" p) [a] [] pos) (iRng1 ta) := by
  intro pins s σ H R I h
  refine Call_ (ld_blt I hg hm boot_range (PyProof.Rows.callWith_type1 (thn (ha pos pins s σ H _ I h) fun us s1 ⟨vs, H1, I1, r1, q1⟩ => ?_) hs rfl))
  obtain ⟨j, e, q1, q2, q⟩ := q1
  subst e
  cases r1 with
  | cons r rr =>
    cases rr
    obtain ⟨t, rfl⟩ := r
    exact call_range_1 (range_it I1 (by lia) (by lia) q1 q2 (by simpa using q))
theorem pi_range2 {a b : Expr} {ta : TA} {p pos : Pos} (hg : Gl X "range") (hm : X.mg "range" = none) (ha : PA X [a, b] ta) (hs : starEach [a, b] X.env = [(false, eval a X.env), (false, eval b X.env)] := by rfl) (hs2 : starEach [b] X.env = [(false, eval b X.env)] := by rfl) :
    PI X tg (.Call (.Name "range" p) [a, b] [] pos) (iRng2 ta) := by
  intro pins s σ H R I h
  refine Call_ (ld_blt I hg hm boot_range (PyProof.Rows.callWith_type1 (thn (ha pos pins s σ H _ I h) fun us s1 ⟨vs, H1, I1, r1, q1⟩ => ?_) (by rw [hs, hs2]) (by rw [hs2]; rfl)))
  obtain ⟨i, j, e, ⟨q1, q2, q3, q4⟩, q⟩ := q1
  subst e
  cases r1 with
  | cons r rr =>
    cases rr with
    | cons r' rr =>
      cases rr
      obtain ⟨t, rfl⟩ := r
      obtain ⟨t', rfl⟩ := r'
      exact call_range_2 (range_it I1 q1 q2 q3 q4 q)

noncomputable def tFor (wi : TI) (g : TG) (tb : TS) : TS := fun D σ H => wi σ H fun J H1 => ∃ W : Nat → Nat → St → Hp → Prop, (∃ m, W 0 m σ H1) ∧ ∀ i m σ H, W i m σ H →
  (J.stop i H ∧ D.nx σ H) ∨ (J.go i H ∧ ∃ N : St → Hp → Prop, (∀ σ' H', N σ' H' → ∃ m', m' < m ∧ W (i + 1) m' σ' H') ∧ ∀ x H', J.yld i H x H' → g x σ H' fun σ2 H2 => tb { D with nx := N, ct := N, bk := D.nx } σ2 H2)
noncomputable def pinsAt (fp : List Addr) (h : Heap) : List (Addr × Obj) := fp.filterMap fun b => (h.get? b).map fun o => (b, o)
theorem mem_pinsAt {fp : List Addr} {h : Heap} {b : Addr} {o : Obj} (hb : b ∈ fp) (e : h.get? b = some o) : (b, o) ∈ pinsAt fp h := List.mem_filterMap.mpr ⟨b, hb, by rw [e]; rfl⟩
theorem of_pinsAt {fp : List Addr} {h : Heap} {p : Addr × Obj} (hp : p ∈ pinsAt fp h) : p.1 ∈ fp ∧ h.get? p.1 = some p.2 := by
  obtain ⟨b, hb, e⟩ := List.mem_filterMap.mp hp
  cases q : h.get? b with
  | none => rw [q] at e; cases e
  | some o =>
    rw [q] at e
    have e' : (b, o) = p := Option.some.inj e
    subst e'
    exact ⟨hb, q⟩
theorem Inv.pinned {pins : List (Addr × Obj)} {σ : St} {H : Hp} {s : Shared} {fp : List Addr} (I : Inv X pins σ H s) (hf : ∀ b ∈ fp, FpOk X pins H b) (ho : ∀ b ∈ fp, ∃ o, s.heap.get? b = some o ∧ ∀ v, o.data ≠ .cell v) : Inv X (pins ++ pinsAt fp s.heap) σ H s :=
  I.pins_of fun p hp => (List.mem_append.mp hp).elim (fun z => I.pin p (List.mem_append_right _ z)) fun z => by
    obtain ⟨hb, e⟩ := of_pinsAt z
    obtain ⟨f0, f1, f2, _⟩ := hf p.1 hb
    obtain ⟨o, e', d⟩ := ho p.1 hb
    rw [e] at e'; cases e'
    exact ⟨e, f0, f1, f2, d⟩
theorem Inv.unpinned {pins pl : List (Addr × Obj)} {σ : St} {H : Hp} {s : Shared} (I : Inv X (pins ++ pl) σ H s) : Inv X pins σ H s := I.pins_of fun p hp => I.pin p (List.mem_append_right _ (List.mem_append_left _ hp))
theorem ps_for {iter : Expr} {body : List Stmt} {wi : TI} {g : TG} {tb : TS} {pos : Pos} (hp : PassesOwn (model X.prog X.w) X.A X.env X.xe) (hc : X.calm = true) (hi : PI X tg iter wi) (hg : PG X tg g) (hb : PSs X body tb)
    (hs : ∀ x, foldedSetIterable iter X.env x = pure x := by intro _; rfl) : PS X (.For tg iter body [] pos) (tFor wi g tb) := by
  intro pins s σ H D I h
  refine wpAny_For (thn (hi pins s σ H _ I h) fun v s1 h1 => thn h1 fun itv s2 h2 => ?_) hs
  obtain ⟨it, fp, tn, J, H2, e, I2, T, st2, f2, W, ⟨m0, w0⟩, turn⟩ := h2
  subst e
  have stat : ∀ {H' : Hp}, (∀ b ∈ fp, H' b = none) → ∀ b ∈ fp, FpOk X pins H' b := fun hn b hb => ⟨hn b hb, (f2 b hb).2⟩
  refine codeAny_forLoop_any (fun n s' => ∃ i σ' H', Inv X pins σ' H' s' ∧ tn i s'.heap ∧ (∀ b ∈ fp, H' b = none) ∧ W i n σ' H') ?_ m0 ⟨0, σ, H2, I2, st2, fun b hb => (f2 b hb).1, w0⟩
  rintro n s3 ⟨i, σ3, H3, I3, st3, fr3, w3⟩
  rcases turn i n σ3 H3 w3 with ⟨stop, qn⟩ | ⟨go, N, hN, step⟩
  · refine wpAny_passesOwn hp (thn (T.done X rfl rfl rfl hc i pins s3 σ3 H3 X.xe I3 (stat fr3) st3 stop) fun r s4 ⟨hr, I4⟩ => ?_)
    subst hr
    exact wpAny_execs_nil ⟨σ3, H3, I4, qn⟩
  · refine wpAny_passesOwn hp (thn (T.item X rfl rfl rfl hc i pins s3 σ3 H3 X.xe I3 (stat fr3) st3 go) fun r s4 ⟨u, hr, h4⟩ => ?_)
    subst hr
    refine wpAny_passesOwn hp (thn h4 fun _ s5 ⟨x, H5, I5, r5, y5, st5, fr5⟩ => ?_)
    have I5' := I5.pinned (stat fr5) (T.obj _ _ st5)
    refine wpAny_passesOwn hp (thn (hg _ s5 σ3 H5 x u _ I5' r5 (step x H5 y5)) fun _ s6 ⟨σ6, H6, I6, q6⟩ => ?_)
    refine wpAny_passesOwn hp (thn (hb _ s6 σ6 H6 _ I6 q6) fun f s7 q7 => ?_)
    have again : ∀ {σ7 : St} {H7 : Hp}, Inv X (pins ++ pinsAt fp s5.heap) σ7 H7 s7 → N σ7 H7 → ∃ m, m < n ∧ ∃ i σ' H', Inv X pins σ' H' s7 ∧ tn i s7.heap ∧ (∀ b ∈ fp, H' b = none) ∧ W i m σ' H' := fun {σ7 H7} I7 n7 => by
      obtain ⟨m', hm, w7⟩ := hN σ7 H7 n7
      refine ⟨m', hm, i + 1, σ7, H7, I7.unpinned, T.keep _ _ _ st5 fun b hb o e => (I7.pin (b, o) (List.mem_append_right _ (List.mem_append_right _ (mem_pinsAt hb e)))).1, fun b hb => ?_, w7⟩
      obtain ⟨o, e, d⟩ := T.obj _ _ st5 b hb
      exact (I7.pin (b, o) (List.mem_append_right _ (List.mem_append_right _ (mem_pinsAt hb e)))).2.1
    cases f with
    | next => obtain ⟨σ7, H7, I7, n7⟩ := q7; exact again I7 n7
    | cont => obtain ⟨σ7, H7, I7, n7⟩ := q7; exact again I7 n7
    | brk => obtain ⟨σ7, H7, I7, q7⟩ := q7; exact ⟨σ7, H7, I7.unpinned, q7⟩
    | ret v => obtain ⟨x7, σ7, H7, I7, r7, q7⟩ := q7; exact ⟨x7, σ7, H7, I7.unpinned, r7, q7⟩
end

theorem for_list {K : PySem.W.Frag} {a : Addr} {xs : List V} {g : TG} {tb : TS} {D : Ends} {σ : St} {H : Hp} (Pv : Nat → St → Hp → Prop) (h0 : Pv 0 σ H) (hl : ∀ i σ H, i ≤ xs.length → Pv i σ H → SqL K H a xs)
    (hs : ∀ i x σ H, xs[i]? = some x → Pv i σ H → g x σ H fun σ2 H2 => tb { D with nx := Pv (i + 1), ct := Pv (i + 1), bk := D.nx } σ2 H2) (hd : ∀ σ H, Pv xs.length σ H → D.nx σ H) :
    ∃ W : Nat → Nat → St → Hp → Prop, (∃ m, W 0 m σ H) ∧ ∀ i m σ H, W i m σ H →
      ((Itl K a).stop i H ∧ D.nx σ H) ∨ ((Itl K a).go i H ∧ ∃ N : St → Hp → Prop, (∀ σ' H', N σ' H' → ∃ m', m' < m ∧ W (i + 1) m' σ' H') ∧ ∀ x H', (Itl K a).yld i H x H' → g x σ H' fun σ2 H2 => tb { D with nx := N, ct := N, bk := D.nx } σ2 H2) := by
  refine ⟨fun i m σ H => m = xs.length - i ∧ i ≤ xs.length ∧ Pv i σ H, ⟨xs.length, by simp, Nat.zero_le _, h0⟩, ?_⟩
  rintro i m σ H ⟨rfl, hi, p⟩
  have q := hl i σ H hi p
  by_cases hlt : i < xs.length
  · refine .inr ⟨⟨xs, xs[i], q, by simp [hlt]⟩, Pv (i + 1), fun σ' H' p' => ⟨xs.length - (i + 1), by lia, rfl, hlt, p'⟩, fun x H' y => ?_⟩
    obtain ⟨e, y⟩ := y
    subst e
    exact hs i x σ _ (y xs q) p
  · have e : i = xs.length := by lia
    subst e
    exact .inl ⟨⟨xs, q, Nat.le_refl _⟩, hd σ H p⟩
theorem for_range {lo : Int} {n : Nat} {g : TG} {tb : TS} {D : Ends} {σ : St} {H : Hp} (Pv : Nat → St → Hp → Prop) (h0 : Pv 0 σ H)
    (hs : ∀ i σ H, i < n → Pv i σ H → g (.int (lo + i)) σ H fun σ2 H2 => tb { D with nx := Pv (i + 1), ct := Pv (i + 1), bk := D.nx } σ2 H2) (hd : ∀ σ H, Pv n σ H → D.nx σ H) :
    ∃ W : Nat → Nat → St → Hp → Prop, (∃ m, W 0 m σ H) ∧ ∀ i m σ H, W i m σ H →
      ((Itr lo n).stop i H ∧ D.nx σ H) ∨ ((Itr lo n).go i H ∧ ∃ N : St → Hp → Prop, (∀ σ' H', N σ' H' → ∃ m', m' < m ∧ W (i + 1) m' σ' H') ∧ ∀ x H', (Itr lo n).yld i H x H' → g x σ H' fun σ2 H2 => tb { D with nx := N, ct := N, bk := D.nx } σ2 H2) := by
  refine ⟨fun i m σ H => m = n - i ∧ i ≤ n ∧ Pv i σ H, ⟨n, by simp, Nat.zero_le _, h0⟩, ?_⟩
  rintro i m σ H ⟨rfl, hi, p⟩
  by_cases hlt : i < n
  · refine .inr ⟨hlt, Pv (i + 1), fun σ' H' p' => ⟨n - (i + 1), by lia, rfl, hlt, p'⟩, fun x H' y => ?_⟩
    obtain ⟨e, y⟩ := y
    subst e y
    exact hs i σ _ hlt p
  · have e : i = n := by lia
    subst e
    exact .inl ⟨Nat.le_refl _, hd σ H p⟩
theorem while_by {c : TT} {tb : TS} {D : Ends} {σ : St} {H : Hp} (Pv : St → Hp → Prop) (μ : St → Hp → Nat) (h0 : Pv σ H)
    (hs : ∀ σ H, Pv σ H → c σ H fun b H1 => if b = true then tb { D with nx := fun σ' H' => Pv σ' H' ∧ μ σ' H' < μ σ H, ct := fun σ' H' => Pv σ' H' ∧ μ σ' H' < μ σ H, bk := D.nx } σ H1 else D.nx σ H1)
    (mono : ∀ σ H Q Q', (∀ b H1, Q b H1 → Q' b H1) → c σ H Q → c σ H Q') : tWhile c tb D σ H := by
  refine ⟨fun m σ H => m = μ σ H ∧ Pv σ H, ⟨_, rfl, h0⟩, ?_⟩
  rintro m σ H ⟨rfl, p⟩
  refine mono σ H _ _ (fun b H1 q => ?_) (hs σ H p)
  cases b with
  | true => exact ⟨_, fun σ' H' ⟨p', l⟩ => ⟨_, l, rfl, p'⟩, q⟩
  | false => exact q
end L2

namespace L2
open PySem PySem.Spec PyProof.Rows

noncomputable abbrev R2 := V → V → Hp → VK → Prop
noncomputable def OpR (X : Cx) (f : Value → Value → Sem Value) (r : R2) : Prop :=
  ∀ (pins : List (Addr × Obj)) (s : Shared) (σ : St) (H : Hp) (x y : V) (v u : Value) (Q : VK), Inv X pins σ H s → RelV x v → RelV y u → r x y H Q →
    wpAny (model X.prog X.w) X.A (f v u) (EP X pins σ Q) X.xe s
noncomputable def UnR (X : Cx) (f : Value → Sem Value) (r : V → Hp → VK → Prop) : Prop :=
  ∀ (pins : List (Addr × Obj)) (s : Shared) (σ : St) (H : Hp) (x : V) (v : Value) (Q : VK), Inv X pins σ H s → RelV x v → r x H Q →
    wpAny (model X.prog X.w) X.A (f v) (EP X pins σ Q) X.xe s
noncomputable def CallR (X : Cx) (f : Value) (r : List V → Hp → VK → Prop) : Prop :=
  ∀ (pins : List (Addr × Obj)) (s : Shared) (σ : St) (H : Hp) (xs : List V) (us : List Value) (Q : VK), Inv X pins σ H s → Vals xs us → r xs H Q →
    wpAny (model X.prog X.w) X.A (call f us) (EP X pins σ Q) X.xe s

noncomputable def tOp (r : R2) (ta tb : TE) : TE := fun σ H Q => ta σ H fun x H1 => tb σ H1 fun y H2 => r x y H2 Q
noncomputable def tUn (r : V → Hp → VK → Prop) (ta : TE) : TE := fun σ H Q => ta σ H fun x H1 => r x H1 Q
noncomputable def rI (C : Int → Int → Prop) (g : Int → Int → V) : R2 := fun x y H Q => ∃ i j, x = .int i ∧ y = .int j ∧ C i j ∧ Q (g i j) H
noncomputable def rI0 (g : Int → Int → V) : R2 := fun x y H Q => ∃ i j, x = .int i ∧ y = .int j ∧ Q (g i j) H
noncomputable def rU (g : Int → V) : V → Hp → VK → Prop := fun x H Q => ∃ i, x = .int i ∧ Q (g i) H

section
variable {X : Cx} {a b c : Expr} {ta tb tc : TE} {pos : Pos}

theorem binT (ha : PE X a ta) (hb : PE X b tb) {pins : List (Addr × Obj)} {s : Shared} {σ : St} {H : Hp} {R : V → V → Hp → Prop} (I : Inv X pins σ H s)
    (h : ta σ H fun x H1 => tb σ H1 fun y H2 => R x y H2) {Q : Value → Shared → Prop} {f : Value → Value → Sem Value}
    (hf : ∀ v u s2 x y H2, Inv X pins σ H2 s2 → RelV x v → RelV y u → R x y H2 → wpAny (model X.prog X.w) X.A (f v u) Q X.xe s2) :
    wpAny (model X.prog X.w) X.A (eval a X.env) (fun v s₁ => wpAny (model X.prog X.w) X.A (eval b X.env) (fun u s₂ => wpAny (model X.prog X.w) X.A (f v u) Q X.xe s₂) X.xe s₁) X.xe s := by
  refine thn (ha pins s σ H _ I h) fun v s1 ⟨x, H1, I1, r1, q1⟩ => ?_
  refine thn (hb pins s1 σ H1 _ I1 q1) fun u s2 ⟨y, H2, I2, r2, q2⟩ => ?_
  exact hf v u s2 x y H2 I2 r1 r2 q2

theorem pe_op {op : Operator} {r : R2} (ho : OpR X (binaryOp op) r) (ha : PE X a ta) (hb : PE X b tb) : PE X (.BinOp a op b pos) (tOp r ta tb) := by
  intro pins s σ H Q I h
  exact wpAny_BinOp (binT ha hb I h fun v u s2 x y H2 I2 rx ry q => ho pins s2 σ H2 x y v u Q I2 rx ry q)
theorem pe_un {op : UnaryOp} {r : V → Hp → VK → Prop} (ho : UnR X (unaryOp op) r) (ha : PE X a ta) : PE X (.UnaryOp op a pos) (tUn r ta) := by
  intro pins s σ H Q I h
  exact UnaryOp_ (thn (ha pins s σ H _ I h) fun v s1 ⟨x, H1, I1, r1, q1⟩ => ho pins s1 σ H1 x v Q I1 r1 q1)

theorem opI {f : Value → Value → Sem Value} {C : Int → Int → Prop} {g : Int → Int → Int}
    (rule : ∀ (i j : Int) (t u : Tok) (s : Shared) (Q : Value → Shared → Prop) (E : Value → Shared → Prop), C i j → Q (.int (g i j) s.toks) { s with toks := s.toks + 1 } → wpAny (model X.prog X.w) X.A (f (.int i t) (.int j u)) Q E s) :
    OpR X f (rI C fun i j => .int (g i j)) := by
  intro pins s σ H x y v u Q I rx ry h
  obtain ⟨i, j, rfl, rfl, hc, q⟩ := h
  obtain ⟨t, rfl⟩ := rx
  obtain ⟨t', rfl⟩ := ry
  exact rule i j t t' s _ _ hc ⟨.int (g i j), H, I.tok _, ⟨_, rfl⟩, q⟩
theorem opI0 {f : Value → Value → Sem Value} {g : Int → Int → Int}
    (rule : ∀ (i j : Int) (t u : Tok) (s : Shared) (Q : Value → Shared → Prop) (E : Value → Shared → Prop), Q (.int (g i j) s.toks) { s with toks := s.toks + 1 } → wpAny (model X.prog X.w) X.A (f (.int i t) (.int j u)) Q E s) :
    OpR X f (rI0 fun i j => .int (g i j)) := by
  intro pins s σ H x y v u Q I rx ry h
  obtain ⟨i, j, rfl, rfl, q⟩ := h
  obtain ⟨t, rfl⟩ := rx
  obtain ⟨t', rfl⟩ := ry
  exact rule i j t t' s _ _ ⟨.int (g i j), H, I.tok _, ⟨_, rfl⟩, q⟩
theorem opB0 {f : Value → Value → Sem Value} {g : Int → Int → Bool}
    (rule : ∀ (i j : Int) (t u : Tok) (s : Shared) (Q : Value → Shared → Prop) (E : Value → Shared → Prop), Q (.bool (g i j)) s → wpAny (model X.prog X.w) X.A (f (.int i t) (.int j u)) Q E s) :
    OpR X f (rI0 fun i j => .bl (g i j)) := by
  intro pins s σ H x y v u Q I rx ry h
  obtain ⟨i, j, rfl, rfl, q⟩ := h
  obtain ⟨t, rfl⟩ := rx
  obtain ⟨t', rfl⟩ := ry
  exact rule i j t t' s _ _ ⟨.bl (g i j), H, I, rfl, q⟩

noncomputable def CDiv (i j : Int) : Prop := 0 < j ∧ j < 1073741824
noncomputable def CMul (i j : Int) : Prop := (-(2 ^ 64) < i ∧ i < 2 ^ 64) ∨ (-(2 ^ 64) < j ∧ j < 2 ^ 64)
theorem CMul.ok {i j : Int} (h : CMul i j) : IntMulOk i j := by
  rcases h with ⟨h1, h2⟩ | ⟨h1, h2⟩
  · exact .of_left (intBits_le_64 h1 h2)
  · exact .of_right (intBits_le_64 h1 h2)

theorem op_add : OpR X (binaryOp .Add) (rI0 fun i j => .int (i + j)) := opI0 fun _ _ _ _ _ _ _ q => add_int q
theorem op_sub : OpR X (binaryOp .Sub) (rI0 fun i j => .int (i - j)) := opI0 fun _ _ _ _ _ _ _ q => sub_int q
theorem op_mul : OpR X (binaryOp .Mult) (rI CMul fun i j => .int (i * j)) := opI fun _ _ _ _ _ _ _ hc q => mul_int q hc.ok
theorem op_fdiv : OpR X (binaryOp .FloorDiv) (rI CDiv fun i j => .int (i / j)) := opI fun i j _ _ _ _ _ hc q => by
  have h1 : (0 : Int) < j := hc.1
  have h2 : j < 1073741824 := hc.2
  exact floordiv_int (by lia) (by rw [Int.fdiv_eq_ediv_of_nonneg i (by lia)]; exact q) (.inl (PyProof.noPylong_small (by lia)))
theorem op_mod : OpR X (binaryOp .Mod) (rI (fun _ j => 0 < j) fun i j => .int (i % j)) := opI fun i j _ _ _ _ _ hc q => by
  have h1 : (0 : Int) < j := hc
  exact mod_int' (by lia) (by rw [Int.fmod_eq_emod_of_nonneg i (by lia)]; exact q)


theorem unI {f : Value → Sem Value} {g : Int → Int}
    (rule : ∀ (i : Int) (t : Tok) (s : Shared) (Q : Value → Shared → Prop) (E : Value → Shared → Prop), Q (.int (g i) s.toks) { s with toks := s.toks + 1 } → wpAny (model X.prog X.w) X.A (f (.int i t)) Q E s) :
    UnR X f (rU fun i => .int (g i)) := by
  intro pins s σ H x v Q I rx h
  obtain ⟨i, rfl, q⟩ := h
  obtain ⟨t, rfl⟩ := rx
  exact rule i t s _ _ ⟨.int (g i), H, I.tok _, ⟨_, rfl⟩, q⟩
theorem un_neg : UnR X (unaryOp .USub) (rU fun i => .int (-i)) := unI fun _ _ _ _ _ q => neg_int q

end

noncomputable def scal : V → V → Bool
  | .non, .non => true | .non, .int _ => true | .int _, .non => true | .non, .bl _ => true | .bl _, .non => true | .non, .str _ => true | .str _, .non => true
  | .int _, .int _ => true | .bl _, .bl _ => true | .str _, .str _ => true | .byt _, .byt _ => true
  | .int _, .str _ => true | .str _, .int _ => true | .bl _, .str _ => true | .str _, .bl _ => true
  | _, _ => false
noncomputable def rEq : R2 := fun x y H Q => scal x y = true ∧ Q (.bl (decide (x = y))) H
noncomputable def rNe : R2 := fun x y H Q => scal x y = true ∧ Q (.bl (!decide (x = y))) H

theorem dec_int {i j : Int} : decide (V.int i = V.int j) = (i == j) := by
  rw [Bool.eq_iff_iff]
  simp
theorem dec_bl {i j : Bool} : decide (V.bl i = V.bl j) = (i == j) := by
  rw [Bool.eq_iff_iff]
  simp
theorem dec_str {i j : Str} : decide (V.str i = V.str j) = (i == j) := by
  rw [Bool.eq_iff_iff]
  simp
theorem dec_byt {i j : Array UInt8} : decide (V.byt i = V.byt j) = (i.toList == j.toList) := by
  rw [Bool.eq_iff_iff]
  cases i
  cases j
  simp

section
variable {X : Cx} {a b c : Expr} {ta tb tc : TE} {pos : Pos}
theorem fin_bl {pins : List (Addr × Obj)} {σ : St} {H : Hp} {s : Shared} {Q : VK} {k k' : Bool} (I : Inv X pins σ H s) (q : Q (.bl k) H) (e : k = k') : EP X pins σ Q (.bool k') s := by
  subst e
  exact ⟨.bl k, H, I, rfl, q⟩
theorem op_eq : OpR X (compareOp .Eq) rEq := by
  intro pins s σ H x y v u Q I rx ry h
  obtain ⟨hs, q⟩ := h
  cases x with
  | non =>
    cases rx
    cases y with
    | non => cases ry; exact PySem.EqNone.eq_none_none (fin_bl I q (by simp))
    | bl j => cases ry; exact PySem.EqNone.eq_none_bool (fin_bl I q (by simp))
    | int j => obtain ⟨t', rfl⟩ := ry; exact PySem.EqNone.eq_none_int (fin_bl I q (by simp))
    | str j => obtain ⟨t', rfl⟩ := ry; exact PySem.EqNone.eq_none_str (fin_bl I q (by simp))
    | _ => exact absurd (show false = true from hs) Bool.false_ne_true
  | bl i =>
    cases rx
    cases y with
    | non => cases ry; exact PySem.EqNone.eq_bool_none (fin_bl I q (by simp))
    | bl j => cases ry; exact eq_bool (fin_bl I q dec_bl)
    | str j => obtain ⟨t', rfl⟩ := ry; exact PySem.EqMixed.eq_bool_str (fin_bl I q (by simp))
    | _ => exact absurd (show false = true from hs) Bool.false_ne_true
  | int i =>
    obtain ⟨t, rfl⟩ := rx
    cases y with
    | non => cases ry; exact PySem.EqNone.eq_int_none (fin_bl I q (by simp))
    | int j => obtain ⟨t', rfl⟩ := ry; exact eq_int (fin_bl I q dec_int)
    | str j => obtain ⟨t', rfl⟩ := ry; exact PySem.EqMixed.eq_int_str (fin_bl I q (by simp))
    | _ => exact absurd (show false = true from hs) Bool.false_ne_true
  | str i =>
    obtain ⟨t, rfl⟩ := rx
    cases y with
    | non => cases ry; exact PySem.EqNone.eq_str_none (fin_bl I q (by simp))
    | bl j => cases ry; exact PySem.EqMixed.eq_str_bool (fin_bl I q (by simp))
    | int j => obtain ⟨t', rfl⟩ := ry; exact PySem.EqMixed.eq_str_int (fin_bl I q (by simp))
    | str j => obtain ⟨t', rfl⟩ := ry; exact eq_str (fin_bl I q dec_str)
    | _ => exact absurd (show false = true from hs) Bool.false_ne_true
  | byt i =>
    obtain ⟨t, rfl⟩ := rx
    cases y with
    | byt j => obtain ⟨t', rfl⟩ := ry; exact PySem.W.eq_bytes (fin_bl I q dec_byt)
    | _ => exact absurd (show false = true from hs) Bool.false_ne_true
  | _ => cases y <;> exact absurd (show false = true from hs) Bool.false_ne_true
theorem op_ne : OpR X (compareOp .NotEq) rNe := by
  intro pins s σ H x y v u Q I rx ry h
  obtain ⟨hs, q⟩ := h
  cases x with
  | non =>
    cases rx
    cases y with
    | non => cases ry; exact PySem.EqNone.ne_none_none (fin_bl I q (by simp))
    | bl j => cases ry; exact PySem.EqNone.ne_none_bool (fin_bl I q (by simp))
    | int j => obtain ⟨t', rfl⟩ := ry; exact PySem.EqNone.ne_none_int (fin_bl I q (by simp))
    | str j => obtain ⟨t', rfl⟩ := ry; exact PySem.EqNone.ne_none_str (fin_bl I q (by simp))
    | _ => exact absurd (show false = true from hs) Bool.false_ne_true
  | bl i =>
    cases rx
    cases y with
    | non => cases ry; exact PySem.EqNone.ne_bool_none (fin_bl I q (by simp))
    | bl j => cases ry; exact ne_bool (fin_bl I q (congrArg not dec_bl))
    | str j => obtain ⟨t', rfl⟩ := ry; exact PySem.EqMixed.ne_bool_str (fin_bl I q (by simp))
    | _ => exact absurd (show false = true from hs) Bool.false_ne_true
  | int i =>
    obtain ⟨t, rfl⟩ := rx
    cases y with
    | non => cases ry; exact PySem.EqNone.ne_int_none (fin_bl I q (by simp))
    | int j => obtain ⟨t', rfl⟩ := ry; exact ne_int (fin_bl I q (congrArg not dec_int))
    | str j => obtain ⟨t', rfl⟩ := ry; exact PySem.EqMixed.ne_int_str (fin_bl I q (by simp))
    | _ => exact absurd (show false = true from hs) Bool.false_ne_true
  | str i =>
    obtain ⟨t, rfl⟩ := rx
    cases y with
    | non => cases ry; exact PySem.EqNone.ne_str_none (fin_bl I q (by simp))
    | bl j => cases ry; exact PySem.EqMixed.ne_str_bool (fin_bl I q (by simp))
    | int j => obtain ⟨t', rfl⟩ := ry; exact PySem.EqMixed.ne_str_int (fin_bl I q (by simp))
    | str j => obtain ⟨t', rfl⟩ := ry; exact ne_str (fin_bl I q (congrArg not dec_str))
    | _ => exact absurd (show false = true from hs) Bool.false_ne_true
  | byt i =>
    obtain ⟨t, rfl⟩ := rx
    cases y with
    | byt j => obtain ⟨t', rfl⟩ := ry; exact PySem.W.ne_bytes (fin_bl I q (congrArg not dec_byt))
    | _ => exact absurd (show false = true from hs) Bool.false_ne_true
  | _ => cases y <;> exact absurd (show false = true from hs) Bool.false_ne_true

theorem op_lt : OpR X (compareOp .Lt) (rI0 fun i j => .bl (decide (i < j))) := opB0 fun _ _ _ _ _ _ _ q => lt_int q
theorem op_le : OpR X (compareOp .LtE) (rI0 fun i j => .bl (decide (i ≤ j))) := opB0 fun _ _ _ _ _ _ _ q => le_int q
theorem op_gt : OpR X (compareOp .Gt) (rI0 fun i j => .bl (decide (j < i))) := opB0 fun _ _ _ _ _ _ _ q => gt_int q
theorem op_ge : OpR X (compareOp .GtE) (rI0 fun i j => .bl (decide (j ≤ i))) := opB0 fun _ _ _ _ _ _ _ q => ge_int q




theorem nomark (b : Expr) {op : CmpOp} (h : op ≠ .In := by decide) (h2 : op ≠ .NotIn := by decide) : behindInMarks op b = false := by
  have e1 : (op == CmpOp.In) = false := by cases op <;> first | rfl | exact absurd rfl h
  have e2 : (op == CmpOp.NotIn) = false := by cases op <;> first | rfl | exact absurd rfl h2
  cases b <;> simp [behindInMarks, e1, e2]
theorem pe_cmpR {op : CmpOp} {r : R2} (ho : OpR X (compareOp op) r) (ha : PE X a ta) (hb : PE X b tb) (hm : behindInMarks op b = false) : PE X (.Compare a [op] [b] pos) (tOp r ta tb) := by
  intro pins s σ H Q I h
  exact wpAny_Compare1 (binT ha hb I h fun v u s2 x y H2 I2 rx ry q => ho pins s2 σ H2 x y v u Q I2 rx ry q) hm
noncomputable def tTest (t : TE) : TT := fun σ H Q => t σ H fun x H' => ∃ k, x = .bl k ∧ Q k H'
theorem pt_cmpR {op : CmpOp} {r : R2} (ho : OpR X (compareOp op) r) (ha : PE X a ta) (hb : PE X b tb) (hm : behindInMarks op b = false) : PT X (.Compare a [op] [b] pos) (tTest (tOp r ta tb)) := by
  intro pins s σ H Q I h
  refine wpAny_isTrue_Compare1 (thn (ha pins s σ H _ I h) fun v s1 ⟨x, H1, I1, r1, q1⟩ => thn (hb pins s1 σ H1 _ I1 q1) fun u s2 ⟨y, H2, I2, r2, q2⟩ =>
    thn (ho pins s2 σ H2 x y v u _ I2 r1 r2 q2) fun c s3 ⟨z, H3, I3, r3, k, e, q3⟩ => ?_) hm
  subst e
  cases r3
  exact wpAny_truthy_bool ⟨H3, I3, q3⟩

theorem line63 : (sizeLine : Nat) < 2 ^ 63 := by rw [sizeLine_eq]; decide

theorem op_add_str : OpR X (binaryOp .Add) (fun x y H Q => ∃ i j, x = .str i ∧ y = .str j ∧ i.length + j.length ≤ sizeLine ∧ Q (.str (i ++ j)) H) := by
  intro pins s σ H x y v u Q I rx ry h
  obtain ⟨i, j, rfl, rfl, hz, q⟩ := h
  obtain ⟨t, rfl⟩ := rx
  obtain ⟨t', rfl⟩ := ry
  exact add_str (fun t' tk => ⟨.str (i ++ j), H, I.tok _, ⟨_, rfl⟩, q⟩) hz


theorem vals1 {x : V} {us : List Value} (r : Vals [x] us) : ∃ u, us = [u] ∧ RelV x u := by
  cases r with
  | cons r1 r2 => cases r2; exact ⟨_, rfl, r1⟩
theorem vals2 {x y : V} {us : List Value} (r : Vals [x, y] us) : ∃ u w', us = [u, w'] ∧ RelV x u ∧ RelV y w' := by
  cases r with
  | cons r1 r2 =>
    cases r2 with
    | cons r3 r4 => cases r4; exact ⟨_, _, rfl, r1, r3⟩
theorem call_abs : CallR X (.builtin "abs") (fun xs H Q => ∃ i, xs = [.int i] ∧ Q (.int (if i < 0 then -i else i)) H) := by
  intro pins s σ H xs us Q I r h
  obtain ⟨i, rfl, q⟩ := h
  obtain ⟨u, rfl, t, rfl⟩ := vals1 r
  exact call_abs_int fun u tk => ⟨.int (if i < 0 then -i else i), H, I.tok _, ⟨_, rfl⟩, q⟩
theorem call_max2 (hc : X.calm = true) : CallR X (.builtin "max") (fun xs H Q => ∃ i j, xs = [.int i, .int j] ∧ Q (.int (if j > i then j else i)) H) := by
  intro pins s σ H xs us Q I r h
  obtain ⟨i, j, rfl, q⟩ := h
  obtain ⟨u, w', rfl, ⟨t, rfl⟩, ⟨t', rfl⟩⟩ := vals2 r
  refine max_two_ints (I.ok.hd hc) fun h' tk k => ⟨_, H, I.kept k, ?_, q⟩
  by_cases hj : j > i
  · rw [if_pos hj, if_pos hj]; exact ⟨_, rfl⟩
  · rw [if_neg hj, if_neg hj]; exact ⟨_, rfl⟩
theorem call_min2 (hc : X.calm = true) : CallR X (.builtin "min") (fun xs H Q => ∃ i j, xs = [.int i, .int j] ∧ Q (.int (if j < i then j else i)) H) := by
  intro pins s σ H xs us Q I r h
  obtain ⟨i, j, rfl, q⟩ := h
  obtain ⟨u, w', rfl, ⟨t, rfl⟩, ⟨t', rfl⟩⟩ := vals2 r
  refine min_two_ints (I.ok.hd hc) fun h' tk k => ⟨_, H, I.kept k, ?_, q⟩
  by_cases hj : j < i
  · rw [if_pos hj, if_pos hj]; exact ⟨_, rfl⟩
  · rw [if_neg hj, if_neg hj]; exact ⟨_, rfl⟩
theorem call_str_int : CallR X (.type "str") (fun xs H Q => ∃ i, xs = [.int i] ∧ i.natAbs.log2 < 1920 ∧ Q (.str (toString i)) H) := by
  intro pins s σ H xs us Q I r h
  obtain ⟨i, rfl, hz, q⟩ := h
  obtain ⟨u, rfl, t, rfl⟩ := vals1 r
  exact PySem.P.str_of_int hz ⟨.str _, H, I.tok _, ⟨_, rfl⟩, q⟩
theorem call_ord : CallR X (.builtin "ord") (fun xs H Q => ∃ x, xs = [.str x] ∧ x.length = 1 ∧ Q (.int (x.cps.getD 0 0 : Nat)) H) := by
  intro pins s σ H xs us Q I r h
  obtain ⟨x, rfl, hz, q⟩ := h
  obtain ⟨u, rfl, t, rfl⟩ := vals1 r
  exact ord_of_one hz ⟨.int _, H, I.tok _, ⟨_, rfl⟩, q⟩
end
end L2

namespace L2
open PySem PySem.Spec PyProof.Rows




section
variable {prog : Program} {w : World} {A : Around} {E : Value → Shared → Prop} {s : Shared} {K : PySem.W.Frag} {x dx C f : Addr} {mA : Str → Option Value} {name : Str} {v : Value}





end



section
variable {P : Program} {w : World} {H H' : Hp} {h h' : Heap} {a C dx : Addr} {fs fs' : List (Str × V)}
end


section
variable {X : Cx} {pins : List (Addr × Obj)} {σ : St} {H : Hp} {s : Shared} {a C dx : Addr} {fs : List (Str × V)} {f : Str} {v : V} {A : Around} {E : Value → Shared → Prop}






end


section
variable {X : Cx} {o e value : Expr} {f : Str} {pos pos' tpos : Pos} {ta tv : TE}

end

section
variable {X : Cx} {pins : List (Addr × Obj)} {σ : St} {H : Hp} {s : Shared} {A : Around} {E : Value → Shared → Prop} {Q : Value → Shared → Prop} {c : Value} {b : Bool}
end
end L2

namespace L2
open PySem PySem.Spec PyProof.Rows

structure Room (k : Nat) (A : Around) : Prop where
  hd : A.handled = none
  dp : A.depth + 3 * k + 5 < recursionLimit
  un : A.units + 16 * k + 200 < cLine
theorem Room.mono {j k : Nat} {A : Around} (r : Room k A) (h : j ≤ k) : Room j A := ⟨r.hd, by have := r.dp; lia, by have := r.un; lia⟩
theorem Room.deeper {k : Nat} {A : Around} (r : Room (k + 1) A) (env : Env) : Room k (A.deeper env) :=
  ⟨r.hd, by have := r.dp; show A.depth + 1 + 3 * k + 5 < _; lia, by have := r.un; show A.units + 3 + 16 * k + 200 < _; lia⟩
theorem Room.depth {k : Nat} {A : Around} (r : Room k A) : A.depth < recursionLimit := by have := r.dp; lia

noncomputable def tNil : TA := fun _ H Q => Q [] H
noncomputable def tCons (ta : TE) (tr : TA) : TA := fun σ H Q => ta σ H fun x H1 => tr σ H1 fun xs H2 => Q (x :: xs) H2
section
variable {X : Cx} {e : Expr} {es : List Expr} {te : TE} {t : TA} {pos : Pos}
theorem pa_nil : PA X [] tNil := fun _ _ _ _ H Q I h => Calls.spliced_nil ⟨[], H, I, .nil, h⟩
theorem pa_cons (ha : PE X e te) (hr : PA X es t) (hs : starEach (e :: es) X.env = (false, eval e X.env) :: starEach es X.env := by rfl) : PA X (e :: es) (tCons te t) := by
  intro pos pins s σ H Q I h
  rw [hs]
  show wpAny _ _ (spliced ((false, eval e X.env) :: backTo pos (starEach es X.env))) _ _ s
  refine Calls.spliced_cons (thn (ha pins s σ H _ I h) fun u s1 ⟨x, H1, I1, r1, q1⟩ => ?_)
  exact thn (hr pos pins s1 σ H1 _ I1 q1) fun us s2 ⟨xs, H2, I2, r2, q2⟩ => ⟨x :: xs, H2, I2, .cons r1 r2, q2⟩

noncomputable def tLst (t : TA) : TE := fun σ H Q => t σ H fun xs H1 => xs.length ≤ sizeLine ∧ ∀ p, H1 p = none → Q (.ref p) (upd H1 p (.lst xs))
theorem pe_lst (h : PA X es t) : PE X (.List es pos) (tLst t) := by
  intro pins s σ H Q I hq
  refine wpAny_List_spliced (thn (h pos pins s σ H _ I hq) fun us s1 ⟨xs, H1, I1, r, z, q⟩ => ⟨by rw [← r.length]; exact z, ?_⟩)
  have hf : H1 s1.heap.objs.size = none := I1.hok.fresh (Nat.le_refl _)
  refine ⟨.ref s1.heap.objs.size, upd H1 s1.heap.objs.size (.lst xs), I1.laid (t' := s1.toks) (fun b u e => Heap.get?_push_of_some _ e) (Nat.le_refl _) ?_, rfl, q _ hf⟩
  exact ⟨z, us, 0, r, Heap.get?_push_size _ rfl⟩
end

noncomputable abbrev Sp := List V → Hp → VK → XK → Prop
noncomputable abbrev CXT := List Env → Hp → Shared → XK → Value → Shared → Prop

structure Env0 (P : Program) (w : World) (K : PySem.W.Frag) (mg : Str → Option Value) (base : Heap) (A : Around) (outer : List Env) (s : Shared) (H : Hp) : Prop where
  frames : A.frames = some outer
  mod : Mod K mg base
  bs : ∀ b o, base.get? b = some o → s.heap.get? b = some o ∧ H b = none
  bsz : base.objs.size ≤ s.heap.objs.size
  funs : s.heap.FunFrames base outer
  frf : ∀ b ∈ frs outer, H b = none
  hok : HOk P w H s.heap
  bare : AllBare s.gens
noncomputable def CE (outer : List Env) (P : Program) (w : World) (H : Hp) (s : Shared) (Q : VK) (u : Value) (s' : Shared) : Prop :=
  ∃ v H', s'.os = s.os ∧ AllBare s'.gens ∧ Un (frs outer) [] H H' s.heap s'.heap ∧ HOk P w H' s'.heap ∧ RelV v u ∧ Q v H'
noncomputable def CR (CX : CXT) (outer : List Env) (P : Program) (w : World) (H : Hp) (s : Shared) (Q : VK) (E : XK) (r : Result) (s' : Shared) : Prop :=
  match r with
  | .ok (.ret u) => CE outer P w H s Q u s'
  | .ok _ => False
  | .error e => CX outer H s E e s'
structure FnOk (P : Program) (w : World) (K : PySem.W.Frag) (mg : Str → Option Value) (base : Heap) (CX : CXT) (k : Nat) (f : Addr) (fd : FuncData) (ps : List Str) (sp : Sp) : Prop where
  len : ∀ vs H Q E, sp vs H Q E → vs.length = ps.length
  run : ∀ (A : Around) (outer : List Env) (s : Shared) (H : Hp) (args : Args) (us : List Value) (vs : List V) (Q : VK) (E : XK), Room k A → Env0 P w K mg base A outer s H → BindsTo s fd args (ps.zip us) → Vals vs us → sp vs H Q E →
    codeAny (model P w) A (.call (.ref f) args) (CR CX outer P w H s Q E) s


section
variable {X : Cx} {pins : List (Addr × Obj)} {σ : St} {H : Hp} {s s' : Shared}
theorem Inv.env0 (I : Inv X pins σ H s) : Env0 X.prog X.w X.K X.mg X.base X.A X.stack s H :=
  ⟨I.ok.frames, I.ok.mod, I.bs, Nat.le_trans I.ok.bsz I.sz, I.stack, I.stkFree, I.hok, I.bare⟩
theorem Inv.after {Q : VK} {u : Value} (I : Inv X pins σ H s) (h : CE X.stack X.prog X.w H s Q u s') : EP X pins σ Q u s' := by
  obtain ⟨v, H', os, bare, un, hok, r, q⟩ := h
  obtain ⟨hh, g, d, t, os'⟩ := s'
  obtain rfl : os' = s.os := os
  exact ⟨v, H', I.call (h' := hh) (g' := g) (d' := d) (t' := t) (ch := []) un hok bare (fun b z => absurd z (by simp)), r, q⟩
end

noncomputable def tCall (sp : Sp) (dvs : List V) (E : XK) (t : TA) : TE := fun σ H Q => t σ H fun vs H1 => sp (vs ++ dvs) H1 Q E

noncomputable def Binds (K : PySem.W.Frag) (fd : FuncData) (ps : List Str) (ds : List Value) : Prop :=
  ∀ (s : Shared) (us : List Value), K.In s.heap → (us ++ ds).length = ps.length → BindsTo s fd ⟨us, []⟩ (ps.zip (us ++ ds))
theorem Binds.all {K : PySem.W.Frag} {fd : FuncData} {ps : List Str} (h : ∀ us : List Value, us.length = ps.length → bindArgs fd ⟨us, []⟩ = pure (ps.zip us)) : Binds K fd ps [] := fun s us _ hl => by
  rw [List.append_nil] at hl ⊢
  exact .of_eq (h us hl)

noncomputable def Passes (CX : CXT) (X : Cx) (E : XK) : Prop := ∀ (pins : List (Addr × Obj)) (σ : St) (H : Hp) (s : Shared) (e : Value) (s' : Shared), Inv X pins σ H s → CX X.stack H s E e s' → X.xe e s'

section
variable {X : Cx} {CX : CXT} {k : Nat} {f C : Addr} {fd : FuncData} {ps : List Str} {sp : Sp} {dvs : List V} {ds : List Value} {E : XK} {x m : Str} {p pos apos : Pos} {e o : Expr} {es : List Expr} {ta : TE} {t : TA}

theorem run_fn {pins : List (Addr × Obj)} {σ : St} {H : Hp} {s : Shared} {Q : VK} {us : List Value} {vs : List V} (F : FnOk X.prog X.w X.K X.mg X.base CX k f fd ps sp) (hr : Room k X.A) (hb : Binds X.K fd ps ds) (hd : Vals dvs ds) (hx : Passes CX X E)
    (I : Inv X pins σ H s) (r : Vals vs us) (h : sp (vs ++ dvs) H Q E) : wpAny (model X.prog X.w) X.A (call (.ref f) us) (EP X pins σ Q) X.xe s := by
  have r2 : Vals (vs ++ dvs) (us ++ ds) := r.append hd
  have hl : (us ++ ds).length = ps.length := by rw [← r2.length]; exact F.len _ _ _ _ h
  refine wpAny_call (codeAny_mono (F.run X.A X.stack s H ⟨us, []⟩ (us ++ ds) (vs ++ dvs) Q E hr I.env0 (hb s us I.kIn hl) r2 h) fun r s' hq => ?_)
  cases r with
  | error e => exact hx pins σ H s e s' I hq
  | ok fl =>
    cases fl with
    | ret u => exact I.after hq
    | next => exact False.elim hq
    | brk => exact False.elim hq
    | cont => exact False.elim hq

theorem pe_call (F : FnOk X.prog X.w X.K X.mg X.base CX k f fd ps sp) (hr : Room k X.A) (hg : Gl X x) (hm : X.mg x = some (.ref f)) (hk : PySem.W.keepIn X.K (.ref f) = true) (hb : Binds X.K fd ps ds) (hd : Vals dvs ds) (hx : Passes CX X E)
    (ha : PA X (e :: es) t) (hdb : (x == ("__debug__" : Str)) = false := by decide) (he : starEach (e :: es) X.env = (false, eval e X.env) :: starEach es X.env := by rfl) (hpl : (backTo pos (starEach es X.env)).any (·.1) = false := by rfl) :
    PE X (.Call (.Name x p) (e :: es) [] pos) (tCall sp dvs E t) := by
  intro pins s σ H Q I h
  refine wpAny_Call_Name_kw (ld_glob I hg hm ?_ hdb)
  refine PySem.W.callWith_K (h₀ := X.base) I.ok.mod.kin hk (thn (ha pos pins s σ H _ I h) fun us s1 ⟨vs, H1, I1, r, q⟩ => ⟨I1.kIn, ?_⟩) he hpl
  exact run_fn F hr hb hd hx I1 r q



end

section
variable {X : Cx} {CX : CXT} {k : Nat} {f C : Addr} {fd : FuncData} {ps ks : List Str} {sp : Sp} {E : XK} {x m : Str} {p pos apos kpos : Pos} {e o : Expr} {es : List Expr} {kws : List Keyword} {te ta : TE} {t tk : TA} {nm : Option Str}

variable {g : List Value → List Value → List Value} {gV : List V → List V → List V}
end

structure FnScope (N P : List Str) (sc : Scope) : Prop where
  kind : sc.kind = .function
  co : sc.isCoroutine = false
  gen : sc.isGenerator = false
  nd : N.Nodup
  pre : N.take P.length = P
  par : ∀ x ∈ P, sc.names.lookup x = some .local ∨ sc.names.lookup x = some .cell
  nofree : ∀ y ∈ sc.names, y.2 ≠ .free

theorem bindL_out {kindOf : Str → Option NameKind} {x : Str} : ∀ {binds : List (Str × Value)} {m : Str → Option Value}, (∀ v, (x, v) ∉ binds) → bindL kindOf binds m x = m x
  | [], _, _ => rfl
  | (n, v) :: r, m, h => by
    unfold bindL
    rw [bindL_out fun w hw => h w (List.mem_cons_of_mem _ hw)]
    split
    · have : x ≠ n := by rintro rfl; exact h v List.mem_cons_self
      simp [this]
    · rfl
theorem bindC_out {kindOf : Str → Option NameKind} {x : Str} : ∀ {binds : List (Str × Value)} {m : Str → Option Value}, (∀ v, (x, v) ∉ binds) → bindC kindOf binds m x = m x
  | [], _, _ => rfl
  | (n, v) :: r, m, h => by
    unfold bindC
    rw [bindC_out fun w hw => h w (List.mem_cons_of_mem _ hw)]
    split
    · rfl
    · have : x ≠ n := by rintro rfl; exact h v List.mem_cons_self
      simp [this]
theorem bindL_get {kindOf : Str → Option NameKind} {x : Str} {v : Value} : ∀ {P : List Str} {vs : List Value} {i : Nat} {m : Str → Option Value}, P.Nodup → P[i]? = some x → vs[i]? = some v → kindOf x = some .local →
    bindL kindOf (P.zip vs) m x = some v
  | [], _, _, _, _, h, _, _ => by simp at h
  | _ :: _, [], _, _, _, _, h, _ => by simp at h
  | p :: P, w :: vs, 0, m, nd, h1, h2, hk => by
    simp at h1 h2; subst h1; subst h2
    show bindL kindOf ((p, w) :: P.zip vs) m p = _
    unfold bindL
    rw [bindL_out fun v hv => (List.nodup_cons.mp nd).1 (List.of_mem_zip hv).1, if_pos hk]
    simp
  | p :: P, w :: vs, i + 1, m, nd, h1, h2, hk => by
    show bindL kindOf ((p, w) :: P.zip vs) m x = _
    unfold bindL
    exact bindL_get (i := i) (List.nodup_cons.mp nd).2 (by simpa using h1) (by simpa using h2) hk
theorem bindC_get {kindOf : Str → Option NameKind} {x : Str} {v : Value} : ∀ {P : List Str} {vs : List Value} {i : Nat} {m : Str → Option Value}, P.Nodup → P[i]? = some x → vs[i]? = some v → kindOf x ≠ some .local →
    bindC kindOf (P.zip vs) m x = some v
  | [], _, _, _, _, h, _, _ => by simp at h
  | _ :: _, [], _, _, _, _, h, _ => by simp at h
  | p :: P, w :: vs, 0, m, nd, h1, h2, hk => by
    simp at h1 h2; subst h1; subst h2
    show bindC kindOf ((p, w) :: P.zip vs) m p = _
    unfold bindC
    rw [bindC_out fun v hv => (List.nodup_cons.mp nd).1 (List.of_mem_zip hv).1, if_neg hk]
    simp
  | p :: P, w :: vs, i + 1, m, nd, h1, h2, hk => by
    show bindC kindOf ((p, w) :: P.zip vs) m x = _
    unfold bindC
    exact bindC_get (i := i) (List.nodup_cons.mp nd).2 (by simpa using h1) (by simpa using h2) hk

noncomputable def start (N : List Str) (vs : List V) : St := vs.map some ++ List.replicate (N.length - vs.length) none

noncomputable def cxOf (CX : CXT) (P : Program) (w : World) (K : PySem.W.Frag) (mg : Str → Option Value) (base : Heap) (N : List Str) (qual : Str) (scope : Scope) (f : Addr) (cd : Value) (A : Around) (outer : List Env) (s : Shared) (H : Hp) (E : XK) : Cx where
  prog := P
  w := w
  K := K
  mg := mg
  base := base
  A := A.deeper (envOfC qual scope s.heap.objs.size f cd)
  N := N
  s_0 := s
  H_0 := H
  env := envOfC qual scope s.heap.objs.size f cd
  outer := outer
  stack := envOfC qual scope s.heap.objs.size f cd :: outer
  ex := []
  calm := true
  fn := fun _ => true
  pn := []
  xe := fun e s' => wpAny (model P w) (A.deeper (envOfC qual scope s.heap.objs.size f cd)) (leaving (envOfC qual scope s.heap.objs.size f cd) e) (fun _ s'' => CX outer H s E e s'') (fun e' s'' => CX outer H s E e' s'') s'

theorem cell_has {sc : Scope} {n : Nat} {x : Str} (h : sc.names.lookup x = some .cell) : ∃ c, (cellsFrom n sc.names []).lookup x = some c := by
  have q := PySem.W.cellsFrom_some sc.names n [] (.inl h)
  exact Option.isSome_iff_exists.mp q

theorem inv_start {CX : CXT} {P : Program} {w : World} {K : PySem.W.Frag} {mg : Str → Option Value} {base : Heap} {N ps : List Str} {qual : Str} {scope : Scope} {f : Addr} {cd : Value} {A : Around} {outer : List Env} {s s1 : Shared} {H : Hp} {E : XK} {us : List Value} {vs : List V}
    (S : FnScope N ps scope) (hd : A.handled = none) (e0 : Env0 P w K mg base A outer s H) (hl : vs.length = ps.length) (r : Vals vs us)
    (x : InCallC s s.heap.objs.size (bindL (envOfC qual scope s.heap.objs.size f cd).kindOf (ps.zip us) fun _ => none) (cellsFrom (s.heap.objs.size + 1) scope.names []) (bindC (envOfC qual scope s.heap.objs.size f cd).kindOf (ps.zip us) fun _ => none) s1) :
    Inv (cxOf CX P w K mg base N qual scope f cd A outer s H E) [] (start N vs) H s1 := by
  have hpl : ps.length ≤ N.length := by have := congrArg List.length S.pre; rw [List.length_take] at this; lia
  obtain ⟨h1, tk, rfl, hk⟩ := x.done
  have noA : ∀ b : Addr, b ∉ (cxOf CX P w K mg base N qual scope f cd A outer s H E).ex := fun b z => absurd (show b ∈ ([] : List Addr) from z) (by simp)
  refine ⟨⟨e0.mod, S.kind, rfl, rfl, Nat.le_refl _, fun y z c h1 h2 => ?_, fun y hy => ?_, fun y c _ h => ?_, fun _ => hd, Around.frames_deeper e0.frames, .inr ⟨rfl, rfl⟩, fun b z => absurd z (noA b), e0.bs, e0.bsz, fun b _ _ => noA b, fun b z => absurd z (noA b), e0.funs, e0.frf⟩,
    rfl, e0.bare, Un.kept hk, ⟨_, x.toInCall.ns, fun i y v h1 h2 h3 => ?_⟩, fun y c h => ⟨_, x.cell y c h⟩, e0.hok.fresh (Nat.le_refl _), fun y c h => ?_, fun p hp => absurd (show p ∈ ([] : List (Addr × Obj)) from hp) (by simp), e0.hok.kept hk, ?_⟩
  · exact name_of_addr x.apart (PySem.mem_of_lookup h1) (PySem.mem_of_lookup h2)
  · have hy : scope.names.lookup y = some .cell ∨ scope.names.lookup y = some .free := hy
    rcases hy with hy | hy
    · exact cell_has hy
    · exact absurd rfl (S.nofree _ (PySem.mem_of_lookup hy))
  · exact Nat.le_of_lt (x.above y c (PySem.mem_of_lookup h))
  · have hi : i < vs.length := by
      unfold start at h2
      by_cases hi : i < vs.length
      · exact hi
      · rw [List.getElem?_append_right (by simpa using hi)] at h2
        rw [List.getElem?_replicate] at h2
        split at h2 <;> cases h2
    have ha : vs[i]? = some v := by
      unfold start at h2
      rw [List.getElem?_append_left (by simpa using hi), List.getElem?_map] at h2
      cases e : vs[i]? with
      | none => rw [e] at h2; cases h2
      | some a => rw [e] at h2; cases h2; rfl
    obtain ⟨u, hu, rv⟩ := r.get ha
    have hp : ps[i]? = some y := by
      rw [← S.pre, List.getElem?_take_of_lt (by lia)]; exact h1
    have ndP : ps.Nodup := by rw [← S.pre]; exact S.nd.sublist (List.take_sublist _ _)
    refine ⟨u, rv, ?_⟩
    rcases S.par y (List.mem_of_getElem? hp) with k | k
    · exact .inl ⟨k, bindL_get ndP hp hu k⟩
    · obtain ⟨c, e⟩ := cell_has (n := s.heap.objs.size + 1) k
      refine .inr ⟨.inl k, c, e, ?_⟩
      have q := x.cell y c e
      rw [bindC_get ndP hp hu (by show scope.names.lookup y ≠ _; rw [k]; decide)] at q
      exact q
  · exact e0.hok.fresh (Nat.le_of_lt (x.above y c (PySem.mem_of_lookup h)))
  · unfold start
    show _ = N.length
    rw [List.length_append, List.length_map, List.length_replicate]
    lia

theorem fn_of {CX : CXT} {P : Program} {w : World} {K : PySem.W.Frag} {mg : Str → Option Value} {base : Heap} {k : Nat} {f : Addr} {name qual : Str} {params : Arguments} {body : List Stmt} {scope : Scope} {dV kV doc pm cdv ct oc : Value} {an od : Option Addr}
    {osl : Array (Option Value)} {N ps : List Str} {sp : Sp} (lk : K.lookup f = some ⟨oc, od, .func (PySem.W.fnOf name qual params body scope dV kV doc pm an cdv ct), osl⟩) (hcd : PySem.W.codeIn K cdv qual = true) (S : FnScope N ps scope)
    (len : ∀ vs H Q E, sp vs H Q E → vs.length = ps.length)
    (hbody : ∀ (A : Around) (outer : List Env) (s : Shared) (H : Hp) (vs : List V) (Q : VK) (E : XK), Room k (A.deeper (envOfC qual scope s.heap.objs.size f cdv)) → sp vs H Q E →
      ∃ t, PSs (cxOf CX P w K mg base N qual scope f cdv A outer s H E) body t ∧ t { nx := fun _ H' => Q .non H', rt := Q } (start N vs) H) :
    FnOk P w K mg base CX (k + 1) f (PySem.W.fnOf name qual params body scope dV kV doc pm an cdv ct) ps sp := by
  refine ⟨len, fun A outer s H args us vs Q E hr e0 hb r hsp => ?_⟩
  have hl := len _ _ _ _ hsp
  have KX : K.In s.heap := e0.mod.kin.keeps fun b o e => (e0.bs b o e).1
  have lim : s.heap.NoLimit := e0.mod.nolimit.keeps fun b o e => (e0.bs b o e).1
  have hkind : ∀ y ∈ ps.zip us, scope.names.lookup y.1 = some .local ∨ (scope.names.lookup y.1 = some .cell ∧ ((cellsFrom (s.heap.objs.size + 1) scope.names []).lookup y.1).isSome = true) := fun ⟨n, v⟩ hy => by
    rcases S.par n (List.of_mem_zip hy).1 with q | q
    · exact .inl q
    · exact .inr ⟨q, PySem.W.cellsFrom_some _ _ _ (.inl q)⟩
  refine codeAny_call_function hr.depth (KX _ _ lk) rfl S.co S.gen rfl (PySem.W.codeRec_of KX hcd) (hb _ _ _ _ ?_)
  refine wpAny_newFunctionEnv_cells S.kind hkind fun env he s1 x => ?_
  subst he
  refine ⟨lim.keeps x.toInCall.keep, codeAny_func ?_⟩
  obtain ⟨t, ht, hq⟩ := hbody A outer s H vs Q E (hr.deeper _) hsp
  have I : Inv (cxOf CX P w K mg base N qual scope f cdv A outer s H E) [] (start N vs) H s1 := inv_start S hr.hd e0 hl r x
  refine wpAny_mono (ht [] s1 (start N vs) H _ I hq) (fun fl s' hs => ?_) fun e s' hs => hs
  have fin : ∀ {σ' : St} {H' : Hp} {v : V} {u : Value}, Inv (cxOf CX P w K mg base N qual scope f cdv A outer s H E) [] σ' H' s' → RelV v u → Q v H' → CE outer P w H s Q u s' :=
    fun {σ' H' v u} J rv q => ⟨v, H', J.os, J.bare, J.base, J.hok, rv, q⟩
  cases fl with
  | ret u =>
    obtain ⟨v, σ', H', J, rv, q⟩ := hs
    exact fin J rv q
  | next =>
    obtain ⟨σ', H', J, q⟩ := hs
    exact fin (v := V.non) (u := Value.none) J rfl q
  | brk =>
    obtain ⟨_, _, _, q⟩ := hs
    exact False.elim q
  | cont =>
    obtain ⟨_, _, _, q⟩ := hs
    exact False.elim q
end L2

namespace L2
open PySem PySem.Spec PyProof.Rows
section
variable {X : Cx} {x : Str} {p pos : Pos} {e : Expr} {es : List Expr} {t : TA} {id T : String} {r : List V → Hp → VK → Prop}

noncomputable def tCB (r : List V → Hp → VK → Prop) (t : TA) : TE := fun σ H Q => t σ H fun vs H1 => r vs H1 Q
theorem pe_callB (hc : CallR X (.builtin id) r) (hg : Gl X x) (hm : X.mg x = none) (hv : bootBuiltins x = some (.builtin id)) (ha : PA X (e :: es) t) (hn : x ≠ "__name__" := by decide) (hdb : (x == ("__debug__" : Str)) = false := by decide)
    (he : starEach (e :: es) X.env = (false, eval e X.env) :: starEach es X.env := by rfl) (hpl : (backTo pos (starEach es X.env)).any (·.1) = false := by rfl) : PE X (.Call (.Name x p) (e :: es) [] pos) (tCB r t) := by
  intro pins s σ H Q I h
  refine wpAny_Call_Name_kw (ld_blt I hg hm hv ?_ hn hdb)
  exact PyProof.Rows.callWith_builtin1 (thn (ha pos pins s σ H _ I h) fun us s1 ⟨vs, H1, I1, r1, q1⟩ => hc pins s1 σ H1 vs us Q I1 r1 q1) he hpl
theorem pe_callTy (hc : CallR X (.type T) r) (hg : Gl X x) (hm : X.mg x = none) (hv : bootBuiltins x = some (.type T)) (ha : PA X (e :: es) t) (hn : x ≠ "__name__" := by decide) (hdb : (x == ("__debug__" : Str)) = false := by decide)
    (he : starEach (e :: es) X.env = (false, eval e X.env) :: starEach es X.env := by rfl) (hpl : (backTo pos (starEach es X.env)).any (·.1) = false := by rfl) : PE X (.Call (.Name x p) (e :: es) [] pos) (tCB r t) := by
  intro pins s σ H Q I h
  refine wpAny_Call_Name_kw (ld_blt I hg hm hv ?_ hn hdb)
  exact PyProof.Rows.callWith_type1 (thn (ha pos pins s σ H _ I h) fun us s1 ⟨vs, H1, I1, r1, q1⟩ => hc pins s1 σ H1 vs us Q I1 r1 q1) he hpl
end
end L2

namespace HT
open PySem PyProof.Rows



section
open PySem.SeqAt
open PySem.AutoSeq1 (wpAny_loadPart')
open PySem.MeetsSeq PySem.MeetsSeq2 PySem.MeetsSeq3

end

section
variable {prog : Program} {w : World} {A : Around} {E : Value → Shared → Prop} {s : Shared}



noncomputable def sIx (n d : Nat) : Option Int → Nat
  | none => d
  | some v => if v < 0 then (v + (n : Int)).toNat else min v.toNat n
theorem sIx_none (n d : Nat) : sIx n d none = d := rfl
theorem sIx_le (n d : Nat) (hd : d ≤ n) (o : Option Int) : sIx n d o ≤ n := by
  cases o with
  | none => exact hd
  | some v =>
    show (if v < 0 then (v + (n : Int)).toNat else min v.toNat n) ≤ n
    by_cases hv : v < 0
    · rw [if_pos hv]; lia
    · rw [if_neg hv]; exact Nat.min_le_right _ _

end
end HT

namespace L2
open PySem PySem.Spec PyProof.Rows

noncomputable abbrev TO := St → Hp → (Option Int → Hp → Prop) → Prop
noncomputable def PO (X : Cx) (e : Option Expr) (t : TO) : Prop :=
  ∀ (pins : List (Addr × Obj)) (s : Shared) (σ : St) (H : Hp) (Q : Option Int → Hp → Prop), Inv X pins σ H s → t σ H Q →
    wpAny (model X.prog X.w) X.A (evalPart e X.env) (fun u s' => ∃ o H', Inv X pins σ H' s' ∧ IsPart u o ∧ Q o H') X.xe s
noncomputable def tNoPart : TO := fun _ H Q => Q none H
noncomputable def tPart (t : TE) : TO := fun σ H Q => t σ H fun x H1 => ∃ i, x = .int i ∧ Q (some i) H1


section
variable {X : Cx} {e : Expr} {te : TE} {lo hi : Option Expr} {tl th : TO} {pos p2 : Pos}

theorem po_none : PO X none tNoPart := by
  intro pins s σ H Q I h
  rw [evalPart_none]
  exact wpAny_pure ⟨none, H, I, .none, h⟩
theorem po_some (h : PE X e te) : PO X (some e) (tPart te) := by
  intro pins s σ H Q I hw
  rw [evalPart_some]
  refine thn (h pins s σ H _ I hw) fun u s1 ⟨x, H1, I1, r1, q1⟩ => ?_
  obtain ⟨i, rfl, q⟩ := q1
  obtain ⟨t, rfl⟩ := r1
  exact ⟨some i, H1, I1, .int i t, q⟩

noncomputable def SlR (X : Cx) (r : V → Option Int → Option Int → Hp → VK → Prop) : Prop :=
  ∀ (pins : List (Addr × Obj)) (s : Shared) (σ : St) (H : Hp) (x : V) (v vl vu : Value) (lo hi : Option Int) (sl : Addr) (Q : VK), Inv X pins σ H s → RelV x v → s.heap.IsSliceOf sl vl vu .none → IsPart vl lo → IsPart vu hi → r x lo hi H Q →
    ∃ T id, typeLookup (.type T) "__getitem__" = pure (some (.builtin id)) ∧ s.TypeIs v T ∧ wpAny (model X.prog X.w) X.A (getItem v (.ref sl)) (EP X pins σ Q) X.xe s
noncomputable def tSl (r : V → Option Int → Option Int → Hp → VK → Prop) (te : TE) (tl th : TO) : TE := fun σ H Q => te σ H fun x H1 => tl σ H1 fun l H2 => th σ H2 fun u H3 => r x l u H3 Q
theorem pe_slice {r : V → Option Int → Option Int → Hp → VK → Prop} (hr : SlR X r) (he : PE X e te) (hl : PO X lo tl) (hu : PO X hi th) : PE X (.Subscript e (.Slice lo hi none p2) pos) (tSl r te tl th) := by
  intro pins s σ H Q I h
  refine Subscript_ (thn (he pins s σ H _ I h) fun v s1 ⟨x, H1, I1, r1, q1⟩ => ?_)
  refine wpAny_Slice (thn (hl pins s1 σ H1 _ I1 q1) fun vl s2 ⟨l, H2, I2, pl, q2⟩ => thn (hu pins s2 σ H2 _ I2 q2) fun vu s3 ⟨u, H3, I3, pu, q3⟩ => ?_)
  rw [evalPart_none]
  refine wpAny_pure ?_
  have I4 : Inv X pins σ H3 { s3 with heap := s3.heap.push { cls := .type "slice", data := .fields #[vl, vu, .none] } } := I3.kept (t' := s3.toks) fun b ob q => Heap.get?_push_of_some _ q
  obtain ⟨T, id, hT, ht, hg⟩ := hr pins { s3 with heap := s3.heap.push { cls := .type "slice", data := .fields #[vl, vu, .none] } } σ H3 x v vl vu l u s3.heap.objs.size Q I4 r1 (Heap.IsSliceOf.new ..) pl pu q3
  show wpAny (model X.prog X.w) X.A (subscriptTail e (.Slice lo hi none p2) v (.ref s3.heap.objs.size)) (EP X pins σ Q) X.xe { s3 with heap := s3.heap.push { cls := .type "slice", data := .fields #[vl, vu, .none] } }
  exact tail_any (ops := [.ref s3.heap.objs.size, v]) ht hT hg (by with_unfolding_all rfl)

noncomputable def cutV (xs : List V) (lo hi : Option Int) : List V := (xs.drop (HT.sIx xs.length 0 lo)).take (HT.sIx xs.length xs.length hi - HT.sIx xs.length 0 lo)
theorem cutV_length (xs : List V) (lo hi : Option Int) : (cutV xs lo hi).length ≤ xs.length := by
  unfold cutV
  rw [List.length_take, List.length_drop]
  lia

end
end L2

namespace L2
open PySem PySem.Spec PyProof.Rows

noncomputable def ixN (n : Nat) (i : Int) : Option Nat := if 0 ≤ i then (if i < n then some i.toNat else none) else if -(n : Int) ≤ i then some (i + n).toNat else none
noncomputable def atI {α : Type} (xs : List α) (i : Int) : Option α := (ixN xs.length i).bind fun j => xs[j]?
theorem ixN_seq {n : Nat} {i : Int} {j : Nat} (h : ixN n i = some j) : seqIndex? i n = some j ∧ j < n ∧ -(n : Int) ≤ i ∧ i < n := by
  unfold ixN at h
  by_cases h0 : 0 ≤ i
  · rw [if_pos h0] at h
    by_cases h1 : i < n
    · rw [if_pos h1] at h
      have e : i.toNat = j := Option.some.inj h
      exact ⟨by rw [seqIndex_of h0 h1, e], by lia, by lia, h1⟩
    · rw [if_neg h1] at h; cases h
  · rw [if_neg h0] at h
    by_cases h1 : -(n : Int) ≤ i
    · rw [if_pos h1] at h
      have e : (i + n).toNat = j := Option.some.inj h
      exact ⟨by rw [seqIndex_neg (by lia) h1, e], by lia, h1, by lia⟩
    · rw [if_neg h1] at h; cases h
theorem atI_get {α : Type} {xs : List α} {i : Int} {v : α} (h : atI xs i = some v) : ∃ j, seqIndex? i xs.length = some j ∧ xs[j]? = some v ∧ j < xs.length ∧ -(xs.length : Int) ≤ i ∧ i < xs.length := by
  unfold atI at h
  cases e : ixN xs.length i with
  | none => rw [e] at h; cases h
  | some j =>
    rw [e] at h
    obtain ⟨h1, h2, h3, h4⟩ := ixN_seq e
    exact ⟨j, h1, h, h2, h3, h4⟩
theorem atI_nat {α : Type} {xs : List α} {j : Nat} {v : α} (h : xs[j]? = some v) : atI xs (j : Int) = some v := by
  have hj : j < xs.length := (List.getElem?_eq_some_iff.mp h).1
  have e : ixN xs.length (j : Int) = some j := by
    unfold ixN
    rw [if_pos (by lia), if_pos (by lia)]; simp
  unfold atI; rw [e]; exact h
theorem atI_last {α : Type} (xs : List α) (v : α) : atI (xs ++ [v]) (-1) = some v := by
  have hl : (xs ++ [v]).length = xs.length + 1 := by simp
  have e : ixN (xs ++ [v]).length (-1) = some xs.length := by
    unfold ixN
    rw [hl, if_neg (by decide), if_pos (by lia)]
    congr 1
    lia
  unfold atI
  rw [e]
  show (xs ++ [v])[xs.length]? = some v
  simp

noncomputable def PlainIx (b : Expr) : Prop := ∀ o i, subscripted b false o i = operate [o, i] (getItem o i)
noncomputable def IxR (X : Cx) (r : R2) : Prop :=
  ∀ (value slice : Expr) (pins : List (Addr × Obj)) (s : Shared) (σ : St) (H : Hp) (x y : V) (v u : Value) (Q : VK), Inv X pins σ H s → RelV x v → RelV y u → r x y H Q →
    subscripted slice false v u = operate [v, u] (getItem v u) → wpAny (model X.prog X.w) X.A (subscriptTail value slice v u) (EP X pins σ Q) X.xe s
noncomputable def MtR (X : Cx) (id : String) (r : V → List V → Hp → VK → Prop) : Prop :=
  ∀ (pins : List (Addr × Obj)) (s : Shared) (σ : St) (H : Hp) (x : V) (xs : List V) (v : Value) (us : List Value) (Q : VK), Inv X pins σ H s → RelV x v → Vals xs us → r x xs H Q →
    wpAny (model X.prog X.w) X.A (call (.builtin id) (v :: us)) (EP X pins σ Q) X.xe s
section
variable {X : Cx} {a b : Expr} {ta tb : TE} {pos : Pos}
theorem pe_ix {r : R2} (hr : IxR X r) (ha : PE X a ta) (hb : PE X b tb) (hs : PlainIx b) : PE X (.Subscript a b pos) (tOp r ta tb) := by
  intro pins s σ H Q I h
  exact Subscript_ (binT ha hb I h fun v u s2 x y H2 I2 rx ry q => hr a b pins s2 σ H2 x y v u Q I2 rx ry q (hs _ _))

noncomputable def rIxL (K : PySem.W.Frag) : R2 := fun x y H Q => ∃ p xs i v, x = .ref p ∧ y = .int i ∧ SqL K H p xs ∧ atI xs i = some v ∧ Q v H
theorem ix_list : IxR X (rIxL X.K) := by
  intro value slice pins s σ H x y v u Q I rx ry h hs
  obtain ⟨p, xs, i, z, rfl, rfl, hq, he, q⟩ := h
  cases rx
  obtain ⟨t, rfl⟩ := ry
  obtain ⟨its, r, pl, hz⟩ := I.list hq
  obtain ⟨j, h1, h2, h3, h4, h5⟩ := atI_get he
  obtain ⟨w, ew, rw'⟩ := r.get h2
  have hl := r.length
  have hn := line63
  have fin : EP X pins σ Q w s := ⟨z, H, I, rw', q⟩
  by_cases h0 : 0 ≤ i
  · have hj : i.toNat = j := by
      rw [seqIndex_of h0 h5] at h1
      exact Option.some.inj h1
    exact item_listR pl.isList h0 (by lia) (by rw [hj]; simpa using ew) fin hs
  · have hj : (i + (its.toArray.size : Int)).toNat = j := by
      rw [seqIndex_neg (by lia) h4] at h1
      rw [List.size_toArray, ← hl]
      exact Option.some.inj h1
    exact subscriptTail_builtinR (x := w) pl.isList.typeIs slot_list_getitem.lookup
      (wpAny_getItem_list_neg (Q := fun r s' => r = w ∧ EP X pins σ Q r s') pl.isList (by lia) (by rw [List.size_toArray] <;> lia) (by lia) (by rw [hj]; simpa using ew) ⟨rfl, fin⟩) hs

theorem mapSeq_set (its : List Value) (n j : Nat) (u : Value) : Obj.mapSeq (·.setIfInBounds j u) { cls := .type "list", data := .seq its.toArray n } = { cls := .type "list", data := .seq (its.set j u).toArray n } := by
  simp [Obj.mapSeq]
theorem Inv.lst {pins : List (Addr × Obj)} {σ : St} {H : Hp} {s : Shared} {p : Addr} {xs : List V} (I : Inv X pins σ H s) (h : H p = some (.lst xs)) :
    ∃ (its : List Value) (n : Nat), Vals xs its ∧ s.heap.get? p = some { cls := .type "list", data := .seq its.toArray n } ∧ xs.length ≤ sizeLine := by
  obtain ⟨z, its, n, r, e⟩ := I.hok p _ h
  exact ⟨its, n, r, e, z⟩
theorem Inv.lstUpd {pins : List (Addr × Obj)} {σ : St} {H : Hp} {s : Shared} {p : Addr} {xs ys : List V} {its its' : List Value} {n n' : Nat} {f : Obj → Obj} (I : Inv X pins σ H s) (h : H p = some (.lst xs))
    (ho : s.heap.get? p = some { cls := .type "list", data := .seq its.toArray n }) (hf : f { cls := .type "list", data := .seq its.toArray n } = { cls := .type "list", data := .seq its'.toArray n' }) (r : Vals ys its') (hz : ys.length ≤ sizeLine) (t : Nat) :
    Inv X pins σ (upd H p (.lst ys)) { s with heap := s.heap.update p f, toks := t } := by
  have e : (s.heap.update p f).get? p = some { cls := .type "list", data := .seq its'.toArray n' } := by
    rw [Heap.get?_update_self f ho (by rw [hf] <;> rfl), hf]
  refine I.write (x := p) (e := p) (by rw [h]; trivial) (.inl rfl) (fun b u hb q => (Heap.get?_update_other _ _ (Ne.symm hb)).trans q) ⟨_, e⟩ ?_
  exact ⟨hz, its', n', r, e⟩
noncomputable def rSetL : V → V → V → Hp → (Hp → Prop) → Prop := fun o i v H Q => ∃ p xs k j, o = .ref p ∧ i = .int k ∧ H p = some (.lst xs) ∧ ixN xs.length k = some j ∧ Q (upd H p (.lst (xs.set j v)))
theorem set_list : PSet X rSetL := by
  intro pins s σ H o i v ov iv u Q I ro ri rv h
  obtain ⟨p, xs, k, j, rfl, rfl, hp, hj, q⟩ := h
  cases ro
  obtain ⟨t, rfl⟩ := ri
  obtain ⟨its, n, r, ho, hz⟩ := I.lst hp
  obtain ⟨h1, h2, h3, h4⟩ := ixN_seq hj
  have hl := r.length
  have hn := line63
  have I' : Inv X pins σ (upd H p (.lst (xs.set j v))) { s with heap := s.heap.update p (Obj.mapSeq (·.setIfInBounds j u)) } :=
    I.lstUpd hp ho (mapSeq_set its n j u) (r.set rv j) (by rw [List.length_set]; exact hz) s.toks
  by_cases h0 : 0 ≤ k
  · have hk : k.toNat = j := by
      rw [seqIndex_of h0 h4] at h1
      exact Option.some.inj h1
    exact PySem.W.ki_setAt ho h0 (by lia) (by rw [List.size_toArray, ← hl]; exact h4) (by rw [hk]; exact ⟨_, I', q⟩)
  · have hk : (k + (its.toArray.size : Int)).toNat = j := by
      rw [seqIndex_neg (by lia) h3] at h1
      rw [List.size_toArray, ← hl]
      exact Option.some.inj h1
    exact PySem.W.ki_setBack ho (by lia) (by rw [List.size_toArray, ← hl]; exact h3) (by lia) (by rw [hk]; exact ⟨_, I', q⟩)

theorem slice_bounds (lo hi : Option Int) (n : Nat) : (sliceBounds lo hi none n).1 = ((HT.sIx n 0 lo : Nat) : Int) ∧ (sliceBounds lo hi none n).2.1 = ((HT.sIx n n hi : Nat) : Int) ∧ (sliceBounds lo hi none n).2.2 = 1 := by
  refine ⟨?_, ?_, rfl⟩
  · cases lo with
    | none => simp [sliceBounds, HT.sIx]
    | some i =>
      simp only [sliceBounds, HT.sIx, Option.getD_none, show (1 : Int) > 0 by decide, if_true]
      by_cases h : i < 0
      · simp only [h, if_true] <;> lia
      · simp only [h, if_false] <;> lia
  · cases hi with
    | none => simp [sliceBounds, HT.sIx]
    | some i =>
      simp only [sliceBounds, HT.sIx, Option.getD_none, show (1 : Int) > 0 by decide, if_true]
      by_cases h : i < 0
      · simp only [h, if_true] <;> lia
      · simp only [h, if_false] <;> lia
theorem slicePick_cut (its : List Value) (lo hi : Option Int) : slicePick its.toArray lo hi none = ((its.drop (HT.sIx its.length 0 lo)).take (HT.sIx its.length its.length hi - HT.sIx its.length 0 lo)).toArray := by
  obtain ⟨h1, h2, h3⟩ := slice_bounds lo hi its.toArray.size
  unfold slicePick
  rw [h1, h2, h3]
  simp only [sliceRange_one, pick_run, List.size_toArray] <;> rfl
noncomputable def rSlL (K : PySem.W.Frag) : V → Option Int → Option Int → Hp → VK → Prop := fun x lo hi H Q => ∃ a xs, x = .ref a ∧ SqL K H a xs ∧ ∀ p, H p = none → Q (.ref p) (upd H p (.lst (cutV xs lo hi)))
theorem sl_list : SlR X (rSlL X.K) := by
  intro pins s σ H x v vl vu lo hi sl Q I rx hs pl pu h
  obtain ⟨a, xs, rfl, hx, q⟩ := h
  cases rx
  obtain ⟨its, r, ht, hz⟩ := I.list hx
  have hlen := r.length
  refine ⟨"list", _, slot_list_getitem.lookup, ht.isList.typeIs, ?_⟩
  refine wpAny_getItem_list_slice ht.isList hs pl pu .none (by simp) ?_ (by rw [List.size_toArray] <;> lia)
  rw [slicePick_cut, ← hlen]
  refine ⟨.ref s.heap.objs.size, _, I.laid (t' := s.toks) (o := .lst (cutV xs lo hi)) (fun b ob q => Heap.get?_push_of_some _ q) (Nat.le_refl _) ?_, rfl, q _ (I.hok.fresh (Nat.le_refl _))⟩
  exact ⟨Nat.le_trans (cutV_length xs lo hi) hz, _, 0, (r.drop (HT.sIx xs.length 0 lo)).take (HT.sIx xs.length xs.length hi - HT.sIx xs.length 0 lo), Heap.get?_push_size _ rfl⟩


theorem call_len_seq : CallR X (.builtin "len") (fun xs H Q => ∃ p ys, xs = [.ref p] ∧ (SqL X.K H p ys ∨ SqT X.K H p ys) ∧ Q (.int ys.length) H) := by
  intro pins s σ H xs us Q I r h
  obtain ⟨p, ys, rfl, hq, q⟩ := h
  obtain ⟨u, rfl, rx⟩ := vals1 r
  cases rx
  have hn := line63
  rcases hq with hq | hq
  · obtain ⟨its, r', pl, hz⟩ := I.list hq
    have hlen := r'.length
    exact Calls.call_len_list pl.isList (by simp only [List.size_toArray] <;> lia) ⟨.int ys.length, H, I.tok _, ⟨s.toks + 1, by rw [List.size_toArray, hlen]⟩, q⟩
  · obtain ⟨its, r', pl, hz⟩ := I.tuple hq
    have hlen := r'.length
    exact len_tuple pl (by simp only [List.size_toArray] <;> lia) ⟨.int ys.length, H, I.tok _, ⟨s.toks + 1, by rw [List.size_toArray, hlen]⟩, q⟩
theorem call_list_of : CallR X (.type "list") (fun xs H Q => ∃ p ys, xs = [.ref p] ∧ (SqL X.K H p ys ∨ SqT X.K H p ys) ∧ ∀ l, H l = none → Q (.ref l) (upd H l (.lst ys))) := by
  intro pins s σ H xs us Q I r h
  obtain ⟨p, ys, rfl, hq, q⟩ := h
  obtain ⟨u, rfl, rx⟩ := vals1 r
  cases rx
  have fin : ∀ (its : List Value), Vals ys its → ys.length ≤ sizeLine → ∀ (h' : Heap) (c' : Nat), (∀ b o', s.heap.get? b = some o' → h'.get? b = some o') →
      h'.get? s.heap.objs.size = some { cls := .type "list", dict := none, data := .seq its.toArray c', slots := #[] } → EP X pins σ Q (.ref s.heap.objs.size) { s with heap := h' } := fun its r' hz h' c' kp e =>
    ⟨.ref s.heap.objs.size, _, I.laid (t' := s.toks) kp (Nat.le_refl _) (show ObjOk X.prog X.w _ h' _ (.lst ys) from ⟨hz, its, c', r', e⟩), rfl, q _ (I.hok.fresh (Nat.le_refl _))⟩
  rcases hq with hq | hq
  · obtain ⟨its, r', pl, hz⟩ := I.list hq
    have hlen := r'.length
    obtain ⟨o, ho, hc, n, hd⟩ := pl.isList
    exact call_list_seq p (.inl rfl) ho hc hd (fun h' c' kp e => fin its r' hz h' c' kp e) (by simp only [List.size_toArray] <;> lia)
  · obtain ⟨its, r', pl, hz⟩ := I.tuple hq
    have hlen := r'.length
    obtain ⟨o, ho, hc, n, hd⟩ := pl
    exact call_list_seq p (.inr rfl) ho hc hd (fun h' c' kp e => fin its r' hz h' c' kp e) (by simp only [List.size_toArray] <;> lia)

noncomputable def tyV (K : PySem.W.Frag) (T : String) (x : V) (H : Hp) : Prop := match x with
  | .str _ => T = "str"
  | .int _ => T = "int"
  | .ref p => (T = "list" ∧ ∃ xs, SqL K H p xs) ∨ (T = "tuple" ∧ ∃ o, K.lookup p = some o ∧ o.cls = .type "tuple" ∧ o.dict = none) ∨
      (T = "dict" ∧ ((∃ kvs, H p = some (.dK kvs)) ∨ ∃ kvs, H p = some (.dT kvs))) ∨ (T = "set" ∧ ∃ S n, H p = some (.set S n))
  | _ => False
theorem tyV_is {pins : List (Addr × Obj)} {σ : St} {H : Hp} {s : Shared} {T : String} {x : V} {v : Value} (I : Inv X pins σ H s) (r : RelV x v) (ty : tyV X.K T x H) :
    s.TypeIs v T ∧ ∀ a, v = .ref a → ∃ ob, s.heap.get? a = some ob ∧ ob.dict = none := by
  cases x with
  | str z =>
    obtain ⟨t, rfl⟩ := r
    cases (show T = "str" from ty)
    exact ⟨typeIs_str s z t, fun _ e => nomatch e⟩
  | int i =>
    obtain ⟨t, rfl⟩ := r
    cases (show T = "int" from ty)
    exact ⟨typeIs_int s i t, fun _ e => nomatch e⟩
  | ref p =>
    cases r
    rcases ty with ⟨rfl, xs, hq⟩ | ⟨rfl, o, hk, hc, hd⟩ | ⟨rfl, hk⟩ | ⟨rfl, S, n, hk⟩
    · obtain ⟨its, _, pl, _⟩ := I.list hq
      refine ⟨pl.isList.typeIs, fun a e => ?_⟩
      cases e
      obtain ⟨o, n, e, c, hd, _⟩ := pl
      exact ⟨o, e, hd⟩
    · refine ⟨⟨o, I.kIn p o hk, hc⟩, fun a e => ?_⟩
      cases e
      exact ⟨o, I.kIn _ o hk, hd⟩
    · have z : ∃ o, s.heap.get? p = some o ∧ o.ExactDict := by
        rcases hk with ⟨kvs, hk⟩ | ⟨kvs, hk⟩
        · obtain ⟨_, _, _, _, o, _, _, e, ex, _⟩ := I.hok p _ hk
          exact ⟨o, e, ex⟩
        · obtain ⟨_, _, _, _, o, _, _, e, ex, _⟩ := I.hok p _ hk
          exact ⟨o, e, ex⟩
      obtain ⟨o, e, ex⟩ := z
      refine ⟨⟨o, e, ex.1⟩, fun a e2 => ?_⟩
      cases e2
      exact ⟨o, e, ex.2.1⟩
    · obtain ⟨o, _, _, _, e, ex, _⟩ := I.hok p _ hk
      refine ⟨⟨o, e, ex.1⟩, fun a e2 => ?_⟩
      cases e2
      exact ⟨o, e, ex.2.1⟩
  | _ => exact False.elim ty
noncomputable def tBM (K : PySem.W.Frag) (T : String) (r : V → List V → Hp → VK → Prop) (to : TE) (t : TA) : TE := fun σ H Q => to σ H fun x H1 => tyV K T x H1 ∧ t σ H1 fun xs H2 => r x xs H2 Q
variable {o e : Expr} {es : List Expr} {to : TE} {t : TA} {name : Str} {apos cpos : Pos} {T id : String} {r : V → List V → Hp → VK → Prop}
theorem pe_bm (pa : PlainAttrs T) (slot : Slot T name id) (hty : typeOf (.builtin id) = pure (.type "method_descriptor")) (hm : MtR X id r) (ho : PE X o to) (ha : PA X (e :: es) t)
    (hbase : attributeBase o name X.env (eval o X.env) = eval o X.env := by rfl)
    (hfew : ((backTo cpos (starEach (e :: es) X.env)).all (fun x => !x.1) && (backToKw cpos (keywordEach [] X.env)).all (fun x => x.1.isSome)
      && decide ((e :: es).length + ([] : List Keyword).length + (if ([] : List Keyword).isEmpty then 0 else 1) < 30)) = true := by rfl)
    (hline : (apos.endLine == cpos.line) = true := by rfl) (hs : starEach (e :: es) X.env = (false, eval e X.env) :: starEach es X.env := by rfl) (hplain : (backTo cpos (starEach es X.env)).any (·.1) = false := by rfl) :
    PE X (.Call (.Attribute o name apos) (e :: es) [] cpos) (tBM X.K T r to t) := by
  intro pins s σ H Q I h
  refine wpAny_Call_method_late hbase hfew hline rfl (thn (ho pins s σ H _ I h) fun v s1 ⟨x, H1, I1, r1, ty, q1⟩ => ?_)
  obtain ⟨h1, h2⟩ := tyV_is I1 r1 ty
  refine ⟨T, id, pa, slot, hty, h1, h2, ?_⟩
  have hA := ha cpos pins s1 σ H1 _ I1 q1
  rw [hs] at hA ⊢
  refine Calls.callWith_builtin (by show (false || (backTo cpos (starEach es X.env)).any (·.1)) = false; rw [hplain] <;> rfl) (Calls.evalArgs_plain ?_)
  exact thn hA fun us s2 ⟨vs, H2, I2, r2, q2⟩ => hm pins s2 σ H2 x vs v us Q I2 r1 r2 q2
/- xs.append(e), list.index on a module's tuple .. are MtR facts of 06m -/
end
end L2

namespace L2
open PySem PySem.Spec PyProof.Rows

noncomputable def MtM (X : Cx) (id : String) (r : V → List V → Hp → VK → Prop) : Prop :=
  ∀ (pins : List (Addr × Obj)) (s : Shared) (σ : St) (H : Hp) (x : V) (xs : List V) (v : Value) (us : List Value) (Q : VK), Inv X pins σ H s → RelV x v → Vals xs us → r x xs H Q →
    wpAny (model X.prog X.w) X.A (call (.builtin id) (v :: us)) (EP X pins σ Q) X.xe s

theorem Vals.one : ∀ {x : V} {us : List Value}, Vals [x] us → ∃ u, us = [u] ∧ RelV x u
  | _, _, .cons r .nil => ⟨_, rfl, r⟩
theorem Vals.rep {xs : List V} {us : List Value} (h : Vals xs us) : ∀ k : Nat, Vals (List.replicate k xs).flatten (List.replicate k us).flatten
  | 0 => .nil
  | k + 1 => by
    rw [List.replicate_succ, List.replicate_succ, List.flatten_cons, List.flatten_cons]
    exact Vals.append h (Vals.rep h k)
theorem foldl_rep (its : List Value) : ∀ (k : Nat) (acc : List Value),
    List.foldl (fun x1 x2 => x1 ++ x2) acc.toArray (List.replicate k its.toArray) = (acc ++ (List.replicate k its).flatten).toArray
  | 0, acc => by simp
  | k + 1, acc => by
    have e : acc.toArray ++ its.toArray = (acc ++ its).toArray := by simp
    have e2 : (acc ++ its) ++ (List.replicate k its).flatten = acc ++ (List.replicate (k + 1) its).flatten := by
      rw [List.replicate_succ, List.flatten_cons, List.append_assoc]
    rw [← e2, ← foldl_rep its k (acc ++ its), ← e, List.replicate_succ, List.foldl_cons]

section
variable {X : Cx} {pins : List (Addr × Obj)} {σ : St} {H : Hp} {s : Shared} {l b : Addr} {xs ys zs : List V}

theorem Inv.lset {its its' : List Value} {n : Nat} {f : Array Value → Array Value} {t' : Nat} (I : Inv X pins σ H s) (hH : H l = some (.lst xs))
    (e : s.heap.get? l = some { cls := .type "list", data := .seq its.toArray n }) (hf : f its.toArray = its'.toArray) (hv : Vals ys its') (hz : ys.length ≤ sizeLine) :
    Inv X pins σ (upd H l (.lst ys)) { s with heap := s.heap.update l (Obj.mapSeq f), toks := t' } := by
  have q := PySem.IsL.update e f
  rw [hf] at q
  refine I.write (x := l) (e := l) (by rw [hH]; exact trivial) (.inl rfl) (fun b' u hb hu => (Heap.get?_update_other s.heap (Obj.mapSeq f) (Ne.symm hb)).trans hu) ⟨_, q⟩ ?_
  exact ⟨hz, its', _, hv, q⟩
theorem Inv.lnew {its : List Value} {t' : Nat} (I : Inv X pins σ H s) (hv : Vals ys its) (hz : ys.length ≤ sizeLine) :
    Inv X pins σ (upd H s.heap.objs.size (.lst ys)) { s with heap := s.heap.push { cls := .type "list", data := .seq its.toArray }, toks := t' } :=
  I.laid (fun _ _ q => Heap.get?_push_of_some _ q) (Nat.le_refl _) ⟨hz, its, 0, hv, Heap.get?_push_size _ rfl⟩
theorem Inv.fresh (I : Inv X pins σ H s) : H s.heap.objs.size = none := I.hok.fresh (Nat.le_refl _)
theorem Inv.lstM (I : Inv X pins σ H s) (hH : H l = some (.lst xs)) : xs.length ≤ sizeLine ∧ ∃ (its : List Value) (n : Nat), Vals xs its ∧ xs.length = its.length ∧ s.heap.get? l = some { cls := .type "list", data := .seq its.toArray n } := by
  obtain ⟨z, its, n, r, e⟩ := I.hok l _ hH
  exact ⟨z, its, n, r, r.length, e⟩

theorem notLongL {n : Nat} (h : n ≤ sizeLine) : Builtin.List.listTooLong n = false := by
  unfold Builtin.List.listTooLong
  exact decide_eq_false (by lia)
end

section
variable {X : Cx}

noncomputable def rAppend : V → List V → Hp → VK → Prop := fun x vs H Q => ∃ l xs y, x = .ref l ∧ vs = [y] ∧ H l = some (.lst xs) ∧ xs.length < sizeLine ∧ Q .non (upd H l (.lst (xs ++ [y])))
theorem mt_append : MtM X "list.append" rAppend := by
  intro pins s σ H x vs v us Q I rx rv h
  obtain ⟨l, xs, y, rfl, rfl, hH, hz, q⟩ := h
  cases rx
  obtain ⟨u, rfl, ru⟩ := rv.one
  obtain ⟨z, its, n, r, hl, e⟩ := I.lstM hH
  refine call_meets F.slot_list_append ⟨_, e, rfl⟩ F.entry_list_append (F.args_list_append_2 _ _) (PySem.list_append l its.toArray n u (by rw [List.size_toArray]; lia)) ⟨e, ?_⟩
  refine ⟨.non, _, I.lset (its' := its ++ [u]) hH e (by simp) (r.append (.cons ru .nil)) ?_, rfl, q⟩
  rw [List.length_append, List.length_singleton]
  lia

noncomputable def rExtend : V → List V → Hp → VK → Prop := fun x vs H Q => ∃ l b xs zs, x = .ref l ∧ vs = [.ref b] ∧ H l = some (.lst xs) ∧ H b = some (.lst zs) ∧ xs.length + zs.length ≤ sizeLine ∧ Q .non (upd H l (.lst (xs ++ zs)))
theorem mt_extend : MtM X "list.extend" rExtend := by
  intro pins s σ H x vs v us Q I rx rv h
  obtain ⟨l, b, xs, zs, rfl, rfl, hH, hB, hz, q⟩ := h
  cases rx
  obtain ⟨u, rfl, ru⟩ := rv.one
  cases ru
  obtain ⟨z, its, n, r, hl, e⟩ := I.lstM hH
  obtain ⟨z2, its2, n2, r2, hl2, e2⟩ := I.lstM hB
  have hsz : its.toArray.size + its2.toArray.size ≤ sizeLine := by rw [List.size_toArray, List.size_toArray]; lia
  have hlong : ¬ (!its.toArray.isEmpty && Builtin.List.listTooLong (its.toArray.size + its2.toArray.size)) = true := by
    rw [notLongL hsz, Bool.and_false]
    exact Bool.false_ne_true
  refine call_meets F.slot_list_extend ⟨_, e, rfl⟩ F.entry_list_extend (F.args_list_extend_2 _ _)
    (AutoSeq1.list_extend_list_list_0 l its.toArray n b its2.toArray n2 hlong (by rw [List.size_toArray]; lia) (by lia)) ⟨e, e2, ?_⟩
  refine ⟨.non, _, I.lset (its' := its ++ its2) hH e (by simp) (r.append r2) ?_, rfl, q⟩
  rw [List.length_append]
  lia





noncomputable def rCat : R2 := fun x y H Q => ∃ l b xs zs, x = .ref l ∧ y = .ref b ∧ H l = some (.lst xs) ∧ H b = some (.lst zs) ∧ xs.length + zs.length ≤ sizeLine ∧ ∀ p, H p = none → Q (.ref p) (upd H p (.lst (xs ++ zs)))
theorem op_cat : OpR X (binaryOp .Add) rCat := by
  intro pins s σ H x y v u Q I rx ry h
  obtain ⟨l, b, xs, zs, rfl, rfl, hH, hB, hz, q⟩ := h
  cases rx
  cases ry
  obtain ⟨z, its, n, r, hl, e⟩ := I.lstM hH
  obtain ⟨z2, its2, n2, r2, hl2, e2⟩ := I.lstM hB
  refine PySem.P.add_list e e2 ?_ (by rw [List.size_toArray, List.size_toArray]; lia)
  have ea : its.toArray ++ its2.toArray = (its ++ its2).toArray := by simp
  rw [ea]
  exact ⟨.ref _, _, I.lnew (t' := s.toks) (r.append r2) (by rw [List.length_append]; lia), rfl, q _ I.fresh⟩
noncomputable def rRep : R2 := fun x y H Q => ∃ l k xs, x = .ref l ∧ y = .int k ∧ H l = some (.lst xs) ∧ -(2 ^ 63) ≤ k ∧ k < 2 ^ 63 ∧ xs.length * k.toNat ≤ sizeLine ∧
  ∀ p, H p = none → Q (.ref p) (upd H p (.lst (List.replicate k.toNat xs).flatten))
theorem len_rep {α : Type} (xs : List α) (k : Nat) : (List.replicate k xs).flatten.length = k * xs.length := by
  induction k with
  | zero => simp
  | succ k ih => rw [List.replicate_succ, List.flatten_cons, List.length_append, ih, Nat.succ_mul, Nat.add_comm]
theorem op_rep : OpR X (binaryOp .Mult) rRep := by
  intro pins s σ H x y v u Q I rx ry h
  obtain ⟨l, k, xs, rfl, rfl, hH, h1, h2, hz, q⟩ := h
  cases rx
  obtain ⟨t, rfl⟩ := ry
  obtain ⟨z, its, n, r, hl, e⟩ := I.lstM hH
  have hlen : its.toArray.size * k.toNat ≤ sizeLine := by rw [List.size_toArray, ← hl]; exact hz
  have hcap : ¬ its.toArray.size * k.toNat > (2 ^ 63 - 1) / 8 := by
    have : (sizeLine : Nat) ≤ (2 ^ 63 - 1) / 8 := by decide
    lia
  have hfit : ¬ (!Builtin.List.listFitsIndex k) = true := by
    rw [fitsIndex_both h1 h2]
    exact Bool.false_ne_true
  have hlong : ¬ Builtin.List.listTooLong (its.toArray.size * k.toNat) = true := by
    rw [notLongL hlen]
    exact Bool.false_ne_true
  have hnew : List.foldl (fun x1 x2 => x1 ++ x2) #[] (List.replicate (if its.toArray.isEmpty = true then 0 else k.toNat) its.toArray) = (List.replicate k.toNat its).flatten.toArray := by
    have f0 : ∀ m : Nat, List.foldl (fun x1 x2 => x1 ++ x2) #[] (List.replicate m its.toArray) = (List.replicate m its).flatten.toArray := fun m => by
      have := foldl_rep its m []
      rw [List.nil_append] at this
      exact this
    rw [f0]
    cases its with
    | nil => simp
    | cons a r' => rw [if_neg (by simp)]
  refine wpAny_binaryOp_repeat_ref (T := "list") (U := "int") (by decide) ⟨_, e, rfl⟩ (fun s' => typeIs_int s' k t) noFill_list_mul F.fills_int_mul F.slot_int_rmul repeat_list F.slot_int_index.lookup
    (call_meets F.slot_int_rmul (typeIs_int s k t) F.entry_int_rmul (F.args_int_rmul_2 _ _) (int___rmul___int_list k t l its.toArray n)
      ⟨e, rfl, ⟨_, e, rfl⟩, call_meets F.slot_list_mul ⟨_, e, rfl⟩ F.entry_list_mul (F.args_list_mul_2 _ _) (AutoListH.list___mul___list_int_3 l its.toArray n k t hfit hcap hlong) ⟨e, ?_⟩⟩)
  rw [hnew]
  exact ⟨.ref _, _, I.lnew (t' := s.toks) (r.rep k.toNat) (by rw [len_rep, Nat.mul_comm]; exact hz), rfl, q _ I.fresh⟩

end

section
variable {prog : Program} {w : World} {A : Around} {E : Value → Shared → Prop} {s : Shared}
set_option maxRecDepth 100000 in
end

section
variable {X : Cx}
end
end L2

namespace L2
open PySem PySem.Spec PyProof.Rows

theorem Vals.ints : ∀ {ns : List Int} {us : List Value}, Vals (ns.map V.int) us → IntsAre us ns
  | [], us, h => by
    rw [List.map_nil] at h
    cases h
    exact IntsAre.nil
  | n :: ns, us, h => by
    rw [List.map_cons] at h
    cases h with
    | cons r t =>
      obtain ⟨k, rfl⟩ := r
      exact IntsAre.cons n k (Vals.ints t)
theorem vals_of_ints : ∀ {us : List Value} {ns : List Int}, IntsAre us ns → Vals (ns.map V.int) us
  | _, _, .nil => by rw [List.map_nil]; exact Paired.nil
  | _, _, .cons n t h => by rw [List.map_cons]; exact Paired.cons (show RelV (V.int n) (Value.int n t) from ⟨t, rfl⟩) (vals_of_ints h)
theorem Vals.bls : ∀ {bs : List Bool} {us : List Value}, Vals (bs.map V.bl) us → us = bs.map Value.bool
  | [], us, h => by
    rw [List.map_nil] at h
    cases h
    rfl
  | b :: bs, us, h => by
    rw [List.map_cons] at h
    cases h with
    | cons r t =>
      cases r
      rw [Vals.bls t, List.map_cons]
theorem Vals.ref1 {a : Addr} {us : List Value} (r : Vals [V.ref a] us) : us = [Value.ref a] := by
  cases r with
  | cons r t =>
    cases t
    cases r
    rfl

section
variable {prog : Program} {w : World} {A : Around} {E : Value → Shared → Prop} {s : Shared} {l : Addr} {its : List Value} {ns : List Int} {Q : Value → Shared → Prop}
end

section
variable {X : Cx}

end

section
variable {X : Cx}
end

section
variable {X : Cx}
end

theorem iter_any {prog : Program} {w : World} {A : Around} {E : Value → Shared → Prop} {s : Shared} {l : Addr} {items : Array Value} {Q : Value → Shared → Prop} (hl : s.heap.IsList l items)
    (h : ∀ s₂ : Shared, s₂ = { s with heap := s.heap.push { cls := .type "list_iterator", data := .fields #[.ref l, .int 0 0] } } →
      (s₂.heap.IsListIter s.heap.objs.size l 0 ∧ s₂.heap.IsList l items) → l ≠ s.heap.objs.size → Q (.ref s.heap.objs.size) s₂) : wpAny (model prog w) A (pyIter (.ref l)) Q E s := by
  have hlt : l < s.heap.objs.size := by obtain ⟨_, e, _⟩ := hl; exact Heap.lt_size e
  exact wpAny_pyIter_list hl (h _ rfl ⟨⟨_, Heap.get?_push_size _ rfl, rfl, rfl⟩, hl.push _⟩ (Nat.ne_of_lt hlt))
theorem truth_bools {prog : Program} {w : World} {A : Around} {bs : List Bool} {its : List Value} (e : its = bs.map Value.bool) :
    TruthOf prog w A (fun i v => its.toArray[i]? = some v) (fun i => bs.getD i false) := fun i v s Q E hv hq => by
  have hv' : its[i]? = some v := by simpa using hv
  rw [e, List.getElem?_map] at hv'
  obtain ⟨b, hb, rfl⟩ := Option.map_eq_some_iff.mp hv'
  have hg : bs.getD i false = b := by rw [List.getD_eq_getElem?_getD, hb] <;> rfl
  have hq' : Q (bs.getD i false) s := hq
  rw [hg] at hq'
  exact wpAny_truthy_bool hq'
theorem any_range : ∀ bs : List Bool, (List.range bs.length).any (fun i => bs.getD i false) = bs.any id
  | [] => rfl
  | b :: bs => by
    rw [List.length_cons, List.range_succ_eq_map, List.any_cons, List.any_map, List.any_cons, ← any_range bs]
    all_goals rfl
theorem all_range : ∀ bs : List Bool, (List.range bs.length).all (fun i => bs.getD i false) = bs.all id
  | [] => rfl
  | b :: bs => by
    rw [List.length_cons, List.range_succ_eq_map, List.all_cons, List.all_map, List.all_cons, ← all_range bs]
    all_goals rfl
section
variable {X : Cx}
noncomputable def rAny (K : PySem.W.Frag) : List V → Hp → VK → Prop := fun vs H Q => ∃ (a : Addr) (bs : List Bool), vs = [V.ref a] ∧ SqL K H a (bs.map V.bl) ∧ Q (.bl (bs.any id)) H
noncomputable def rAll (K : PySem.W.Frag) : List V → Hp → VK → Prop := fun vs H Q => ∃ (a : Addr) (bs : List Bool), vs = [V.ref a] ∧ SqL K H a (bs.map V.bl) ∧ Q (.bl (bs.all id)) H
theorem cr_any (hc : X.calm = true) : CallR X (.builtin "any") (rAny X.K) := by
  intro pins s σ H vs us Q I r h
  obtain ⟨a, bs, rfl, hs, q⟩ := h
  obtain ⟨its, rv, hl, _⟩ := I.list hs
  rw [Vals.ref1 r]
  have hb := rv.bls
  refine call_any_walk (iter_any hl.isList fun s₂ e2 st hne => ?_)
  subst e2
  refine ⟨_, _, _, _, _, _, _, rfl, Walks.list (A := X.A.in1) (I.ok.hd hc) _ a hne its.toArray, st, truth_bools hb, fun h' tk hk => ?_⟩
  refine ⟨.bl _, H, I.kept fun b o eo => hk b o (fun hmem => ?_) (Heap.get?_push_of_some _ eo), ?_, q⟩
  · rcases List.mem_cons.mp hmem with e1 | hmem
    · exact absurd (e1 ▸ Heap.lt_size eo) (Nat.lt_irrefl _)
    · cases hmem
  · show Value.bool _ = Value.bool _
    rw [← any_range, hb, List.size_toArray, List.length_map]
theorem cr_all (hc : X.calm = true) : CallR X (.builtin "all") (rAll X.K) := by
  intro pins s σ H vs us Q I r h
  obtain ⟨a, bs, rfl, hs, q⟩ := h
  obtain ⟨its, rv, hl, _⟩ := I.list hs
  rw [Vals.ref1 r]
  have hb := rv.bls
  refine call_all_walk (iter_any hl.isList fun s₂ e2 st hne => ?_)
  subst e2
  refine ⟨_, _, _, _, _, _, _, rfl, Walks.list (A := X.A.in1) (I.ok.hd hc) _ a hne its.toArray, st, truth_bools hb, fun h' tk hk => ?_⟩
  refine ⟨.bl _, H, I.kept fun b o eo => hk b o (fun hmem => ?_) (Heap.get?_push_of_some _ eo), ?_, q⟩
  · rcases List.mem_cons.mp hmem with e1 | hmem
    · exact absurd (e1 ▸ Heap.lt_size eo) (Nat.lt_irrefl _)
    · cases hmem
  · show Value.bool _ = Value.bool _
    rw [← all_range, hb, List.size_toArray, List.length_map]
end

mutual
inductive Dp (K : PySem.W.Frag) (H : Hp) : V → PyData → Prop
  | non : Dp K H .non .none
  | bl (b : Bool) : Dp K H (.bl b) (.bool b)
  | int (i : Int) : Dp K H (.int i) (.int i)
  | str (x : Str) : Dp K H (.str x) (.str x)
  | lst {a : Addr} {xs : List V} {ds : List PyData} : SqL K H a xs → DpAll K H xs ds → Dp K H (.ref a) (.list ds)
  | tup {a : Addr} {xs : List V} {ds : List PyData} : SqT K H a xs → DpAll K H xs ds → Dp K H (.ref a) (.tuple ds)
inductive DpAll (K : PySem.W.Frag) (H : Hp) : List V → List PyData → Prop
  | nil : DpAll K H [] []
  | cons {v : V} {vs : List V} {d : PyData} {ds : List PyData} : Dp K H v d → DpAll K H vs ds → DpAll K H (v :: vs) (d :: ds)
end
section
variable {X : Cx} {pins : List (Addr × Obj)} {σ : St} {H : Hp} {s : Shared}
mutual
theorem Dp.reads (I : Inv X pins σ H s) : ∀ (d : PyData) (v : V) (u : Value), Dp X.K H v d → RelV v u → ∃ as, Reads s.heap u d as
  | .none, _, _, h, r => by
    cases h
    cases r
    exact ⟨_, Reads.none⟩
  | .bool b, _, _, h, r => by
    cases h
    cases r
    exact ⟨_, Reads.bool b⟩
  | .int i, _, _, h, r => by
    cases h
    obtain ⟨t, rfl⟩ := r
    exact ⟨_, Reads.int i t⟩
  | .str x, _, _, h, r => by
    cases h
    obtain ⟨t, rfl⟩ := r
    exact ⟨_, Reads.str x t⟩
  | .list ds, _, _, h, r => by
    cases h with
    | lst hs ha =>
      cases r
      obtain ⟨its, rv, ⟨o, n, ho, hc, _, hd⟩, _⟩ := I.list hs
      obtain ⟨as, hr⟩ := Dp.readsAll I ds _ its ha rv
      exact ⟨_, Reads.list ho hc hd hr⟩
  | .tuple ds, _, _, h, r => by
    cases h with
    | tup hs ha =>
      cases r
      obtain ⟨its, rv, ⟨o, ho, hc, n, hd⟩, _⟩ := I.tuple hs
      obtain ⟨as, hr⟩ := Dp.readsAll I ds _ its ha rv
      exact ⟨_, Reads.tuple ho hc hd hr⟩
  | .dict _, _, _, h, _ => by cases h
theorem Dp.readsAll (I : Inv X pins σ H s) : ∀ (ds : List PyData) (vs : List V) (us : List Value), DpAll X.K H vs ds → Vals vs us → ∃ as, ReadsAll s.heap us ds as
  | [], _, _, h, r => by
    cases h
    cases r
    exact ⟨_, ReadsAll.nil⟩
  | d :: ds, _, _, h, r => by
    cases h with
    | cons h1 h2 =>
      cases r with
      | cons r1 r2 =>
        obtain ⟨as, q1⟩ := Dp.reads I d _ _ h1 r1
        obtain ⟨bs, q2⟩ := Dp.readsAll I ds _ _ h2 r2
        exact ⟨_, ReadsAll.cons q1 q2⟩
end
end
section
variable {X : Cx}
end
end L2

namespace L2
open PySem PySem.Spec PyProof.Rows
noncomputable abbrev CellAt (h : Heap) (c : Addr) (v : Option Value) : Prop := h.IsCell c v
noncomputable def relS (scope sc : Scope) : Scope :=
  { scope with names := scope.names.map fun (n, k) => if (k == .free && sc.kind == .function && sc.names.lookup n == some .cell) then (n, .cell) else (n, k) }

noncomputable def cloFrom (cells : List (Str × Addr)) : List (Str × NameKind) → List (Str × Addr) → List (Str × Addr)
  | [], acc => acc
  | (n, k) :: r, acc => if k == .free then cloFrom cells r ((n, (cells.lookup n).getD 0) :: acc) else cloFrom cells r acc

theorem closure_loop (env : Env) (f : Str × NameKind → List (Str × Addr) → Sem (ForInStep (List (Str × Addr))))
    (hf : ∀ n k c, f (n, k) c = if k == .free then (do let a ← cellOf env n; pure (.yield ((n, a) :: c))) else pure (.yield c)) :
    ∀ (names : List (Str × NameKind)) (acc : List (Str × Addr)), (∀ y ∈ names, y.2 = .free → ∃ c, env.cells.lookup y.1 = some c) → forIn names acc f = pure (cloFrom env.cells names acc)
  | [], acc, _ => by rw [List.forIn_nil]; rfl
  | (n, k) :: r, acc, h => by
    rw [List.forIn_cons, hf]
    have ih := fun acc => closure_loop env f hf r acc fun y hy => h y (List.mem_cons_of_mem _ hy)
    unfold cloFrom
    by_cases hk : (k == NameKind.free) = true
    · rw [if_pos hk, if_pos hk]
      obtain ⟨c, hc⟩ := h (n, k) List.mem_cons_self (by simpa using hk)
      have e : cellOf env n = pure c := by unfold cellOf; rw [hc]
      rw [e]
      have e2 : (env.cells.lookup n).getD 0 = c := by rw [hc]; rfl
      rw [e2]
      exact ih _
    · rw [if_neg hk, if_neg hk]
      exact ih _
theorem closure_ok {scope : Scope} {env : Env} (h : ∀ y ∈ scope.names, y.2 = .free → ∃ c, env.cells.lookup y.1 = some c) : closureFor scope env = pure (cloFrom env.cells scope.names []) := by
  simp only [closureFor]
  rw [closure_loop env _ (fun n k c => rfl) scope.names [] h]
  rfl

theorem mem_lookup {α : Type} : ∀ {l : List (Str × α)} {n : Str} {c : α}, (n, c) ∈ l → ∃ c', l.lookup n = some c'
  | (k, v) :: r, n, c, h => by
    rw [List.lookup_cons]
    cases hb : n == k with
    | true => exact ⟨_, rfl⟩
    | false =>
      rcases List.mem_cons.mp h with e | h
      · cases e; simp at hb
      · exact mem_lookup h

theorem cloFrom_mem {cells : List (Str × Addr)} : ∀ {names : List (Str × NameKind)} {acc : List (Str × Addr)} {n : Str} {c : Addr}, (n, c) ∈ cloFrom cells names acc → (n, c) ∈ acc ∨ ((n, .free) ∈ names ∧ c = (cells.lookup n).getD 0)
  | [], _, _, _, h => .inl h
  | (m, k) :: r, acc, n, c, h => by
    unfold cloFrom at h
    split at h
    · rename_i hk
      have hk : k = .free := by simpa using hk
      rcases cloFrom_mem h with h | ⟨h1, h2⟩
      · rcases List.mem_cons.mp h with e | h
        · cases e; exact .inr ⟨hk ▸ List.mem_cons_self, rfl⟩
        · exact .inl h
      · exact .inr ⟨List.mem_cons_of_mem _ h1, h2⟩
    · rcases cloFrom_mem h with h | ⟨h1, h2⟩
      · exact .inl h
      · exact .inr ⟨List.mem_cons_of_mem _ h1, h2⟩
theorem cloFrom_acc {cells : List (Str × Addr)} : ∀ {names : List (Str × NameKind)} {acc : List (Str × Addr)} {p : Str × Addr}, p ∈ acc → p ∈ cloFrom cells names acc
  | [], _, _, h => h
  | (m, k) :: r, acc, p, h => by
    unfold cloFrom
    split
    · exact cloFrom_acc (List.mem_cons_of_mem _ h)
    · exact cloFrom_acc h
theorem cloFrom_has {cells : List (Str × Addr)} : ∀ {names : List (Str × NameKind)} {acc : List (Str × Addr)} {n : Str}, (n, .free) ∈ names → (n, (cells.lookup n).getD 0) ∈ cloFrom cells names acc
  | (m, k) :: r, acc, n, h => by
    unfold cloFrom
    rcases List.mem_cons.mp h with e | h
    · cases e
      exact cloFrom_acc List.mem_cons_self
    · split
      · exact cloFrom_has h
      · exact cloFrom_has h

theorem cells_mem : ∀ {names : List (Str × NameKind)} {h : Heap} {acc : List (Str × Addr)} {x : Str} {c : Addr}, (x, c) ∈ cellsFrom h.objs.size names acc →
    (x, c) ∈ acc ∨ ((x, .cell) ∈ names ∧ h.objs.size ≤ c ∧ CellAt (pushCells h names) c none)
  | [], _, _, _, _, h => .inl h
  | (n, k) :: r, h, acc, x, c, hm => by
    unfold cellsFrom at hm
    unfold pushCells
    split at hm
    · rename_i hk
      rw [if_pos hk]
      have hk : k = .cell := by simpa using hk
      rw [← Heap.size_push h { cls := .type "cell", data := .cell none }] at hm
      rcases cells_mem hm with hm | ⟨h1, h2, h3⟩
      · rcases List.mem_cons.mp hm with e | hm
        · cases e
          exact .inr ⟨hk ▸ List.mem_cons_self, Nat.le_refl _, _, pushCells_keeps r _ _ _ (Heap.get?_push_size _ rfl), rfl⟩
        · exact .inl hm
      · rw [Heap.size_push] at h2
        exact .inr ⟨List.mem_cons_of_mem _ h1, Nat.le_of_succ_le h2, h3⟩
    · rename_i hk
      rw [if_neg hk]
      rcases cells_mem hm with hm | ⟨h1, h2, h3⟩
      · exact .inl hm
      · exact .inr ⟨List.mem_cons_of_mem _ h1, h2, h3⟩
theorem cells_acc : ∀ {names : List (Str × NameKind)} {n : Nat} {acc : List (Str × Addr)} {p : Str × Addr}, p ∈ acc → p ∈ cellsFrom n names acc
  | [], _, _, _, h => h
  | (m, k) :: r, n, acc, p, h => by
    unfold cellsFrom
    split
    · exact cells_acc (List.mem_cons_of_mem _ h)
    · exact cells_acc h
theorem cells_has : ∀ {names : List (Str × NameKind)} {n : Nat} {acc : List (Str × Addr)} {x : Str}, (x, .cell) ∈ names → ∃ c, (x, c) ∈ cellsFrom n names acc
  | (m, k) :: r, n, acc, x, h => by
    unfold cellsFrom
    rcases List.mem_cons.mp h with e | h
    · cases e
      exact ⟨n, cells_acc List.mem_cons_self⟩
    · split
      · exact cells_has h
      · exact cells_has h
theorem cells_inj : ∀ {names : List (Str × NameKind)} {h : Heap} {acc : List (Str × Addr)} {x y : Str} {c : Addr}, (∀ p ∈ acc, p.2 < h.objs.size) → (∀ x y c, (x, c) ∈ acc → (y, c) ∈ acc → x = y) →
    (x, c) ∈ cellsFrom h.objs.size names acc → (y, c) ∈ cellsFrom h.objs.size names acc → x = y
  | [], _, _, _, _, _, _, hi, h1, h2 => hi _ _ _ h1 h2
  | (n, k) :: r, h, acc, x, y, c, hl, hi, h1, h2 => by
    unfold cellsFrom at h1 h2
    split at h1
    · rename_i hk
      rw [if_pos hk] at h2
      rw [← Heap.size_push h { cls := .type "cell", data := .cell none }] at h1 h2
      refine cells_inj (h := h.push _) (fun p hp => ?_) (fun x y c a b => ?_) h1 h2
      · rw [Heap.size_push]
        rcases List.mem_cons.mp hp with rfl | hp
        · exact Nat.lt_succ_self _
        · exact Nat.lt_succ_of_lt (hl p hp)
      · rcases List.mem_cons.mp a with e | a <;> rcases List.mem_cons.mp b with e' | b
        · cases e; cases e'; rfl
        · cases e; exact absurd (hl _ b) (Nat.lt_irrefl _)
        · cases e'; exact absurd (hl _ a) (Nat.lt_irrefl _)
        · exact hi _ _ _ a b
    · rename_i hk
      rw [if_neg hk] at h2
      exact cells_inj hl hi h1 h2

theorem newEnv_comp {M : Model} {A : Around} {E : Value → Shared → Prop} {s : Shared} {scope : Scope} {globals : Addr} {closure : List (Str × Addr)} {qual : Str} {func : Option Addr} {code : Value} {around : Env} {builtins : Addr} {Q : Env → Shared → Prop}
    (h : Q (newEnv scope s.heap.objs.size globals (cellsFrom (s.heap.objs.size + 1) scope.names closure) qual func code (some around) builtins)
      { s with heap := pushCells (s.heap.push { cls := .type "dict", data := .dict #[] }) scope.names }) :
    wpAny M A (newFunctionEnv scope globals closure [] qual func code (some around) builtins) Q E s := by
  simp only [newFunctionEnv, Option.isSome_some, if_true]
  refine wpAny_bind (wpAny_alloc ?_)
  refine wpAny_bind (wpAny_layCells _ (fun n k c => rfl) scope.names closure _ _ ?_)
  rw [show ({ s with heap := s.heap.push { cls := .type "dict", data := .dict #[] } } : Shared).heap.objs.size = s.heap.objs.size + 1 from Heap.size_push ..]
  rw [List.forIn_nil]
  exact wpAny_bind (wpAny_pure (wpAny_pure h))

theorem lookup_relS {sc : Scope} : ∀ {names : List (Str × NameKind)} {x : Str} {k : NameKind},
    (names.map fun (n, k) => if (k == NameKind.free && sc.kind == .function && sc.names.lookup n == some .cell) then (n, NameKind.cell) else (n, k)).lookup x = some k →
    ∃ k', names.lookup x = some k' ∧ (k = k' ∨ (k' = .free ∧ k = .cell))
  | [], _, _, h => by simp at h
  | (n, k₀) :: r, x, k, h => by
    have ih := @lookup_relS sc r x k
    have h' : List.lookup x ((if (k₀ == NameKind.free && sc.kind == .function && sc.names.lookup n == some .cell) = true then (n, NameKind.cell) else (n, k₀)) :: (r.map _)) = some k := h
    cases hx : x == n with
    | true =>
      simp only [List.lookup_cons, hx]
      by_cases hc : (k₀ == NameKind.free && sc.kind == .function && sc.names.lookup n == some .cell) = true
      · rw [if_pos hc] at h'
        simp only [List.lookup_cons, hx] at h'
        cases h'
        simp only [Bool.and_eq_true, beq_iff_eq] at hc
        exact ⟨k₀, rfl, .inr ⟨hc.1.1, rfl⟩⟩
      · rw [if_neg hc] at h'
        simp only [List.lookup_cons, hx] at h'
        cases h'
        exact ⟨_, rfl, .inl rfl⟩
    | false =>
      simp only [List.lookup_cons, hx]
      by_cases hc : (k₀ == NameKind.free && sc.kind == .function && sc.names.lookup n == some .cell) = true
      · rw [if_pos hc] at h'
        simp only [List.lookup_cons, hx] at h'
        exact ih h'
      · rw [if_neg hc] at h'
        simp only [List.lookup_cons, hx] at h'
        exact ih h'



structure BlkOk (N : List Str) (sc scope : Scope) (own : List (Str × Nat)) : Prop where
  kind : scope.kind = .function
  uniq : ∀ y ∈ scope.names, scope.names.lookup y.1 = some y.2
  ix : ∀ p ∈ own, N[p.2]? = some p.1
  free : ∀ y ∈ scope.names, y.2 = .free → sc.names.lookup y.1 = some .cell ∨ sc.names.lookup y.1 = some .free
  own : ∀ y ∈ scope.names, y.2 = .local ∨ y.2 = .cell → y.1 ∈ own.map (·.1) ∨ y.1 ∉ N
noncomputable def wipe (σ : St) : List Nat → St
  | [] => σ
  | v :: vs => (wipe σ vs).set v none
theorem wipe_length (σ : St) : ∀ vs : List Nat, (wipe σ vs).length = σ.length
  | [] => rfl
  | v :: vs => by unfold wipe; rw [List.length_set, wipe_length σ vs]
theorem wipe_some {σ : St} {i : Nat} {x : V} : ∀ {vs : List Nat}, (wipe σ vs)[i]? = some (some x) → σ[i]? = some (some x) ∧ i ∉ vs
  | [], h => ⟨h, by simp⟩
  | v :: vs, h => by
    unfold wipe at h
    by_cases hi : v = i
    · subst hi
      by_cases hv : v < (wipe σ vs).length
      · rw [List.getElem?_set_self hv] at h; cases h
      · rw [List.getElem?_eq_none (by simpa using hv)] at h; cases h
    · rw [List.getElem?_set_ne hi] at h
      obtain ⟨h1, h2⟩ := wipe_some h
      exact ⟨h1, by simp only [List.mem_cons, not_or]; exact ⟨fun e => hi e.symm, h2⟩⟩

noncomputable abbrev Cx.blk (X : Cx) (s : Shared) (H : Hp) (scope : Scope) (cenv : Env) (fp : List Addr) : Cx := { X with s_0 := s, H_0 := H, env := cenv, outer := X.stack, ex := fp, fn := fun x => scope.names.lookup x == some .cell, pn := [], xe := fun _ _ => False }
section
variable {X : Cx} {pins : List (Addr × Obj)} {σ : St} {H : Hp} {s : Shared}
theorem block_start {scope : Scope} {own : List (Str × Nat)} {fp : List Addr} (I : Inv X pins σ H s) (ok : BlkOk X.N X.env.scope scope own) (hN : X.N.Nodup) (hfp : ∀ b ∈ fp, FpOk X pins H b ∧ b < s.heap.objs.size) :
    Inv (X.blk s H scope (compEnvC scope (cellsFrom (s.heap.objs.size + 1) scope.names (cloFrom X.env.cells scope.names [])) s.heap.objs.size X.env) fp) [] (wipe σ (own.map (·.2))) H { s with heap := pushCells (s.heap.push { cls := .type "dict", data := .dict #[] }) scope.names } := by
  have hfree : ∀ y ∈ scope.names, y.2 = .free → ∃ c, X.env.cells.lookup y.1 = some c := fun y hy e => by
    rcases ok.free y hy e with k | k
    · exact I.ok.has _ (.inl k)
    · exact I.ok.has _ (.inr k)
  generalize hcenv : compEnvC scope (cellsFrom (s.heap.objs.size + 1) scope.names (cloFrom X.env.cells scope.names [])) s.heap.objs.size X.env = cenv
  have kp : ∀ b o, s.heap.get? b = some o → (pushCells (s.heap.push { cls := .type "dict", data := .dict #[] }) scope.names).get? b = some o := fun b o e => pushCells_keeps _ _ _ _ (Heap.get?_push_of_some _ e)
  have hL : cenv.locals = s.heap.objs.size := by rw [← hcenv]; rfl
  have hcl : cenv.cells = cellsFrom (s.heap.objs.size + 1) scope.names (cloFrom X.env.cells scope.names []) := by rw [← hcenv]; rfl
  have hsc : cenv.scope = relS scope X.env.scope := by rw [← hcenv]; rfl
  rw [← Heap.size_push s.heap { cls := .type "dict", data := .dict #[] }] at hcl
  have cm : ∀ {y c}, (y, c) ∈ cloFrom X.env.cells scope.names [] → X.env.cells.lookup y = some c ∧ c < s.heap.objs.size := fun {y c} hm => by
    rcases cloFrom_mem hm with hm | ⟨h1, rfl⟩
    · cases hm
    · obtain ⟨c, hc⟩ := hfree _ h1 rfl
      rw [hc]
      obtain ⟨w, z⟩ := I.cell _ _ hc
      exact ⟨rfl, z.lt⟩
  have mem : ∀ {y c}, cenv.cells.lookup y = some c → (X.env.cells.lookup y = some c ∧ c < s.heap.objs.size) ∨ (s.heap.objs.size + 1 ≤ c ∧ CellAt (pushCells (s.heap.push { cls := .type "dict", data := .dict #[] }) scope.names) c none) := fun {y c} e => by
    rw [hcl] at e
    rcases cells_mem (PySem.mem_of_lookup e) with hm | ⟨_, h2, h3⟩
    · exact .inl (cm hm)
    · rw [Heap.size_push] at h2; exact .inr ⟨h2, h3⟩
  have look : ∀ {y}, scope.names.lookup y = some .free → ∃ c, cenv.cells.lookup y = some c ∧ X.env.cells.lookup y = some c := fun {y} hl => by
    have hy : (y, NameKind.free) ∈ scope.names := PySem.mem_of_lookup hl
    obtain ⟨c', e'⟩ := mem_lookup (cells_acc (names := scope.names) (n := (s.heap.push { cls := .type "dict", data := .dict #[] }).objs.size) (cloFrom_has (cells := X.env.cells) (acc := []) hy))
    rw [← hcl] at e'
    refine ⟨c', e', ?_⟩
    rw [hcl] at e'
    rcases cells_mem (PySem.mem_of_lookup e') with hm | ⟨h1, _, _⟩
    · exact (cm hm).1
    · have := ok.uniq _ h1
      rw [hl] at this; cases this
  have okB : (X.blk s H scope cenv fp).Ok := by
    refine ⟨I.ok.mod, by show cenv.scope.kind = _; rw [hsc]; exact ok.kind, by show cenv.globals = _; rw [← hcenv]; exact I.ok.glob, by show cenv.builtins = _; rw [← hcenv]; exact I.ok.blt, by show s.heap.objs.size ≤ cenv.locals; rw [hL]; exact Nat.le_refl _,
      fun y z c e1 e2 => ?_, fun y hy => ?_, fun y c z e => ?_, I.ok.hd, I.ok.frames, .inl rfl, fun b hb => ⟨?_, fun y c e z => ?_⟩, I.bs, Nat.le_trans I.ok.bsz I.sz, fun b o e hb => ?_, fun b hb z => ?_, I.stack, I.stkFree⟩
    · have e1 : cenv.cells.lookup y = some c := e1
      have e2 : cenv.cells.lookup z = some c := e2
      rw [hcl] at e1 e2
      refine cells_inj (fun p hp => ?_) (fun y z c a b => I.ok.inj y z c (cm a).1 (cm b).1) (PySem.mem_of_lookup e1) (PySem.mem_of_lookup e2)
      rw [Heap.size_push]
      exact Nat.lt_succ_of_lt (cm (y := p.1) (c := p.2) hp).2
    · show ∃ c, cenv.cells.lookup y = some c
      have key : ∀ k, cenv.kindOf y = some k → (k = .cell ∨ k = .free) → ∃ c, cenv.cells.lookup y = some c := fun k hk hk' => by
        unfold Env.kindOf at hk
        rw [hsc] at hk
        obtain ⟨k', e, r⟩ := lookup_relS hk
        have : k' = .cell ∨ k' = .free := by
          rcases r with rfl | ⟨rfl, _⟩
          · exact hk'
          · exact .inr rfl
        rcases this with rfl | rfl
        · obtain ⟨c, hm⟩ := cells_has (n := (s.heap.push { cls := .type "dict", data := .dict #[] }).objs.size) (acc := cloFrom X.env.cells scope.names []) (PySem.mem_of_lookup e)
          obtain ⟨c', e'⟩ := mem_lookup hm
          exact ⟨c', by rw [hcl]; exact e'⟩
        · obtain ⟨c, h1, _⟩ := look e
          exact ⟨c, h1⟩
      rcases hy with hy | hy
      · exact key _ hy (.inl rfl)
      · exact key _ hy (.inr rfl)
    · have z : (scope.names.lookup y == some NameKind.cell) = true := z
      have z : scope.names.lookup y = some .cell := by simpa using z
      have e : cenv.cells.lookup y = some c := e
      rw [hcl] at e
      rcases cells_mem (PySem.mem_of_lookup e) with hm | ⟨_, h2, _⟩
      · rcases cloFrom_mem hm with hm | ⟨h1, _⟩
        · cases hm
        · have q := ok.uniq _ h1
          rw [z] at q; cases q
      · rw [Heap.size_push] at h2
        exact Nat.le_of_succ_le h2
    · show b ≠ cenv.locals
      rw [hL]; exact Nat.ne_of_lt (hfp b hb).2
    · have e : cenv.cells.lookup y = some c := e
      rcases mem e with ⟨h1, _⟩ | ⟨h1, _⟩
      · exact (hfp b hb).1.2.2.2.2.1 y c h1 z
      · have h2 : s.heap.objs.size + 1 ≤ b := by rw [← z]; exact h1
        exact absurd (Nat.lt_of_lt_of_le (hfp b hb).2 (Nat.le_of_succ_le h2)) (Nat.lt_irrefl _)
    · rcases (hfp b hb).1.2.2.2.1 with z | z
      · exact I.ok.noex b o e z
      · exact absurd (Nat.lt_of_lt_of_le (Heap.lt_size e) (Nat.le_trans I.ok.bsz z)) (Nat.lt_irrefl _)
    · rcases List.mem_cons.mp (I.stkSub b z) with z | z
      · exact (hfp b hb).1.2.1 z
      · exact (hfp b hb).1.2.2.1 z
  refine ⟨okB, rfl, I.bare, Un.kept kp, ⟨fun _ => none, ?_, fun i y av e1 e2 e3 => ?_⟩, fun y c e => ?_, ?_, fun y c e => ?_, fun p hp => ?_, I.hok.kept kp, by rw [wipe_length]; exact I.len⟩
  · show Heap.Ns _ cenv.locals _
    rw [hL]
    exact Heap.Ns.keeps (Heap.Ns.new ..) fun b o e => pushCells_keeps _ _ _ _ e
  · obtain ⟨e2, hne⟩ := wipe_some e2
    have hfr : scope.names.lookup y = some .free ∧ (cenv.kindOf y = some .cell ∨ cenv.kindOf y = some .free) := by
      have key : ∀ k, cenv.scope.names.lookup y = some k → k = .local ∨ k = .cell ∨ k = .free → scope.names.lookup y = some .free ∧ (cenv.kindOf y = some .cell ∨ cenv.kindOf y = some .free) := fun k hk hk' => by
        have hk0 := hk
        rw [hsc] at hk
        obtain ⟨k', e, r⟩ := lookup_relS hk
        have no : ¬ (k' = .local ∨ k' = .cell) := fun hh => by
          rcases ok.own _ (PySem.mem_of_lookup e) hh with e' | e'
          · obtain ⟨p, hp, hpy⟩ := List.mem_map.mp e'
            have e3 := ok.ix p hp
            have : p.1 = y := hpy
            rw [this] at e3
            exact hne (List.mem_map.mpr ⟨p, hp, nodup_ix hN e3 e1⟩)
          · exact e' (List.mem_of_getElem? e1)
        rcases r with rfl | ⟨rfl, rfl⟩
        · rcases hk' with rfl | rfl | rfl
          · exact absurd (.inl rfl) no
          · exact absurd (.inr rfl) no
          · exact ⟨e, .inr hk0⟩
        · exact ⟨e, .inl hk0⟩
      have e3 : Vis cenv.scope y := e3
      rcases e3 with e3 | e3 | e3
      · exact key _ e3 (.inl rfl)
      · exact key _ e3 (.inr (.inl rfl))
      · exact key _ e3 (.inr (.inr rfl))
    obtain ⟨m, hn, hl⟩ := I.loc
    have hvis : Vis X.env.scope y := (ok.free _ (PySem.mem_of_lookup hfr.1) rfl).elim (fun k => .inr (.inl k)) (fun k => .inr (.inr k))
    obtain ⟨w, r, q⟩ := hl i y av e1 e2 hvis
    refine ⟨w, r, .inr ⟨hfr.2, ?_⟩⟩
    obtain ⟨c, h1, h2⟩ := look hfr.1
    rcases q with ⟨k, _⟩ | ⟨_, c', e', z⟩
    · have k : X.env.scope.names.lookup y = some .local := k
      rcases ok.free _ (PySem.mem_of_lookup hfr.1) rfl with k' | k' <;> rw [show X.env.scope.names.lookup y = _ from k'] at k <;> cases k
    · rw [h2] at e'; cases e'
      exact ⟨c, h1, z.keeps kp⟩
  · have e : cenv.cells.lookup y = some c := e
    rcases mem e with ⟨h1, _⟩ | ⟨_, z⟩
    · obtain ⟨w, z⟩ := I.cell y c h1
      exact ⟨w, z.keeps kp⟩
    · exact ⟨_, z⟩
  · show H cenv.locals = none
    rw [hL]; exact I.hok.fresh (Nat.le_refl _)
  · have e : cenv.cells.lookup y = some c := e
    rcases mem e with ⟨h1, _⟩ | ⟨h1, _⟩
    · exact I.freeC y c h1
    · exact I.hok.fresh (Nat.le_of_succ_le h1)
  · exact absurd (show p ∈ ([] : List (Addr × Obj)) ++ [] from hp) (by simp)

theorem app_ok {E : Value → Shared → Prop} {D : Addr} {xs : List V} {y : V} {v : Value} {Q : Value → Shared → Prop} (I : Inv X pins σ H s) (hD : H D = some (.lst xs)) (hz : xs.length < sizeLine) (r : RelV y v)
    (h : ∀ s', Inv X pins σ (upd H D (.lst (xs ++ [y]))) s' → Q .none s') : wpAny (model X.prog X.w) X.A (call (.builtin "list.append") [.ref D, v]) Q E s := by
  obtain ⟨hz', its, n, ri, e⟩ := I.hok D _ hD
  have hl := ri.length
  refine append_at (hsz := by rw [List.size_toArray]; lia) e fun h' sb ho' => ?_
  refine h { s with heap := h' } (I.write (t' := s.toks) (by rw [hD]; trivial) (.inl rfl) (fun b u hb q => (sb.2 b hb).trans q) ⟨_, ho'⟩ ⟨by rw [List.length_append]; exact hz, its ++ [v], n + 1, ri.append (.cons r .nil), ?_⟩)
  rw [ho']
  simp

noncomputable def PTs (X : Cx) (ifs : List Expr) (t : TT) : Prop :=
  ∀ (pins : List (Addr × Obj)) (s : Shared) (σ : St) (H : Hp) (Q : Bool → Hp → Prop), Inv X pins σ H s → t σ H Q →
    wpAny (model X.prog X.w) X.A (forIn ifs true fun c r => if r = true then do let ok ← isTrue c X.env (eval c X.env); pure (ForInStep.yield ok) else pure (ForInStep.yield r)) (TP X pins σ Q) X.xe s
noncomputable def tYes : TT := fun _ H Q => Q true H
theorem pts_nil : PTs X [] tYes := fun _ _ _ H _ I h => wpAny_tests_nil ⟨H, I, h⟩
theorem pts_one {c : Expr} {t : TT} (h : PT X c t) : PTs X [c] t := fun pins s σ H Q I hw => wpAny_tests_one (h pins s σ H Q I hw)
end

theorem thnF {α : Type} {t : Sem α} {Q Q' : α → Shared → Prop} {M : Model} {A : Around} {E : Value → Shared → Prop} {s : Shared} (h : wpAny M A t Q (fun _ _ => False) s) (hQ : ∀ a s, Q a s → Q' a s) : wpAny M A t Q' E s := wpAny_mono h hQ fun _ _ z => False.elim z

theorem compLoop_any {prog : Program} {w : World} {A : Around} {R : Result → Shared → Prop} {s : Shared} {elt target iter : Expr} {ifs : List Expr} {scope : Scope} {pos : Pos} {it acc : Value} {env : Env} (I : Nat → Shared → Prop)
    (turn : ∀ n s, I n s → wpAny (model prog w) A (pyNext it) (fun r s₁ => match r with
      | none => R (.ok .next) s₁
      | some v => wpAny (model prog w) A (letOwnedTupleGo target it v) (fun _ s₁' => wpAny (model prog w) A (assign target env v) (fun _ s₂ =>
          wpAny (model prog w) A (forIn ifs true fun c r => if r = true then do let ok ← isTrue c env (eval c env); pure (ForInStep.yield ok) else pure (ForInStep.yield r)) (fun ok s₃ =>
            if ok = true then wpAny (model prog w) A (eval elt env) (fun x s₄ =>
              wpAny (model prog w) A (call (.builtin "list.append") [acc, x]) (fun _ s₅ => ∃ m, m < n ∧ I m s₅) (notedBy (model prog w) A env fun e s' => R (.error e) s') s₄) (notedBy (model prog w) A env fun e s' => R (.error e) s') s₃
            else ∃ m, m < n ∧ I m s₃) (notedBy (model prog w) A env fun e s' => R (.error e) s') s₂) (notedBy (model prog w) A env fun e s' => R (.error e) s') s₁') (notedBy (model prog w) A env fun e s' => R (.error e) s') s₁) (notedBy (model prog w) A env fun e s' => R (.error e) s') s)
    (n : Nat) (h : I n s) :
    codeAny (model prog w) A (.compLoop (.ListComp elt [⟨target, iter, ifs, 0⟩] scope pos) 0 it acc env) R s := by
  refine codeAny_loop rfl I (fun n s hI => ?_) n h
  show wpAny _ A ((compTurn (.ListComp elt [⟨target, iter, ifs, 0⟩] scope pos) 0 it acc env).onRaise (fun x => do noteFrame x env; theTreesLotGoes x)) _ _ s
  refine wpAny_noted ?_
  rw [compTurn_list]
  refine wpAny_bind (wpAny_standAt (wpAny_bind (wpAny_mono (turn n s hI) (fun r s₁ h₁ => ?_) fun _ _ h' => h')))
  cases r with
  | none => exact wpAny_pure h₁
  | some v =>
    refine wpAny_bind (wpAny_mono h₁ (fun _ s₁' h₁' => ?_) fun _ _ h' => h')
    refine wpAny_bind (wpAny_mono h₁' (fun _ s₂ h₂ => wpAny_bind (wpAny_mono h₂ (fun ok s₃ h₃ => ?_) fun _ _ h' => h')) fun _ _ h' => h')
    cases ok with
    | false => exact wpAny_pure ⟨rfl, h₃⟩
    | true =>
      exact wpAny_bind (wpAny_bind (wpAny_mono h₃ (fun x s₄ h₄ => wpAny_bind (wpAny_mono h₄ (fun _ s₅ h₅ => wpAny_pure (wpAny_pure ⟨rfl, h₅⟩)) fun _ _ h' => h')) fun _ _ h' => h'))

section
variable {X : Cx}
noncomputable def tLc (wi : TI) (g : TG) (tt : TT) (te : TE) (vs : List Nat) : TE := fun σ H Q => wi σ H fun J H1 => ∀ D, H1 D = none → ∃ W : Nat → Nat → Hp → Prop, (∃ m, W 0 m (upd H1 D (.lst []))) ∧ ∀ i m H, W i m H →
  (J.stop i H ∧ Q (.ref D) H) ∨ (J.go i H ∧ ∃ Nx : Hp → Prop, (∀ H', Nx H' → ∃ m', m' < m ∧ W (i + 1) m' H') ∧ ∀ x H', J.yld i H x H' → g x (wipe σ vs) H' fun σ2 H2 => wipe σ2 vs = wipe σ vs ∧ tt σ2 H2 fun b H3 =>
    if b = true then te σ2 H3 fun y H4 => ∃ acc, H4 D = some (.lst acc) ∧ acc.length < sizeLine ∧ Nx (upd H4 D (.lst (acc ++ [y]))) else Nx H3)
theorem lc_core {pins : List (Addr × Obj)} {s : Shared} {σ : St} {H : Hp} {Q : VK} {elt tg iter : Expr} {ifs : List Expr} {scope : Scope} {own : List (Str × Nat)} {pos pos' : Pos} {wi : TI} {g : TG} {tt : TT} {te : TE} {use : Option (Value → Sem Unit)} {Qf : Value → Shared → Prop}
    (hc : X.calm = true) (hN : X.N.Nodup) (I : Inv X pins σ H s) (hi : PI X tg iter wi) (ok : BlkOk X.N X.env.scope scope own)
    (hg : ∀ (s : Shared) (H : Hp) (C : Addr) (cl : List (Str × Addr)) (fp : List Addr), PG (X.blk s H scope (compEnvC scope cl C X.env) fp) tg g) (ht : ∀ (s : Shared) (H : Hp) (C : Addr) (cl : List (Str × Addr)) (fp : List Addr), PTs (X.blk s H scope (compEnvC scope cl C X.env) fp) ifs tt)
    (he : ∀ (s : Shared) (H : Hp) (C : Addr) (cl : List (Str × Addr)) (fp : List Addr), PE (X.blk s H scope (compEnvC scope cl C X.env) fp) elt te) (hs : ∀ x, foldedSetIterable iter X.env x = pure x)
    (h : tLc wi g tt te (own.map (·.2)) σ H Q)
    (hRR : ∀ D C s' m H', Inv X pins σ H' s' → Q (.ref D) H' → s'.heap.Ns C m → FpOk X pins H' C → compPost (model X.prog X.w) X.A X.xe use Qf (.ref D) C (.ok .next) s') :
    wpAny (model X.prog X.w) X.A (comprehension (.ListComp elt [⟨tg, iter, ifs, 0⟩] scope pos) scope X.env pos' (newList []) false (eval iter X.env) use) Qf X.xe s := by
  have hfree : ∀ y ∈ scope.names, y.2 = .free → ∃ c, X.env.cells.lookup y.1 = some c := fun y hy e => by
    rcases ok.free y hy e with k | k
    · exact I.ok.has _ (.inl k)
    · exact I.ok.has _ (.inr k)
  refine wpAny_comprehension_free (use := use) rfl hs (closure_ok hfree) ok.kind (fun y hy e => by rw [ok.uniq y hy, e])
    (thn (hi pins s σ H _ I h) fun xv s1 hx => thn hx fun itv s2 h2 => ?_)
  obtain ⟨it, fp, tn, J, H2, e, I2, T, st2, f2, q⟩ := h2
  subst e
  refine wpAny_newObj_type (newEnv_comp ?_) (by show 0 ≤ sizeLine; decide)
  generalize hD : s2.heap.objs.size = D
  have hDn : H2 D = none := I2.hok.fresh (Nat.le_of_eq hD)
  obtain ⟨W, ⟨m0, w0⟩, turn⟩ := q D hDn
  generalize hs3 : ({ s2 with heap := s2.heap.push { cls := .type "list", data := .seq ([] : List Value).toArray } } : Shared) = s3
  have I3 : Inv X pins σ (upd H2 D (.lst [])) s3 := by
    rw [← hs3]
    refine I2.laid (t' := s2.toks) (fun b o e => Heap.get?_push_of_some _ e) (Nat.le_of_eq hD) ⟨Nat.zero_le _, [], 0, .nil, ?_⟩
    rw [← hD]
    exact Heap.get?_push_size _ rfl
  have h3 : s3.heap = s2.heap.push { cls := .type "list", data := .seq ([] : List Value).toArray } := by rw [← hs3]
  have sz : ∀ b ∈ fp, b < s2.heap.objs.size := fun b hb => by
    obtain ⟨o, e, _⟩ := T.obj _ _ st2 b hb
    exact Heap.lt_size e
  have f3 : ∀ b ∈ fp, FpOk X pins (upd H2 D (.lst [])) b ∧ b < s3.heap.objs.size := fun b hb => by
    have hlt := sz b hb
    refine ⟨⟨?_, (f2 b hb).2⟩, by rw [h3, Heap.size_push]; exact Nat.lt_succ_of_lt hlt⟩
    rw [upd_ne (by rw [← hD]; exact Nat.ne_of_lt hlt)]
    exact (f2 b hb).1
  have st3 : tn 0 s3.heap := T.keep _ _ _ st2 fun b _ o e => by rw [h3]; exact Heap.get?_push_of_some _ e
  have I4 := block_start I3 ok hN f3
  have pg := hg s3 (upd H2 D (.lst [])) s3.heap.objs.size (cellsFrom (s3.heap.objs.size + 1) scope.names (cloFrom X.env.cells scope.names [])) fp
  have pt := ht s3 (upd H2 D (.lst [])) s3.heap.objs.size (cellsFrom (s3.heap.objs.size + 1) scope.names (cloFrom X.env.cells scope.names [])) fp
  have pe := he s3 (upd H2 D (.lst [])) s3.heap.objs.size (cellsFrom (s3.heap.objs.size + 1) scope.names (cloFrom X.env.cells scope.names [])) fp
  show codeAny _ _ (.compStart (.ListComp elt [⟨tg, iter, ifs, 0⟩] scope pos) 0 (.ref it) (.ref D) (compEnvC scope (cellsFrom (s3.heap.objs.size + 1) scope.names (cloFrom X.env.cells scope.names [])) s3.heap.objs.size X.env)) (compPost (model X.prog X.w) X.A X.xe use Qf (.ref D) s3.heap.objs.size) { s3 with heap := pushCells (s3.heap.push { cls := .type "dict", data := .dict #[] }) scope.names }
  have nfp : ∀ b ∈ fp, (upd H2 D (.lst [])) b = none := fun b hb => (f3 b hb).1.1
  generalize hce : compEnvC scope (cellsFrom (s3.heap.objs.size + 1) scope.names (cloFrom X.env.cells scope.names [])) s3.heap.objs.size X.env = ce at I4 pg pt pe ⊢
  have cL : ce.locals = s3.heap.objs.size := by subst hce; rfl
  generalize hH3 : upd H2 D (.lst []) = H3 at I3 I4 pg pt pe w0 nfp f3
  generalize hs4 : ({ s3 with heap := pushCells (s3.heap.push { cls := .type "dict", data := .dict #[] }) scope.names } : Shared) = s4 at I4 ⊢
  have st4 : tn 0 s4.heap := T.keep _ _ _ st3 fun b _ o e => by rw [← hs4]; exact pushCells_keeps _ _ _ _ (Heap.get?_push_of_some _ e)
  have stat : ∀ {σ' : St} {H' : Hp} {s' : Shared}, Inv (X.blk s3 H3 scope ce fp) [] σ' H' s' → (∀ b ∈ fp, H' b = none) → ∀ b ∈ fp, FpOk (X.blk s3 H3 scope ce fp) [] H' b := fun {σ' H' s'} I' hn b hb =>
    ⟨hn b hb, (I'.ok.exf b hb).1, I'.ok.exfs b hb, .inl hb, fun x c e => (I'.ok.exf b hb).2 x c e, fun p hp => absurd (show p ∈ ([] : List (Addr × Obj)) ++ [] from hp) (by simp)⟩
  have loop : codeAny (model X.prog X.w) X.A (.compLoop (.ListComp elt [⟨tg, iter, ifs, 0⟩] scope pos) 0 (.ref it) (.ref D) ce) (compPost (model X.prog X.w) X.A X.xe use Qf (.ref D) s3.heap.objs.size) s4 := by
    refine compLoop_any (fun n s' => ∃ i H', Inv (X.blk s3 H3 scope ce fp) [] (wipe σ (own.map (·.2))) H' s' ∧ tn i s'.heap ∧ (∀ b ∈ fp, H' b = none) ∧ W i n H') ?_ m0 ⟨0, H3, I4, st4, nfp, w0⟩
    rintro n s5 ⟨i, H5, I5, st5, n5, w5⟩
    rcases turn i n H5 w5 with ⟨stop, qq⟩ | ⟨go, Nx, hNx, step⟩
    · have td := T.done (X.blk s3 H3 scope ce fp) rfl rfl rfl hc i [] s5 _ H5 (fun _ _ => False) I5 (stat I5 n5) st5 stop
      refine thnF td fun r s6 ⟨hr, I6⟩ => ?_
      subst hr
      have I7 : Inv X pins σ H5 s6 := I3.call' (ch := fp) I6.os I6.base I6.hok I6.bare fun b hb => ⟨(f3 b hb).1.2.2.2.1, (f3 b hb).1.2.1, (f3 b hb).1.2.2.2.2.1, (f3 b hb).1.2.2.2.2.2⟩
      have nC : H5 s3.heap.objs.size = none := by
        have z : H5 ce.locals = none := I6.free
        rw [cL] at z
        exact z
      obtain ⟨m, hn, _⟩ := I6.loc
      have hn : s6.heap.Ns ce.locals m := hn
      rw [cL] at hn
      exact hRR D s3.heap.objs.size s6 m H5 I7 qq hn (I3.fpOk (Nat.le_refl _) nC)
    · have ti := T.item (X.blk s3 H3 scope ce fp) rfl rfl rfl hc i [] s5 _ H5 (fun _ _ => False) I5 (stat I5 n5) st5 go
      refine thnF ti fun r s6 ⟨u, hr, h6⟩ => ?_
      subst hr
      refine thnF h6 fun _ s7 ⟨x, H7, I7, r7, y7, st7, n7⟩ => ?_
      have I7' := I7.pinned (stat I7 n7) (T.obj _ _ st7)
      refine thnF (pg _ s7 _ H7 x u _ I7' r7 (step x H7 y7)) fun _ s8 ⟨σ8, H8, I8, hw8, q8⟩ => ?_
      refine thnF (pt _ s8 σ8 H8 _ I8 q8) fun b s9 ⟨H9, I9, q9⟩ => ?_
      have fin : ∀ {s' : Shared} {H' : Hp}, Inv (X.blk s3 H3 scope ce fp) ([] ++ pinsAt fp s7.heap) σ8 H' s' → Nx H' → ∃ m, m < n ∧ ∃ i H', Inv (X.blk s3 H3 scope ce fp) [] (wipe σ (own.map (·.2))) H' s' ∧ tn i s'.heap ∧ (∀ b ∈ fp, H' b = none) ∧ W i m H' := fun {s' H'} I' nx => by
        obtain ⟨m', hm, w'⟩ := hNx H' nx
        have pin' : ∀ b ∈ fp, ∀ o, s7.heap.get? b = some o → s'.heap.get? b = some o ∧ H' b = none := fun b hb o e =>
          let z := I'.pin (b, o) (List.mem_append_right _ (List.mem_append_right _ (mem_pinsAt hb e)))
          ⟨z.1, z.2.1⟩
        have hl : (wipe σ (own.map (·.2))).length = σ8.length := by rw [← hw8, wipe_length]
        refine ⟨m', hm, i + 1, H', (I'.unpinned (pins := [])).weak hl (fun j v e => ?_), T.keep _ _ _ st7 fun b hb o e => (pin' b hb o e).1, fun b hb => ?_, w'⟩
        · rw [← hw8] at e
          exact (wipe_some e).1
        · obtain ⟨o, e, _⟩ := T.obj _ _ st7 b hb
          exact (pin' b hb o e).2
      cases b with
      | false =>
        simp only [Bool.false_eq_true, if_false] at q9 ⊢
        exact fin I9 q9
      | true =>
        simp only [if_true] at q9 ⊢
        refine thnF (pe _ s9 σ8 H9 _ I9 q9) fun z s10 ⟨yv, H10, I10, r10, acc, hD10, hz10, nx⟩ => ?_
        exact app_ok (X := X.blk s3 H3 scope ce fp) I10 hD10 hz10 r10 fun s11 I11 => fin I11 nx
  exact codeAny_compStart_list loop (T.self X.A 0 _ _ _ st4 loop)
theorem pe_lc {elt tg iter : Expr} {ifs : List Expr} {scope : Scope} {own : List (Str × Nat)} {pos : Pos} {wi : TI} {g : TG} {tt : TT} {te : TE} (hc : X.calm = true) (hN : X.N.Nodup) (hi : PI X tg iter wi) (ok : BlkOk X.N X.env.scope scope own)
    (hg : ∀ (s : Shared) (H : Hp) (C : Addr) (cl : List (Str × Addr)) (fp : List Addr), PG (X.blk s H scope (compEnvC scope cl C X.env) fp) tg g) (ht : ∀ (s : Shared) (H : Hp) (C : Addr) (cl : List (Str × Addr)) (fp : List Addr), PTs (X.blk s H scope (compEnvC scope cl C X.env) fp) ifs tt)
    (he : ∀ (s : Shared) (H : Hp) (C : Addr) (cl : List (Str × Addr)) (fp : List Addr), PE (X.blk s H scope (compEnvC scope cl C X.env) fp) elt te) (hs : ∀ x, foldedSetIterable iter X.env x = pure x := by intro _; rfl) :
    PE X (.ListComp elt [⟨tg, iter, ifs, 0⟩] scope pos) (tLc wi g tt te (own.map (·.2))) := by
  intro pins s σ H Q I h
  rw [eval_ListComp]
  refine lc_core hc hN I hi ok hg ht he hs h fun D C s' m H' I' q hn f => ⟨m, hn, fun h'' sb => ?_⟩
  obtain ⟨f0, f1, f2, f3, f4, f5⟩ := f
  exact ⟨.ref D, H', I'.turned (t' := s'.toks) (fun b o hb e => (sb.2 b hb).trans e) f0 f1 f3 f4 f5, rfl, q⟩
theorem ps_setLc {i : Nat} {y : Str} {py : Pos} {elt tg iter : Expr} {ifs : List Expr} {scope : Scope} {own : List (Str × Nat)} {pos spos : Pos} {wi : TI} {g : TG} {tt : TT} {te : TE} (hc : X.calm = true) (hN : X.N.Nodup) (hy : X.N[i]? = some y) (hyl : X.env.scope.names.lookup y = some .local)
    (hsw : swapsWith (.ListComp elt [⟨tg, iter, ifs, 0⟩] scope pos) (some (.Name y py)) spos.line X.env = pure true) (hi : PI X tg iter wi) (ok : BlkOk X.N X.env.scope scope own)
    (hg : ∀ (s : Shared) (H : Hp) (C : Addr) (cl : List (Str × Addr)) (fp : List Addr), PG (X.blk s H scope (compEnvC scope cl C X.env) fp) tg g) (ht : ∀ (s : Shared) (H : Hp) (C : Addr) (cl : List (Str × Addr)) (fp : List Addr), PTs (X.blk s H scope (compEnvC scope cl C X.env) fp) ifs tt)
    (he : ∀ (s : Shared) (H : Hp) (C : Addr) (cl : List (Str × Addr)) (fp : List Addr), PE (X.blk s H scope (compEnvC scope cl C X.env) fp) elt te) (hs : ∀ x, foldedSetIterable iter X.env x = pure x := by intro _; rfl) :
    PS X (.Assign [.Name y py] (.ListComp elt [⟨tg, iter, ifs, 0⟩] scope pos) spos) (tAsg (tLc wi g tt te (own.map (·.2))) (gName i)) := by
  intro pins s σ H D I h
  rw [exec_Assign_Name_used _ _ _ _ hsw]
  refine wpAny_bind (wpAny_standAt (wpAny_bind ?_))
  show wpAny _ X.A (do let _ ← comprehension (.ListComp elt [⟨tg, iter, ifs, 0⟩] scope pos) scope X.env (firstIterPos [⟨tg, iter, ifs, 0⟩] pos) (newList []) false (eval iter X.env) (some (assign (.Name y py) X.env))) _ _ s
  have h : tLc wi g tt te (own.map (·.2)) σ H (fun x H1 => gName i x σ H1 D.nx) := h
  refine wpAny_bind (thn (lc_core (Qf := fun _ s' => SP X pins D .next s') hc hN I hi ok hg ht he hs h fun L C s' m H' I' q hn f => ?_) fun _ s' hq => wpAny_pure (wpAny_pure hq))
  show wpAny _ _ (assign (.Name y py) X.env (.ref L)) _ _ _
  refine wpAny_assign_Name (store_ok2 (v := V.ref L) I' hN hy (.inl hyl) rfl (fun s2 I2 ⟨a, sb, ha⟩ => ?_) (.inr hyl))
  obtain ⟨f0, f1, f2, f3, f4, f5⟩ := f
  have haC : C ≠ a := by
    rcases ha with z | z
    · rw [z]; exact f1
    · exact fun e => f4 y a z e.symm
  refine ⟨m, hn.sameBut sb haC, fun h3 sb3 => ?_⟩
  exact ⟨_, H', I2.turned (t' := s2.toks) (fun b o hb e => (sb3.2 b hb).trans e) f0 f1 f3 f4 f5, q⟩
end

theorem lc_range {lo : Int} {n : Nat} {g : TG} {tt : TT} {te : TE} {vs : List Nat} {σ : St} {H1 : Hp} {D : Addr} {Qd : Hp → Prop} (Pv : Nat → Hp → Prop) (h0 : Pv 0 (upd H1 D (.lst [])))
    (hs : ∀ i H, i < n → Pv i H → g (.int (lo + i)) (wipe σ vs) H fun σ2 H2 => wipe σ2 vs = wipe σ vs ∧ tt σ2 H2 fun b H3 =>
      if b = true then te σ2 H3 fun y H4 => ∃ acc, H4 D = some (.lst acc) ∧ acc.length < sizeLine ∧ Pv (i + 1) (upd H4 D (.lst (acc ++ [y]))) else Pv (i + 1) H3) (hd : ∀ H, Pv n H → Qd H) :
    ∃ W : Nat → Nat → Hp → Prop, (∃ m, W 0 m (upd H1 D (.lst []))) ∧ ∀ i m H, W i m H →
      ((Itr lo n).stop i H ∧ Qd H) ∨ ((Itr lo n).go i H ∧ ∃ Nx : Hp → Prop, (∀ H', Nx H' → ∃ m', m' < m ∧ W (i + 1) m' H') ∧ ∀ x H', (Itr lo n).yld i H x H' → g x (wipe σ vs) H' fun σ2 H2 => wipe σ2 vs = wipe σ vs ∧ tt σ2 H2 fun b H3 =>
        if b = true then te σ2 H3 fun y H4 => ∃ acc, H4 D = some (.lst acc) ∧ acc.length < sizeLine ∧ Nx (upd H4 D (.lst (acc ++ [y]))) else Nx H3) := by
  refine ⟨fun i m H => m = n - i ∧ i ≤ n ∧ Pv i H, ⟨n, by simp, Nat.zero_le _, h0⟩, ?_⟩
  rintro i m H ⟨rfl, hi, p⟩
  by_cases hlt : i < n
  · refine .inr ⟨hlt, Pv (i + 1), fun H' p' => ⟨n - (i + 1), by lia, rfl, hlt, p'⟩, fun x H' y => ?_⟩
    obtain ⟨e, y⟩ := y
    subst e y
    exact hs i _ hlt p
  · have e : i = n := by lia
    subst e
    exact .inl ⟨Nat.le_refl _, hd H p⟩
theorem lc_list {K : PySem.W.Frag} {a : Addr} {xs : List V} {g : TG} {tt : TT} {te : TE} {vs : List Nat} {σ : St} {H1 : Hp} {D : Addr} {Qd : Hp → Prop} (Pv : Nat → Hp → Prop) (h0 : Pv 0 (upd H1 D (.lst []))) (hl : ∀ i H, i ≤ xs.length → Pv i H → SqL K H a xs)
    (hs : ∀ i x H, xs[i]? = some x → Pv i H → g x (wipe σ vs) H fun σ2 H2 => wipe σ2 vs = wipe σ vs ∧ tt σ2 H2 fun b H3 =>
      if b = true then te σ2 H3 fun y H4 => ∃ acc, H4 D = some (.lst acc) ∧ acc.length < sizeLine ∧ Pv (i + 1) (upd H4 D (.lst (acc ++ [y]))) else Pv (i + 1) H3) (hd : ∀ H, Pv xs.length H → Qd H) :
    ∃ W : Nat → Nat → Hp → Prop, (∃ m, W 0 m (upd H1 D (.lst []))) ∧ ∀ i m H, W i m H →
      ((Itl K a).stop i H ∧ Qd H) ∨ ((Itl K a).go i H ∧ ∃ Nx : Hp → Prop, (∀ H', Nx H' → ∃ m', m' < m ∧ W (i + 1) m' H') ∧ ∀ x H', (Itl K a).yld i H x H' → g x (wipe σ vs) H' fun σ2 H2 => wipe σ2 vs = wipe σ vs ∧ tt σ2 H2 fun b H3 =>
        if b = true then te σ2 H3 fun y H4 => ∃ acc, H4 D = some (.lst acc) ∧ acc.length < sizeLine ∧ Nx (upd H4 D (.lst (acc ++ [y]))) else Nx H3) := by
  refine ⟨fun i m H => m = xs.length - i ∧ i ≤ xs.length ∧ Pv i H, ⟨xs.length, by simp, Nat.zero_le _, h0⟩, ?_⟩
  rintro i m H ⟨rfl, hi, p⟩
  have q := hl i H hi p
  by_cases hlt : i < xs.length
  · refine .inr ⟨⟨xs, xs[i], q, by simp [hlt]⟩, Pv (i + 1), fun H' p' => ⟨xs.length - (i + 1), by lia, rfl, hlt, p'⟩, fun x H' y => ?_⟩
    obtain ⟨e, y⟩ := y
    subst e
    exact hs i x _ (y xs q) p
  · have e : i = xs.length := by lia
    subst e
    exact .inl ⟨⟨xs, q, Nat.le_refl _⟩, hd H p⟩
end L2

namespace L2
open PySem PySem.Spec PyProof.Rows


section
variable {prog : Program} {w : World} {A : Around} {R : Result → Shared → Prop} {s : Shared} {elt t0 i0 t1 i1 : Expr} {ifs0 ifs1 : List Expr} {scope : Scope} {pos : Pos} {it acc : Value} {env : Env}
end

section
variable {X : Cx}
end
end L2

namespace L2
open PySem PySem.Spec PyProof.Rows

section
variable {κ : Type} [DecidableEq κ]



end




section
variable {P : Program} {w : World} {H : Hp} {h : Heap} {a : Addr}
end



section
variable {X : Cx} {pins : List (Addr × Obj)} {σ : St} {H : Hp} {s : Shared} {a : Addr} {y v : V} {u r : Value} {o : Option V} {A : Around} {E : Value → Shared → Prop}


end

section
variable {X : Cx} {pins : List (Addr × Obj)} {σ : St} {H : Hp} {s : Shared} {a : Addr} {kvs : List (Key × V)} {k : Key} {u : Value} {A : Around} {E : Value → Shared → Prop}
end





section
variable {X : Cx} {o i e value : Expr} {pos pos' tpos : Pos} {td ty tv : TE}
end


section
variable {X : Cx} {pos : Pos}
end






section
variable {X : Cx} {pins : List (Addr × Obj)} {σ : St} {H : Hp} {s : Shared} {a : Addr} {y d : V} {u r : Value} {o : Option V} {A : Around} {E : Value → Shared → Prop}
end

section
variable {X : Cx} {o e f : Expr} {apos cpos : Pos} {td ty tx : TE}
end

section
variable {X : Cx} {pins : List (Addr × Obj)} {σ : St} {H : Hp} {s : Shared} {a : Addr} {kvs : List (Key × V)} {A : Around} {E : Value → Shared → Prop}
end


section
variable {X : Cx} {pins : List (Addr × Obj)} {σ : St} {H : Hp} {s : Shared} {a : Addr} {y : V} {u : Value} {A : Around} {E : Value → Shared → Prop}
end
end L2

namespace L2
open PySem PySem.Spec PyProof.Rows


section
variable {prog : Program} {w : World} {A : Around} {E : Value → Shared → Prop}


end

section
variable {X : Cx}
end
end L2

namespace L2
open PySem PySem.Spec PyProof.Rows

theorem boot_reversed5 : bootBuiltins "reversed" = some (.type "reversed") := by decide +kernel

section
variable {X : Cx} {pins : List (Addr × Obj)} {σ : St} {H : Hp} {s : Shared} {h' : Heap}
theorem Inv.turnedL {t' : Nat} {ch : List Addr} (I : Inv X pins σ H s) (k : ∀ b o, b ∉ ch → s.heap.get? b = some o → h'.get? b = some o) (hf : ∀ b ∈ ch, FpOk X pins H b) : Inv X pins σ H { s with heap := h', toks := t' } := by
  have nit : ∀ b u, H b = some u → b ∉ ch := fun b u e z => by
    have q := (hf b z).1
    rw [q] at e; cases e
  refine I.step (g' := s.gens) (d' := s.drawn) (ch := ch) (fun b hb => ⟨(hf b hb).2.2.2.1, (hf b hb).2.1, (hf b hb).2.2.2.2.1, (hf b hb).2.2.2.2.2⟩) (fun b o _ _ hc e _ => k b o hc e) (fun b o _ _ hc e _ => ⟨o.slots, k b o hc e⟩)
    (fun _ _ _ _ n => n) (fun b o hc e => ⟨o, k b o hc e⟩) (fun _ _ e => e) (fun _ _ _ e => e) (fun b ps e => ⟨#[], by rw [e]; simp⟩) (fun m hm => ?_) (fun b u e => ?_) I.bare
  · obtain ⟨o, es, ep, ho, r⟩ := hm
    exact ⟨o, es, ep, k _ o (fun z => (hf _ z).2.1 rfl) ho, r⟩
  · refine (I.hok b u e).stay (fun c v hc q => k c v ?_ q) (fun _ q => q) fun _ _ q => q
    rcases hc with z | z
    · rw [z]; exact nit b u e
    · exact nit c _ z
theorem Inv.turnedNew {t' : Nat} {ch : List Addr} {T : Addr} {ob : HO} (I : Inv X pins σ H s) (k : ∀ b o, b ∉ ch → s.heap.get? b = some o → h'.get? b = some o) (hf : ∀ b ∈ ch, FpOk X pins H b) (hT : s.heap.objs.size ≤ T)
    (new : ObjOk X.prog X.w (upd H T ob) h' T ob) : Inv X pins σ (upd H T ob) { s with heap := h', toks := t' } := by
  have hn : H T = none := I.hok.fresh hT
  have nit : ∀ b u, H b = some u → b ∉ ch := fun b u e z => by
    have q := (hf b z).1
    rw [q] at e; cases e
  refine I.step (g' := s.gens) (d' := s.drawn) (ch := ch) (fun b hb => ⟨(hf b hb).2.2.2.1, (hf b hb).2.1, (hf b hb).2.2.2.2.1, (hf b hb).2.2.2.2.2⟩) (fun b o _ _ hc e _ => k b o hc e) (fun b o _ _ hc e _ => ⟨o.slots, k b o hc e⟩)
    (fun b o _ e n => ?_) (fun b o hc e => ⟨o, k b o hc e⟩) (fun b xs e => ?_) (fun b o u e => ?_) (fun b ps e => ⟨#[], ?_⟩) (fun m hm => ?_) (fun b u e => ?_) I.bare
  · rw [upd_ne (Nat.ne_of_lt (Nat.lt_of_lt_of_le (Heap.lt_size e) hT))]; exact n
  · rw [upd_ne (ne_of_none e hn)]; exact e
  · rw [upd_ne (ne_of_none e hn)]; exact e
  · rw [upd_ne (ne_of_none e hn), e]; simp
  · obtain ⟨o, es, ep, ho, r⟩ := hm
    exact ⟨o, es, ep, k _ o (fun z => (hf _ z).2.1 rfl) ho, r⟩
  · by_cases hb : b = T
    · subst hb
      rw [upd_same] at e
      cases e
      exact new
    · rw [upd_ne hb] at e
      refine (I.hok b u e).stay (fun c v hc q => k c v ?_ q) (fun c q => by rw [upd_ne (ne_of_none q hn)]; exact q) fun c xs q => by rw [upd_ne (ne_of_none q hn)]; exact q
      rcases hc with z | z
      · rw [z]; exact nit b u e
      · exact nit c _ z

end
section
variable {X : Cx}

theorem pi_one {tg : Expr} {pins : List (Addr × Obj)} {σ : St} {H : Hp} {s : Shared} {R : It → Hp → Prop} {J : It} {tn : Nat → Heap → Prop} {tk : Nat} (I : Inv X pins σ H s) (o : Obj)
    (T : Turn X.prog X.w X.K tg J [s.heap.objs.size] s.heap.objs.size tn) (st : tn 0 (s.heap.push o)) (q : R J H) : PIE X pins σ tg R (.ref s.heap.objs.size) { s with heap := s.heap.push o, toks := tk } := by
  refine ⟨s.heap.objs.size, [s.heap.objs.size], tn, J, H, rfl, I.kept fun b ob e => Heap.get?_push_of_some _ e, T, st, fun b hb => ?_, q⟩
  have e : b = s.heap.objs.size := by simpa using hb
  subst e
  exact I.fpOk (Nat.le_refl _) (I.hok.fresh (Nat.le_refl _))
end

noncomputable def Itc (lo c : Int) (n : Nat) : It := ⟨fun i _ => i < n, fun i H x H' => H' = H ∧ x = .int (lo + (i : Nat) * c), fun i _ => n ≤ i⟩
theorem turn_rangeC {P : Program} {w : World} {K : PySem.W.Frag} {tg : Expr} (it : Addr) (lo c : Int) (n : Nat) : Turn P w K tg (Itc lo c n) [it] it (fun i h => IsRangeIter h it (lo + (i : Nat) * c) ((n : Int) - (i : Nat)) c) where
  mem := by simp
  obj := fun i h st b hb => by
    have e : b = it := by simpa using hb
    subst e
    exact ⟨_, st, fun v z => nomatch z⟩
  keep := fun i h h' st k => k it (by simp) _ st
  item := by
    intro X hP hw hK hc i pins s σ H E I hf st hg
    subst hP hw hK
    obtain ⟨f0, f1, f2, f3, f4, f5⟩ := hf it (by simp)
    have W := Walks.range (prog := X.prog) (w := X.w) (I.ok.hd hc) it lo c n
    refine W.item i s _ _ hg st fun v h' tk hv st' kk => ?_
    obtain ⟨t, rfl⟩ := hv
    have I1 : Inv X pins σ H { s with heap := h', toks := tk } := I.turned (fun b o hb e => kk b o (by simpa using hb) e) f0 f1 f3 f4 f5
    exact ⟨_, rfl, go_of (s := { s with heap := h', toks := tk }) (n := "range_iterator") st' rfl rfl (by decide) ⟨.int (lo + (i : Nat) * c), H, I1, ⟨t, rfl⟩, ⟨rfl, rfl⟩, st', fun b hb => (hf b hb).1⟩⟩
  done := by
    intro X hP hw hK hc i pins s σ H E I hf st hg
    subst hP hw hK
    obtain ⟨f0, f1, f2, f3, f4, f5⟩ := hf it (by simp)
    exact wpAny_pyNext_range_end (I.ok.hd hc) st (by have : n ≤ i := hg; lia) fun h' eb => ⟨rfl, I.turned (t' := s.toks) (fun b o hb e => eb b o hb e) f0 f1 f3 f4 f5⟩
  self := fun A i s Q E st h => wpAny_pyIter_rangeiter st h
noncomputable def RgC (i j c : Int) (n : Nat) : Prop := c ≠ 0 ∧ c.natAbs < 1073741824 ∧ Builtin.Range.small i j c = true ∧ Builtin.Range.rangeSize i j c = n
theorem RgC.neg {i j : Int} (ha : -(2 ^ 62) ≤ i) (ha' : i < 2 ^ 62) (hb : -(2 ^ 62) ≤ j) (hb' : j < 2 ^ 62) : RgC i j (-1) (i - j).toNat :=
  ⟨by decide, by decide, PySem.W.small_down ha ha' hb hb', PySem.W.rangeSize_downNat i j⟩
noncomputable def iRng3 (ta : TA) : TI := fun σ H R => ta σ H fun vs H1 => ∃ (i j c : Int) (n : Nat), vs = [.int i, .int j, .int c] ∧ RgC i j c n ∧ R (Itc i c n) H1
section
variable {X : Cx} {tg : Expr}
theorem pi_range3 {a b c : Expr} {ta : TA} {p pos : Pos} (hg : Gl X "range") (hm : X.mg "range" = none) (ha : PA X [a, b, c] ta)
    (hs : starEach [a, b, c] X.env = (false, eval a X.env) :: starEach [b, c] X.env := by rfl) (hpl : (backTo pos (starEach [b, c] X.env)).any (·.1) = false := by rfl) :
    PI X tg (.Call (.Name "range" p) [a, b, c] [] pos) (iRng3 ta) := by
  intro pins s σ H R I h
  refine Call_ (ld_blt I hg hm boot_range (PyProof.Rows.callWith_type1 (thn (ha pos pins s σ H _ I h) fun us s1 ⟨vs, H1, I1, r1, q1⟩ => ?_) hs hpl))
  obtain ⟨i, j, k, n, e, ⟨c0, c1, c2, c3⟩, q⟩ := q1
  subst e
  cases r1 with
  | cons r rr =>
    cases rr with
    | cons r' rr =>
      cases rr with
      | cons r'' rr =>
        cases rr
        obtain ⟨t, rfl⟩ := r
        obtain ⟨t', rfl⟩ := r'
        obtain ⟨t'', rfl⟩ := r''
        refine call_range_3 c0 ?_ (.inl (PyProof.noPylong_small c1))
        refine wpAny_pyIter_range (IsRange.new ..) c2 ?_
        have I2 : Inv X pins σ H1 { s1 with heap := s1.heap.push { cls := .type "range", data := .fields #[.int i t, .int j t', .int k t''] } } := I1.kept (t' := s1.toks) fun b o e => Heap.get?_push_of_some _ e
        refine pi_one (tk := s1.toks) I2 _ (turn_rangeC _ i k n) ?_ q
        have e1 : i + ((0 : Nat) : Int) * k = i := by simp
        have e2 : (n : Int) - ((0 : Nat) : Int) = Builtin.Range.rangeSize i j k := by rw [c3]; simp
        show IsRangeIter _ _ (i + ((0 : Nat) : Int) * k) ((n : Int) - ((0 : Nat) : Int)) k
        rw [e1, e2]
        exact Heap.get?_push_size _ rfl
end
theorem for_rangeC {lo c : Int} {n : Nat} {g : TG} {tb : TS} {D : Ends} {σ : St} {H : Hp} (Pv : Nat → St → Hp → Prop) (h0 : Pv 0 σ H)
    (hs : ∀ i σ H, i < n → Pv i σ H → g (.int (lo + (i : Nat) * c)) σ H fun σ2 H2 => tb { D with nx := Pv (i + 1), ct := Pv (i + 1), bk := D.nx } σ2 H2) (hd : ∀ σ H, Pv n σ H → D.nx σ H) :
    ∃ W : Nat → Nat → St → Hp → Prop, (∃ m, W 0 m σ H) ∧ ∀ i m σ H, W i m σ H →
      ((Itc lo c n).stop i H ∧ D.nx σ H) ∨ ((Itc lo c n).go i H ∧ ∃ N : St → Hp → Prop, (∀ σ' H', N σ' H' → ∃ m', m' < m ∧ W (i + 1) m' σ' H') ∧ ∀ x H', (Itc lo c n).yld i H x H' → g x σ H' fun σ2 H2 => tb { D with nx := N, ct := N, bk := D.nx } σ2 H2) := by
  refine ⟨fun i m σ H => m = n - i ∧ i ≤ n ∧ Pv i σ H, ⟨n, by simp, Nat.zero_le _, h0⟩, ?_⟩
  rintro i m σ H ⟨rfl, hi, p⟩
  by_cases hlt : i < n
  · refine .inr ⟨hlt, Pv (i + 1), fun σ' H' p' => ⟨n - (i + 1), by lia, rfl, hlt, p'⟩, fun x H' y => ?_⟩
    obtain ⟨e, y⟩ := y
    subst e y
    exact hs i σ _ hlt p
  · have e : i = n := by lia
    subst e
    exact .inl ⟨Nat.le_refl _, hd σ H p⟩

noncomputable def Itv (K : PySem.W.Frag) (a : Addr) (n : Nat) : It :=
  ⟨fun i H => i < n ∧ ∃ (xs : List V) (x : V), SqL K H a xs ∧ xs[n - 1 - i]? = some x, fun i H x H' => H' = H ∧ ∀ xs, SqL K H a xs → xs[n - 1 - i]? = some x, fun i _ => n ≤ i⟩
theorem turn_rev {P : Program} {w : World} {K : PySem.W.Frag} {tg : Expr} (a it : Addr) (n : Nat) : Turn P w K tg (Itv K a n) [it] it (fun i h => i ≤ n ∧ h.IsRevIter it a ((n : Int) - 1 - (i : Nat))) where
  mem := by simp
  obj := fun i h st b hb => by
    have e : b = it := by simpa using hb
    subst e
    obtain ⟨_, o, e, c, d⟩ := st
    exact ⟨o, e, fun v z => by rw [d] at z; cases z⟩
  keep := fun i h h' st k => ⟨st.1, st.2.at fun o e => k it (by simp) o e⟩
  item := by
    intro X hP hw hK hc i pins s σ H E I hf st hg
    subst hP hw hK
    obtain ⟨hin, xs, x, hq, hx⟩ := hg
    obtain ⟨its, rv, p, hz⟩ := I.list hq
    obtain ⟨u, hu, ru⟩ := rv.get hx
    obtain ⟨f0, f1, f2, f3, f4, f5⟩ := hf it (by simp)
    obtain ⟨_, hit⟩ := st
    have e1 : (n : Int) - 1 - ((i : Nat) : Int) = ((n - 1 - i : Nat) : Int) := by lia
    rw [e1] at hit
    refine wpAny_pyNext_rev_item hit p.isList (x := u) (by simpa using hu) fun h' st' sb => ?_
    have e2 : ((n - 1 - i : Nat) : Int) - 1 = (n : Int) - 1 - ((i + 1 : Nat) : Int) := by lia
    rw [e2] at st'
    have I1 : Inv X pins σ H { s with heap := h' } := I.turned (t' := s.toks) (fun b o hb e => (sb.2 b hb).trans e) f0 f1 f3 f4 f5
    obtain ⟨o, e, c, d⟩ := id st'
    exact ⟨u, rfl, go_of (s := { s with heap := h' }) e c d (by decide) ⟨x, H, I1, ru, ⟨rfl, fun ys hy => by rw [I.list_inj hy hq]; exact hx⟩, ⟨hin, st'⟩, fun b hb => (hf b hb).1⟩⟩
  done := by
    intro X hP hw hK hc i pins s σ H E I hf st hg
    subst hP hw hK
    obtain ⟨f0, f1, f2, f3, f4, f5⟩ := hf it (by simp)
    obtain ⟨hin, hit⟩ := st
    have hge : n ≤ i := hg
    have e1 : (n : Int) - 1 - ((i : Nat) : Int) = -1 := by lia
    rw [e1] at hit
    exact wpAny_pyNext_rev_end (I.ok.hd hc) hit fun h' eb => ⟨rfl, I.turned (t' := s.toks) (fun b o hb e => eb b o hb e) f0 f1 f3 f4 f5⟩
  self := fun A i s Q E st h => wpAny_pyIter_revIter st.2 h
noncomputable def iRev (K : PySem.W.Frag) (ta : TA) : TI := fun σ H R => ta σ H fun vs H1 => ∃ (a : Addr) (xs : List V), vs = [.ref a] ∧ SqL K H1 a xs ∧ R (Itv K a xs.length) H1
section
variable {X : Cx} {tg : Expr}
theorem pi_reversed {e : Expr} {ta : TA} {p pos : Pos} (hg : Gl X "reversed") (hm : X.mg "reversed" = none) (ha : PA X [e] ta) (hs : starEach [e] X.env = [(false, eval e X.env)] := by rfl) : PI X tg (.Call (.Name "reversed" p) [e] [] pos) (iRev X.K ta) := by
  intro pins s σ H R I h
  refine Call_ (ld_blt I hg hm boot_reversed5 (PyProof.Rows.callWith_type1 (thn (ha pos pins s σ H _ I h) fun us s1 ⟨vs, H1, I1, r1, q1⟩ => ?_) hs rfl))
  obtain ⟨a, xs, e, hq, q⟩ := q1
  subst e
  cases r1 with
  | cons r rr =>
    cases rr
    cases r
    obtain ⟨its, rv, p', hz⟩ := I1.list hq
    have hl := rv.length
    have e1 : ((its.toArray.size : Nat) : Int) - 1 = (xs.length : Int) - 1 - ((0 : Nat) : Int) := by simp only [List.size_toArray]; lia
    refine call_reversed_list p'.isList (wpAny_pyIter_revIter (l := a) (i := ((its.toArray.size : Nat) : Int) - 1) ⟨_, Heap.get?_push_size _ rfl, rfl, rfl⟩ ?_)
    refine pi_one (tk := s1.toks) I1 _ (turn_rev a _ xs.length) ⟨Nat.zero_le _, ?_⟩ q
    rw [← e1]
    exact ⟨_, Heap.get?_push_size _ rfl, rfl, rfl⟩
end

noncomputable def Its (x : Str) : It := ⟨fun i _ => i < x.cps.size, fun i H v H' => H' = H ∧ ∃ c, x.cps[i]? = some c ∧ v = .str ⟨#[c]⟩, fun i _ => x.cps.size ≤ i⟩
theorem turn_str {P : Program} {w : World} {K : PySem.W.Frag} {tg : Expr} (it : Addr) (x : Str) (t : Tok) (ty : String) (hty : ty = "str_ascii_iterator" ∨ ty = "str_iterator") :
    Turn P w K tg (Its x) [it] it (fun i h => h.IsStrIter it ty x t i) where
  mem := by simp
  obj := fun i h st b hb => by
    have e : b = it := by simpa using hb
    subst e
    obtain ⟨o, e, c, d⟩ := st
    exact ⟨o, e, fun v z => by rw [d] at z; cases z⟩
  keep := fun i h h' st k => let ⟨o, ho, r⟩ := st; ⟨o, k it (by simp) o ho, r⟩
  item := by
    intro X hP hw hK hc i pins s σ H E I hf st hg
    subst hP hw hK
    obtain ⟨f0, f1, f2, f3, f4, f5⟩ := hf it (by simp)
    have W : Walks X.prog X.w X.A it [it] [it] x.cps.size (SignAt x) (fun i h => h.IsStrIter it ty x t i) := by
      rcases hty with e | e
      · rw [e]; exact Walks.strAscii (I.ok.hd hc) it x t
      · rw [e]; exact Walks.strWide (I.ok.hd hc) it x t
    have hno : ["enumerate", "zip", "dict_itemiterator", "dict_reverseitemiterator", "odict_iterator", "itertools.zip_longest", "itertools.pairwise"].contains ty = false := by
      rcases hty with e | e
      · rw [e]; decide
      · rw [e]; decide
    refine W.item i s _ _ hg st fun v h' tk hv st' kk => ?_
    obtain ⟨c, u, hcx, rfl⟩ := hv
    have I1 : Inv X pins σ H { s with heap := h', toks := tk } := I.turned (fun b o hb e => kk b o (by simpa using hb) e) f0 f1 f3 f4 f5
    obtain ⟨oi, e, cc, dd⟩ := id st'
    exact ⟨_, rfl, go_of (s := { s with heap := h', toks := tk }) e cc dd hno ⟨.str ⟨#[c]⟩, H, I1, ⟨u, rfl⟩, ⟨rfl, c, hcx, rfl⟩, st', fun b hb => (hf b hb).1⟩⟩
  done := by
    intro X hP hw hK hc i pins s σ H E I hf st hg
    subst hP hw hK
    obtain ⟨f0, f1, f2, f3, f4, f5⟩ := hf it (by simp)
    have hx : x.cps[i]? = none := Array.getElem?_eq_none hg
    rcases hty with e | e
    · rw [e] at st
      exact wpAny_pyNext_ascii_end (I.ok.hd hc) st hx fun h' eb => ⟨rfl, I.turned (t' := s.toks) (fun b o hb e => eb b o hb e) f0 f1 f3 f4 f5⟩
    · rw [e] at st
      exact wpAny_pyNext_wide_end (I.ok.hd hc) st hx fun h' eb => ⟨rfl, I.turned (t' := s.toks) (fun b o hb e => eb b o hb e) f0 f1 f3 f4 f5⟩
  self := fun A i s Q E st h => by
    rcases hty with e | e
    · rw [e] at st; exact wpAny_pyIter_striter_ascii st h
    · rw [e] at st; exact wpAny_pyIter_striter_wide st h
noncomputable def iStr (te : TE) : TI := fun σ H R => te σ H fun v H1 => ∃ x, v = .str x ∧ R (Its x) H1
theorem pi_str {X : Cx} {tg e : Expr} {te : TE} (he : PE X e te) : PI X tg e (iStr te) := by
  intro pins s σ H R I h
  refine thn (he pins s σ H _ I h) fun v s1 ⟨y, H1, I1, r1, x, ex, q⟩ => ?_
  subst ex
  obtain ⟨t, rfl⟩ := r1
  cases ha : x.cps.all (· < 128)
  · exact wpAny_pyIter_wide ha (pi_one (tk := s1.toks) I1 _ (turn_str _ x t "str_iterator" (.inr rfl)) ⟨_, Heap.get?_push_size _ rfl, rfl, rfl⟩ q)
  · exact wpAny_pyIter_ascii ha (pi_one (tk := s1.toks) I1 _ (turn_str _ x t "str_ascii_iterator" (.inl rfl)) ⟨_, Heap.get?_push_size _ rfl, rfl, rfl⟩ q)

section
variable {prog : Program} {w : World} {A : Around} {E : Value → Shared → Prop} {s : Shared}
end

section
variable {X : Cx} {pins : List (Addr × Obj)} {σ : St} {H : Hp} {s : Shared} {d : Addr} {o : Obj}
end

section
variable {P : Program} {w : World} {K : PySem.W.Frag} {tg : Expr} {d : Addr} {o : Obj} {es : Array DictEntry} {ep : Nat}
end

section
variable {X : Cx} {tg e : Expr} {td : TE} {apos cpos : Pos}
end

theorem boot_zip5 : bootBuiltins "zip" = some (.type "zip") := by decide +kernel
noncomputable def Itz (K : PySem.W.Frag) (a b : Addr) : It :=
  ⟨fun i H => ∃ (xs ys : List V) (x y : V), SqL K H a xs ∧ SqL K H b ys ∧ xs[i]? = some x ∧ ys[i]? = some y,
    fun i H v H' => ∃ T x y, v = .ref T ∧ H T = none ∧ H' = upd H T (.tup [x, y]) ∧ (∀ xs, SqL K H a xs → xs[i]? = some x) ∧ ∀ ys, SqL K H b ys → ys[i]? = some y,
    fun i H => ∃ xs ys : List V, SqL K H a xs ∧ SqL K H b ys ∧ (xs.length ≤ i ∨ ys.length ≤ i)⟩
theorem turn_zip {P : Program} {w : World} {K : PySem.W.Frag} {elts : List Expr} {kk : Nat} {tpos : Pos} {a b z TI TO i1 i2 : Addr} (D : ZipApart z TI TO i1 i2 a b) :
    Turn P w K (.Tuple elts kk tpos) (Itz K a b) [z, TI, TO, i1, i2] z (fun i h => IsZip h z TI TO .none ∧ IsPair h TI (.ref i1) (.ref i2) ∧ (∃ x y, IsPair h TO x y) ∧ h.IsListIter i1 a i ∧ h.IsListIter i2 b i) where
  mem := by simp
  obj := fun i h st c hc => by
    obtain ⟨hz, hTI, ⟨x, y, hTO⟩, ⟨o1, e1, _, d1⟩, ⟨o2, e2, _, d2⟩⟩ := st
    have e' : c = z ∨ c = TI ∨ c = TO ∨ c = i1 ∨ c = i2 := by simpa using hc
    rcases e' with q | q | q | q | q
    · rw [q]; exact ⟨_, hz, fun v q => nomatch q⟩
    · rw [q]; exact ⟨_, hTI, fun v q => nomatch q⟩
    · rw [q]; exact ⟨_, hTO, fun v q => nomatch q⟩
    · rw [q]; exact ⟨o1, e1, fun v q => by rw [d1] at q; cases q⟩
    · rw [q]; exact ⟨o2, e2, fun v q => by rw [d2] at q; cases q⟩
  keep := fun i h h' st k => by
    obtain ⟨hz, hTI, ⟨x, y, hTO⟩, h1, h2⟩ := st
    exact ⟨k z (by simp) _ hz, k TI (by simp) _ hTI, ⟨x, y, k TO (by simp) _ hTO⟩, h1.at fun o q => k i1 (by simp) o q, h2.at fun o q => k i2 (by simp) o q⟩
  item := by
    intro X hP hw hK hc i pins s σ H E I hf st hg
    subst hP hw hK
    obtain ⟨hz, hTI, ⟨x0, y0, hTO⟩, h1, h2⟩ := st
    obtain ⟨xs, ys, x, y, hqx, hqy, hx, hy⟩ := hg
    obtain ⟨its, rv, p, _⟩ := I.list hqx
    obtain ⟨its2, rv2, p2, _⟩ := I.list hqy
    obtain ⟨u, hu, ru⟩ := rv.get hx
    obtain ⟨u2, hu2, ru2⟩ := rv2.get hy
    have hzl : z < s.heap.objs.size := Heap.lt_size hz
    refine wpAny_pyNext_zip_item D hz hTI hTO h1 h2 p.isList p2.isList (x := u) (y := u2) (by simpa using hu) (by simpa using hu2) fun h' z' TO' h1' h2' hT hsz hk => ?_
    refine ⟨_, rfl, wpAny_letOwnedTupleGo_zip (s := { s with heap := h' }) z' fun h'' z'' sb => ?_⟩
    have hT2 : h''.get? s.heap.objs.size = some { cls := .type "tuple", data := .seq #[u, u2] } := (sb.2 _ (Nat.ne_of_gt hzl)).trans hT
    have new : ObjOk X.prog X.w (upd H s.heap.objs.size (.tup [x, y])) h'' s.heap.objs.size (.tup [x, y]) :=
      ⟨by show 2 ≤ sizeLine; decide, [u, u2], .cons ru (.cons ru2 .nil), ⟨_, hT2, rfl, _, rfl⟩⟩
    have I1 : Inv X pins σ (upd H s.heap.objs.size (.tup [x, y])) { s with heap := h'' } :=
      I.turnedNew (t' := s.toks) (ch := [z, TI, TO, i1, i2]) (fun c o hb q => (sb.2 c (fun q' => hb (by simp [q']))).trans (hk c o (fun q' => hb (by simp [q'])) (fun q' => hb (by simp [q'])) (fun q' => hb (by simp [q'])) (fun q' => hb (by simp [q'])) q)) hf (Nat.le_refl _) new
    refine ⟨.ref s.heap.objs.size, _, I1, rfl, ⟨_, x, y, rfl, I.hok.fresh (Nat.le_refl _), rfl, fun l hl => by rw [I.list_inj hl hqx]; exact hx, fun l hl => by rw [I.list_inj hl hqy]; exact hy⟩, ⟨z'', ?_, ⟨u, u2, ?_⟩, ?_, ?_⟩, fun c hcm => ?_⟩
    · exact (sb.2 _ D.TIz).trans (hk _ _ D.TIz D.TITO D.TIi1 D.TIi2 hTI)
    · exact (sb.2 _ D.TOz).trans TO'
    · exact h1'.at fun o q => (sb.2 _ D.i1z).trans q
    · exact h2'.at fun o q => (sb.2 _ D.i2z).trans q
    · have hlt : c < s.heap.objs.size := by
        have e' : c = z ∨ c = TI ∨ c = TO ∨ c = i1 ∨ c = i2 := by simpa using hcm
        rcases e' with q | q | q | q | q
        · rw [q]; exact hzl
        · rw [q]; exact Heap.lt_size hTI
        · rw [q]; exact Heap.lt_size hTO
        · rw [q]; obtain ⟨_, e1, _⟩ := h1; exact Heap.lt_size e1
        · rw [q]; obtain ⟨_, e2, _⟩ := h2; exact Heap.lt_size e2
      rw [upd_ne (Nat.ne_of_lt hlt)]
      exact (hf c hcm).1
  done := by
    intro X hP hw hK hc i pins s σ H E I hf st hg
    subst hP hw hK
    obtain ⟨hz, hTI, ⟨x0, y0, hTO⟩, h1, h2⟩ := st
    obtain ⟨xs, ys, hqx, hqy, hend⟩ := hg
    obtain ⟨its, rv, p, _⟩ := I.list hqx
    obtain ⟨its2, rv2, p2, _⟩ := I.list hqy
    have l1 := rv.length
    have l2 := rv2.length
    have he : its.toArray[i]? = none ∨ its2.toArray[i]? = none := by
      rcases hend with q | q
      · exact .inl (by simp; lia)
      · exact .inr (by simp; lia)
    exact wpAny_pyNext_zip_end (I.ok.hd hc) D hz hTI hTO h1 h2 p.isList p2.isList he fun h' hk => ⟨rfl, I.turnedL (t' := s.toks) (ch := [z, TI, TO, i1, i2]) (fun c o hb q =>
      hk c o (fun q' => hb (by simp [q'])) (fun q' => hb (by simp [q'])) (fun q' => hb (by simp [q'])) (fun q' => hb (by simp [q'])) q) hf⟩
  self := fun A i s Q E st h => wpAny_pyIter_zip st.1 h
noncomputable def iZip (K : PySem.W.Frag) (ta : TA) : TI := fun σ H R => ta σ H fun vs H1 => ∃ a b xs ys, vs = [.ref a, .ref b] ∧ SqL K H1 a xs ∧ SqL K H1 b ys ∧ R (Itz K a b) H1
theorem pi_zip {X : Cx} {e e2 : Expr} {ta : TA} {p pos tpos : Pos} {elts : List Expr} {kk : Nat} (hg : Gl X "zip") (hm : X.mg "zip" = none) (ha : PA X [e, e2] ta)
    (hs : starEach [e, e2] X.env = (false, eval e X.env) :: starEach [e2] X.env := by rfl) (hpl : (backTo pos (starEach [e2] X.env)).any (·.1) = false := by rfl) :
    PI X (.Tuple elts kk tpos) (.Call (.Name "zip" p) [e, e2] [] pos) (iZip X.K ta) := by
  intro pins s σ H R I h
  refine Call_ (ld_blt I hg hm boot_zip5 (PyProof.Rows.callWith_type1 (thn (ha pos pins s σ H _ I h) fun us s1 ⟨vs, H1, I1, r1, q1⟩ => ?_) hs hpl))
  obtain ⟨a, b, xs, ys, ex, hqx, hqy, q⟩ := q1
  subst ex
  cases r1 with
  | cons r rr =>
    cases rr with
    | cons r' rr =>
      cases rr
      cases r
      cases r'
      obtain ⟨its, rv, p1, _⟩ := I1.list hqx
      obtain ⟨its2, rv2, p2, _⟩ := I1.list hqy
      have la : a < s1.heap.objs.size := p1.lt
      have lb : b < s1.heap.objs.size := p2.lt
      refine call_zip_2 p1.isList p2.isList fun h' hz hTI hTO h1 h2 hsz hk => wpAny_pyIter_zip hz ?_
      have I2 : Inv X pins σ H1 { s1 with heap := h' } := I1.kept (t' := s1.toks) hk
      refine ⟨s1.heap.objs.size + 4, [s1.heap.objs.size + 4, s1.heap.objs.size + 2, s1.heap.objs.size + 3, s1.heap.objs.size, s1.heap.objs.size + 1], _, _, H1, rfl, I2, turn_zip (PySem.W.ktu_apart s1.heap.objs.size a b la lb), ⟨hz, hTI, ⟨_, _, hTO⟩, h1, h2⟩, fun c hcm => ?_, q⟩
      have e' : c = s1.heap.objs.size + 4 ∨ c = s1.heap.objs.size + 2 ∨ c = s1.heap.objs.size + 3 ∨ c = s1.heap.objs.size ∨ c = s1.heap.objs.size + 1 := by simpa using hcm
      have hle : s1.heap.objs.size ≤ c := by
        rcases e' with z | z | z | z | z
        · rw [z]; exact Nat.le_add_right _ _
        · rw [z]; exact Nat.le_add_right _ _
        · rw [z]; exact Nat.le_add_right _ _
        · rw [z]; exact Nat.le_refl _
        · rw [z]; exact Nat.le_add_right _ _
      exact I1.fpOk hle (I1.hok.fresh hle)
end L2

section 
namespace Bits
open PySem PyProof.Rows








end Bits
end 

section 
namespace TL
open PySem PySem.Builtin PySem.Builtin.Str PySem.StrLaws













end TL
end 

namespace L2
open PySem PySem.Spec PyProof.Rows




section
variable {X : Cx} {pins : List (Addr × Obj)} {σ : St} {H : Hp} {s : Shared} {Q : VK}
end

section
variable {X : Cx}







end

section
variable {X : Cx} {o e : Expr} {to te : TE}
noncomputable def tM1 (r : V → List V → Hp → VK → Prop) (to te : TE) : TE := fun σ H Q => to σ H fun x H1 => (∃ a, x = .str a) ∧ te σ H1 fun y H2 => r x [y] H2 Q
theorem pe_m1 {id : String} {name : Str} {apos pos : Pos} {r : V → List V → Hp → VK → Prop} (slot : Slot "str" name id) (ty : typeOf (.builtin id) = pure (.type "method_descriptor")) (rule : MtR X id r) (ho : PE X o to) (he : PE X e te)
    (hs : starEach [e] X.env = [(false, eval e X.env)] := by rfl) (hbase : attributeBase o name X.env (eval o X.env) = eval o X.env := by rfl) (hline : (apos.endLine == pos.line) = true := by rfl) :
    PE X (.Call (.Attribute o name apos) [e] [] pos) (tM1 r to te) := by
  intro pins s σ H Q I h
  refine PySem.Call_method1 hbase hs hline (thn (ho pins s σ H _ I h) fun v s1 ⟨x, H1, I1, r1, q1⟩ => ?_)
  obtain ⟨⟨a, rfl⟩, q1⟩ := q1
  obtain ⟨t, rfl⟩ := _root_.id r1
  refine ⟨"str", _, F.plainAttrs_str, slot, ty, typeIs_str _ _ _, (fun _ e => nomatch e), Calls.callWith_builtin rfl (Calls.evalArgs_plain (Calls.spliced_cons ?_))⟩
  exact thn (he pins s1 σ H1 _ I1 q1) fun u s2 ⟨y, H2, I2, r2, q2⟩ => Calls.spliced_nil (rule pins s2 σ H2 _ [y] _ [u] Q I2 r1 (.cons r2 .nil) q2)

end
end L2

namespace L2
open PySem PySem.Spec PyProof.Rows

section
variable {X : Cx}
end

theorem IsPart.raw {v : Value} {o : Option Int} (p : IsPart v o) : ∃ l : Option (Int × Tok), v = partValue l ∧ l.map (·.1) = o := by
  cases p with
  | none => exact ⟨none, rfl, rfl⟩
  | int i t => exact ⟨some (i, t), rfl, rfl⟩

noncomputable def clipS (n d : Nat) : Option Int → Int
  | none => (d : Int)
  | some i => max 0 (min (if i < 0 then i + (n : Int) else i) (n : Int))
theorem clipS_eq (n d : Nat) (o : Option Int) : clipS n d o = ((HT.sIx n d o : Nat) : Int) := by
  cases o with
  | none => rfl
  | some v =>
    show max (0 : Int) (min (if v < 0 then v + (n : Int) else v) (n : Int)) = (((if v < 0 then (v + (n : Int)).toNat else min v.toNat n) : Nat) : Int)
    by_cases hv : v < 0
    · simp only [if_pos hv]
      lia
    · simp only [if_neg hv]
      lia
theorem sidx_clip (a b : Option Int) (n : Nat) : Builtin.Str.strSliceIndices a b 1 n = sliceRange (clipS n 0 a) (clipS n n b) 1 := by
  have h1 : ((1 : Int) > 0) = True := by simp
  cases a <;> cases b <;> first
    | rfl
    | (simp only [Builtin.Str.strSliceIndices, clipS, h1, if_true]; rfl)
    | simp [Builtin.Str.strSliceIndices, clipS]
theorem sidx (a b : Option Int) (n : Nat) : Builtin.Str.strSliceIndices a b 1 n = (List.range (HT.sIx n n b - HT.sIx n 0 a)).map (fun k => HT.sIx n 0 a + k) := by
  rw [sidx_clip, clipS_eq, clipS_eq]
  generalize HT.sIx n 0 a = p
  generalize HT.sIx n n b = q
  simp only [sliceRange, show ((1 : Int) > 0) = True from by simp, if_true]
  by_cases hlt : (p : Int) < q
  · have e3 : (((q : Int) - p + 1 - 1) / 1).toNat = q - p := by first | lia | (simp; done) | (simp; lia)
    simp only [hlt, if_true, e3]
    refine List.map_congr_left fun k _ => ?_
    lia
  · have : q - p = 0 := by lia
    simp [hlt, this]

noncomputable def cutS (z : Str) (lo hi : Option Int) : Str :=
  ⟨((z.cps.toList.drop (HT.sIx z.length 0 lo)).take (HT.sIx z.length z.length hi - HT.sIx z.length 0 lo)).toArray⟩
theorem sliceText_cut (z : Str) (lo hi : Option Int) : PySem.StrLaws.sliceText z lo hi = cutS z lo hi := by
  have h1 : HT.sIx z.length 0 lo ≤ z.length := HT.sIx_le _ _ (Nat.zero_le _) _
  have h2 : HT.sIx z.length z.length hi ≤ z.length := HT.sIx_le _ _ (Nat.le_refl _) _
  have hp : HT.sIx z.length 0 lo ≤ max (HT.sIx z.length 0 lo) (HT.sIx z.length z.length hi) := Nat.le_max_left _ _
  have hq : max (HT.sIx z.length 0 lo) (HT.sIx z.length z.length hi) ≤ z.length := Nat.max_le.mpr ⟨h1, h2⟩
  have hd : max (HT.sIx z.length 0 lo) (HT.sIx z.length z.length hi) - HT.sIx z.length 0 lo = HT.sIx z.length z.length hi - HT.sIx z.length 0 lo := by lia
  have e : Builtin.Str.strSliceIndices lo hi 1 z.length =
      Builtin.Str.strSliceIndices (some ((HT.sIx z.length 0 lo : Nat) : Int)) (some ((max (HT.sIx z.length 0 lo) (HT.sIx z.length z.length hi) : Nat) : Int)) 1 z.length := by
    rw [PySem.StrLaws.strSliceIndices_plain hp hq, hd, sidx]
  have e2 : PySem.StrLaws.sliceText z lo hi =
      PySem.StrLaws.sliceText z (some ((HT.sIx z.length 0 lo : Nat) : Int)) (some ((max (HT.sIx z.length 0 lo) (HT.sIx z.length z.length hi) : Nat) : Int)) := by
    unfold PySem.StrLaws.sliceText
    rw [e]
  rw [e2, PySem.StrLaws.sliceText_nat z hp hq, hd]
  rfl
theorem cutS_length (z : Str) (lo hi : Option Int) : (cutS z lo hi).length ≤ z.length := by
  show (((z.cps.toList.drop (HT.sIx z.length 0 lo)).take (HT.sIx z.length z.length hi - HT.sIx z.length 0 lo)).toArray).size ≤ z.cps.size
  rw [List.size_toArray, List.length_take, List.length_drop, Array.length_toList]
  lia
noncomputable def rSlS : V → Option Int → Option Int → Hp → VK → Prop := fun x lo hi H Q => ∃ z, x = .str z ∧ z.length ≤ sizeLine ∧ Q (.str (cutS z lo hi)) H
theorem sl_str {X : Cx} : SlR X rSlS := by
  intro pins s σ H x v vl vu lo hi sl Q I rx hs pl pu h
  obtain ⟨z, rfl, hz, q⟩ := h
  obtain ⟨t, rfl⟩ := rx
  obtain ⟨os, hos, hcs, hds⟩ := hs
  obtain ⟨l, rfl, rfl⟩ := IsPart.raw pl
  obtain ⟨u, rfl, rfl⟩ := IsPart.raw pu
  refine ⟨"str", _, F.slot_str_getitem.lookup, typeIs_str _ _ _, ?_⟩
  refine wpAny_getItem_str_slice (l := l) (u := u) (st := none) ⟨os, hos, hcs, hds⟩ rfl ?_
  have hl : (PySem.StrLaws.sliceText z (l.map (·.1)) (u.map (·.1))).length ≤ sizeLine := by
    rw [sliceText_cut]
    exact Nat.le_trans (cutS_length z _ _) hz
  rw [← sliceText_cut] at q
  unfold PySem.StrLaws.sliceText at q hl
  show Made.post (if ((1 : Int) == 1 && (Builtin.Str.strSliceIndices (l.map (·.1)) (u.map (·.1)) 1 z.length).length == z.length) = true then Made.val (.str z t)
    else Made.str ⟨((Builtin.Str.strSliceIndices (l.map (·.1)) (u.map (·.1)) 1 z.length).filterMap (z.cps[·]?)).toArray⟩) (EP X pins σ Q) s
  by_cases c : ((1 : Int) == 1 && (Builtin.Str.strSliceIndices (l.map (·.1)) (u.map (·.1)) 1 z.length).length == z.length) = true
  · rw [if_pos c] at q ⊢
    exact ⟨.str z, H, I, ⟨t, rfl⟩, q⟩
  · rw [if_neg c] at q hl ⊢
    exact ⟨hl, .str _, H, I.tok _, ⟨_, rfl⟩, q⟩
end L2

namespace Att
open PySem PySem.W PySem.Calls PyProof.Rows







section
variable {prog : Program} {w : World} {A : Around} {E : Value → Shared → Prop} {s : Shared} {K : Frag}






end
end Att

namespace L2
open PySem PySem.Spec PyProof.Rows

theorem vals_ints : ∀ {vs : List Value} {ns : List Int}, IntsAre vs ns → Vals (ns.map V.int) vs
  | _, _, .nil => .nil
  | _, _, .cons n t h => .cons ⟨t, rfl⟩ (vals_ints h)

noncomputable def Only (H : Hp) : Prop := ∀ b, H b = none ∨ ∃ o xs, H b = some (.frz o (.lst xs))

theorem law_call {P : Program} {w : World} {K : PySem.W.Frag} {mg mb : Str → Option Value} {CX : CXT} {k : Nat} {fa a : Addr} {fd : FuncData} {x : Str} {sp : Sp} {s₁ : Shared} {vs : List Value} {ns : List Int}
    (KX : K.In s₁.heap) (hns : s₁.heap.Ns mainGlobals mg) (hb : s₁.heap.Ns builtinsNs mb) (hbb : ∀ x : Str, x ≠ "__name__" → mb x = bootBuiltins x) (hlim : s₁.heap.NoLimit) (hg : s₁.gens = #[])
    (ha : s₁.heap.get? a = some { cls := .type "list", data := .seq vs.toArray }) (hi : IntsAre vs ns) (hl : ns.length ≤ sizeLine) (hr : Room k callerA)
    (F : ∀ base : Heap, K.In base → base.Ns mainGlobals mg → FnOk P w K mg base CX k fa fd [x] sp) (hbind : ∀ (s : Shared) (u : Value), BindsTo s fd ⟨[u], []⟩ [(x, u)])
    (hsp : ∀ H : Hp, Only H → SqL K H a (ns.map V.int) → sp [.ref a] H (fun v _ => v = .bl true) fun _ _ _ => False)
    (hCX : ∀ H e s', CX [] H s₁ (fun _ _ _ => False) e s' → False) :
    codeAny (model P w) callerA (.call (.ref fa) ⟨[.ref a], []⟩) (fun r s' => r = .ok (.ret (.bool true)) ∧ OldK s₁.heap s'.heap ∧ s'.os = s₁.os ∧ AllBare s'.gens) s₁ := by
  have rv := vals_ints hi
  have lenV := hi.length
  have core : ∀ H : Hp, Only H → SqL K H a (ns.map V.int) → HOk P w H s₁.heap → (∀ b, H b ≠ none → b = a) → (H a ≠ none → K.lookup a = none) →
      codeAny (model P w) callerA (.call (.ref fa) ⟨[.ref a], []⟩) (fun r s' => r = .ok (.ret (.bool true)) ∧ OldK s₁.heap s'.heap ∧ s'.os = s₁.os ∧ AllBare s'.gens) s₁ := by
    intro H hO hS hok hA hK
    have base_of : ∀ {b : Addr} {o : Obj}, s₁.heap.get? b = some o → H b = none → (hidT s₁.heap H).get? b = some o := fun e n => hidT_get e n
    have noA : ∀ {b : Addr} {o : Obj} {es : Array DictEntry} {ep : Nat}, s₁.heap.get? b = some o → o.data = .dict es ep → H b = none := fun {b o es ep} e d => by
      cases q : H b with
      | none => rfl
      | some u =>
        have e' : b = a := hA b (by rw [q]; simp)
        subst e'
        rw [ha] at e; cases e
        have d' : Data.seq vs.toArray _ = Data.dict es ep := d
        cases d'
    have nsK : ∀ {b : Addr} {m : Str → Option Value}, s₁.heap.Ns b m → (hidT s₁.heap H).Ns b m := fun {b m} ⟨o, es, ep, e, d, r⟩ => ⟨o, es, ep, base_of e (noA e d), d, r⟩
    have hKb : K.In (hidT s₁.heap H) := fun b o e => base_of (KX b o e) (by
      cases q : H b with
      | none => rfl
      | some u =>
        have e' : b = a := hA b (by rw [q]; simp)
        subst e'
        rw [hK (by rw [q]; simp)] at e; cases e)
    have hM : Mod K mg (hidT s₁.heap H) := ⟨hKb, nsK hns, ⟨mb, nsK hb, hbb⟩, let ⟨mc, h1, h2⟩ := hlim; ⟨mc, nsK h1, h2⟩⟩
    have e0 : Env0 P w K mg (hidT s₁.heap H) callerA [] s₁ H := ⟨rfl, hM, fun b o e => of_hidT e, Nat.le_of_eq (hidT_size _ _), trivial, fun b hb => absurd (show b ∈ ([] : List Addr) from hb) (by simp), hok, .of_eq hg⟩
    refine codeAny_mono ((F _ hKb (nsK hns)).run callerA [] s₁ H ⟨[.ref a], []⟩ [.ref a] [.ref a] _ _ hr e0 (hbind s₁ (.ref a)) (.cons rfl .nil) (hsp H hO hS)) fun r s' h => ?_
    cases r with
    | error e => exact (hCX H e s' h).elim
    | ok fl =>
      cases fl with
      | next => exact False.elim h
      | brk => exact False.elim h
      | cont => exact False.elim h
      | ret u =>
        obtain ⟨v, H', os, bare, un, hok', r', q⟩ := h
        have q' : v = .bl true := q
        subst q'
        obtain rfl : u = Value.bool true := r'
        refine ⟨rfl, OldK.of_keep fun b o e => ?_, os, bare⟩
        cases q : H b with
        | none => exact un.keep b o e q (by intro z; exact absurd (show b ∈ ([] : List Addr) from z) (by simp)) (by simp)
        | some u =>
          rcases hO b with z | ⟨ob, xs, z⟩
          · rw [q] at z; cases z
          · have z2 := un.frzs b ob _ z
            obtain ⟨e1, _⟩ := hok b _ z
            obtain ⟨e2, _⟩ := hok' b _ z2
            rw [e] at e1; cases e1
            exact e2
  cases hk : K.lookup a with
  | some o =>
    have e := KX a o hk
    rw [ha] at e
    cases e
    refine core (fun _ => none) (fun _ => .inl rfl) (.inr ⟨_, vs.toArray, _, hk, rfl, rfl, rfl, by rw [List.size_toArray, lenV]; exact hl, by simpa using rv⟩) (fun b u z => by have z' : (none : Option HO) = some u := z; cases z') (fun b z => absurd rfl z) fun z => absurd rfl z
  | none =>
    refine core (fun b => if b = a then some (.frz { cls := .type "list", data := .seq vs.toArray } (.lst (ns.map V.int))) else none) (fun b => ?_) (.inl (.inr ⟨{ cls := .type "list", data := .seq vs.toArray }, if_pos rfl⟩)) (fun b u z => ?_) (fun b z => ?_) fun _ => hk
    · by_cases hb : b = a
      · exact .inr ⟨_, _, if_pos hb⟩
      · exact .inl (if_neg hb)
    · by_cases hb : b = a
      · have z' := (if_pos hb).symm.trans z
        cases z'
        subst hb
        exact ⟨ha, by rw [List.length_map]; exact hl, vs, _, rv, ha⟩
      · have z' := (if_neg hb).symm.trans z
        cases z'
    · by_cases hb : b = a
      · exact hb
      · exact absurd (if_neg hb) z
end L2

namespace L2
open PySem PySem.Spec PyProof.Rows


end L2

/- THE LAST THEOREM (shape; LID, My.* are yours):
   My.Adr: a structure of the addresses that your layer names (classes, functions); My.Txt K t: a structure (Prop) of the equations over K;
   My.txt_mk : {K} {implicit addresses ..} (e1 : nsIn K mainGlobals "law" = some (some (.ref f))) (e2 : K.lookup f = some ⟨oc, od, .func (fnOf "law" "law" params body scope dV kV doc pm an cdv ct), sl⟩) (e3 : codeIn K cdv "law" = true) .. : ∃ t, My.Txt K t

set_option maxRecDepth 100000 in
set_option maxHeartbeats 0 in
theorem PySem.Challenge.cw_LID_holds : PySem.Challenge.rw_LID.Holds := by
  w_on; o_law; k_head; (case hw => w_witness2)
  k_fill
  refine L2.walk_of (l := PySem.Challenge.rw_LID) (n := 63) (k := 40) (x := "script") (CX := fun w => ..) (sp := fun _ => My.sp_law) rfl (by decide) rfl ⟨rfl, by decide, by decide⟩ (fun w h Y => PySem.W.kIn_of Y) ?F ?S ?C
  case F =>
    intro w mg fa h KX G hmg
    have T : ∃ t, My.Txt (L2.KOf KX) t := by
      dsimp only [L2.KOf]                          -- K must stand as «<heap const> w.params» for k_is
      refine' My.txt_mk ?e1 ?e2 ?e3 ..
      (case e1 => PySem.W.k_is)                    -- in the order: a name -> its address -> its object -> its parts
      (case e2 => PySem.W.k_is)
      ..
    obtain ⟨t, T⟩ := T
    have e0 := hmg.symm.trans (PySem.W.mg_of KX G T.law)
    cases e0                                       -- fa is the law's own address
    exact ⟨_, fun s u => .of_eq rfl, fun base kb nb => My.law_fn T kb nb⟩     -- if «.of_eq rfl» comes too early: refine' ⟨_, ?b, fun base kb nb => My.law_fn T kb nb⟩; exact fun s u => .of_eq rfl
  case S => exact fun w H a ns hl hO hS => ..
  case C => exact ..
(the tactic k_is has no namespace: write k_is) -/

namespace L2
open PySem PySem.Spec PyProof.Rows

noncomputable def defArgs (s : Stmt) : Arguments := match s with
  | .FunctionDef _ a _ _ _ _ _ _ _ _ => a
  | _ => { posonlyargs := [], args := [], vararg := none, kwonlyargs := [], kw_defaults := [], kwarg := none, defaults := [] }
noncomputable def defBody (s : Stmt) : List Stmt := match s with
  | .FunctionDef _ _ b _ _ _ _ _ _ _ => b
  | _ => []
noncomputable def defScope (s : Stmt) : Scope := match s with
  | .FunctionDef _ _ _ _ _ _ sc _ _ _ => sc
  | _ => { kind := .function, names := [], isGenerator := false, isCoroutine := false }

noncomputable abbrev CX0 : CXT := fun _ _ _ _ _ _ => False
noncomputable abbrev E0 : XK := fun _ _ _ => False
theorem pass0 {X : Cx} : Passes CX0 X E0 := fun _ _ _ _ _ _ _ h => h.elim

structure Fun (K : PySem.W.Frag) (x qual : Str) (st : Stmt) (f : Addr) (fd : FuncData) : Prop where
  ex : ∃ (oc : Value) (od : Option Addr) (kV doc pm : Value) (an : Option Addr) (cdv ct : Value) (osl : Array (Option Value)),
    fd = PySem.W.fnOf x qual (defArgs st) (defBody st) (defScope st) .none kV doc pm an cdv ct ∧ K.lookup f = some ⟨oc, od, .func fd, osl⟩ ∧ PySem.W.codeIn K cdv qual = true
  kp : PySem.W.keepIn K (.ref f) = true
section
variable {P : Program} {w : World} {K : PySem.W.Frag} {mg : Str → Option Value} {base : Heap}
theorem Fun.ok {x qual : Str} {st : Stmt} {f : Addr} {fd : FuncData} {N ps : List Str} {k : Nat} {sp : Sp} (F : Fun K x qual st f fd) (S : FnScope N ps (defScope st)) (len : ∀ vs H Q E, sp vs H Q E → vs.length = ps.length)
    (hbody : ∀ (cdv : Value) (A : Around) (outer : List Env) (s : Shared) (H : Hp) (vs : List V) (Q : VK) (E : XK), Room k (A.deeper (envOfC qual (defScope st) s.heap.objs.size f cdv)) → sp vs H Q E →
      ∃ t, PSs (cxOf CX0 P w K mg base N qual (defScope st) f cdv A outer s H E).nox (defBody st) t ∧ t { nx := fun _ H' => Q .non H', rt := Q } (start N vs) H) : FnOk P w K mg base CX0 (k + 1) f fd ps sp := by
  obtain ⟨oc, od, kV, doc, pm, an, cdv, ct, osl, rfl, lk, hcd⟩ := F.ex
  refine fn_of lk hcd S len fun A outer s H vs Q E hr hsp => ?_
  obtain ⟨t, h, q⟩ := hbody cdv A outer s H vs Q E hr hsp
  exact ⟨t, h.nox, q⟩
theorem Fun.binds {x qual : Str} {st : Stmt} {f : Addr} {fd : FuncData} {ps : List Str} (F : Fun K x qual st f fd)
    (h : ∀ (kV doc pm : Value) (an : Option Addr) (cdv ct : Value) (us : List Value), us.length = ps.length → bindArgs (PySem.W.fnOf x qual (defArgs st) (defBody st) (defScope st) .none kV doc pm an cdv ct) ⟨us, []⟩ = pure (ps.zip us)) : Binds K fd ps [] := by
  obtain ⟨oc, od, kV, doc, pm, an, cdv, ct, osl, rfl, lk, hcd⟩ := F.ex
  exact .all (h kV doc pm an cdv ct)
theorem fun_mk {x qual : Str} {st : Stmt} {f : Addr} {oc : Value} {od an : Option Addr} {osl : Array (Option Value)} {kV doc pm cdv ct : Value} (l : K.lookup f = some ⟨oc, od, .func (PySem.W.fnOf x qual (defArgs st) (defBody st) (defScope st) .none kV doc pm an cdv ct), osl⟩)
    (c : PySem.W.codeIn K cdv qual = true) (k : PySem.W.keepIn K (.ref f) = true) : Fun K x qual st f (PySem.W.fnOf x qual (defArgs st) (defBody st) (defScope st) .none kV doc pm an cdv ct) := ⟨⟨oc, od, kV, doc, pm, an, cdv, ct, osl, rfl, l, c⟩, k⟩
end
theorem small1000 {n : Nat} (h : n ≤ 1000) : n < sizeLine := Nat.lt_of_le_of_lt h (by decide)

section
variable {X : Cx}
theorem pv (i : Nat) {x : Str} {pos : Pos} (hN : X.N[i]? = some x := by rfl) (hv : Vis X.env.scope x := by first | exact Or.inl rfl | exact Or.inr (Or.inl rfl) | exact Or.inr (Or.inr rfl)) (hd : (x == ("__debug__" : Str)) = false := by decide)
    (hcd : (x == ("__classdict__" : Str)) = false := by decide) : PE X (.Name x pos) (tVar i) := pe_var hN hv hd hcd
end

theorem iteF {A B : Prop} (h : B) : if false = true then A else B := by
  rw [if_neg Bool.false_ne_true]
  exact h
theorem iteT {A B : Prop} (h : A) : if true = true then A else B := by
  rw [if_pos rfl]
  exact h
theorem ite2 {c A B : Prop} [Decidable c] (h1 : c → A) (h2 : ¬ c → B) : if c then A else B := by
  by_cases h : c
  · rw [if_pos h]
    exact h1 h
  · rw [if_neg h]
    exact h2 h

noncomputable def Same (H H' : Hp) : Prop := ∀ b o, H b = some o → H' b = some o
theorem Same.refl (H : Hp) : Same H H := fun _ _ h => h
theorem Same.trans {H H1 H2 : Hp} (a : Same H H1) (b : Same H1 H2) : Same H H2 := fun c o h => b c o (a c o h)
theorem Same.free {H H' : Hp} (e : Same H H') {l : Addr} (h : H' l = Option.none) : H l = Option.none := by
  cases q : H l with
  | none => rfl
  | some o =>
    rw [e l o q] at h
    cases h
theorem Same.seq {K : PySem.W.Frag} {H H' : Hp} {a : Addr} {xs : List V} (e : Same H H') (h : SqL K H a xs) : SqL K H' a xs := by
  rcases h with (h | ⟨o, h⟩) | h
  · exact .inl (.inl (e _ _ h))
  · exact .inl (.inr ⟨o, e _ _ h⟩)
  · exact .inr h

section
variable {κ : Type} [DecidableEq κ]
end
end L2


section
set_option Elab.async false
set_option linter.all false
set_option maxRecDepth 100000
set_option maxHeartbeats 2000000
namespace L2
open PySem PySem.Spec PyProof.Rows
open PySem.W (WData Codec OpenSpec Well WellAll ReadsW ReadsAllW)
mutual
inductive Dw (K : PySem.W.Frag) (H : Hp) : V → WData → Prop
  | non : Dw K H .non .none
  | bl (b : Bool) : Dw K H (.bl b) (.bool b)
  | int (i : Int) : Dw K H (.int i) (.int i)
  | str (x : Str) : Dw K H (.str x) (.str x)
  | byt (b : Array UInt8) : Dw K H (.byt b) (.bytes b.toList)
  | lst {a : Addr} {xs : List V} {ds : List WData} : SqL K H a xs → DwAll K H xs ds → Dw K H (.ref a) (.list ds)
  | tup {a : Addr} {xs : List V} {ds : List WData} : SqT K H a xs → DwAll K H xs ds → Dw K H (.ref a) (.tuple ds)
inductive DwAll (K : PySem.W.Frag) (H : Hp) : List V → List WData → Prop
  | nil : DwAll K H [] []
  | cons {v : V} {vs : List V} {d : WData} {ds : List WData} : Dw K H v d → DwAll K H vs ds → DwAll K H (v :: vs) (d :: ds)
end
theorem dw_ints {K : PySem.W.Frag} {H : Hp} : ∀ ns : List Int, DwAll K H (ns.map V.int) (ns.map WData.int)
  | [] => .nil
  | n :: r => .cons (.int n) (dw_ints r)
theorem ints_dw {K : PySem.W.Frag} {H : Hp} : ∀ (ns : List Int) (xs : List V), DwAll K H xs (ns.map WData.int) → xs = ns.map V.int
  | [], xs, h => by
    cases h
    rfl
  | n :: r, xs, h => by
    cases h with
    | cons h1 h2 =>
      cases h1
      rw [ints_dw r _ h2] <;> rfl
section
variable {P : Program} {w : World} {K : PySem.W.Frag} {H : Hp} {h : Heap} {R : PySem.W.WRecords} {cl : Str → Option Addr}
theorem sqL_at {a : Addr} {xs : List V} (hok : HOk P w H h) (KX : K.In h) (q : SqL K H a xs) : ∃ (its : List Value) (o : Obj) (n : Nat), Vals xs its ∧ h.get? a = some o ∧ o.cls = .type "list" ∧ o.data = .seq its.toArray n := by
  rcases q with q | ⟨o, its, n, e, hc, _, hd, _, hv⟩
  · obtain ⟨_, its, n, hv, e⟩ := (show ObjOk P w H h a (.lst xs) from q.ok hok)
    exact ⟨its, _, n, hv, e, rfl, rfl⟩
  · exact ⟨its.toList, o, n, hv, KX _ _ e, hc, by simp [hd]⟩
theorem sqT_at {a : Addr} {xs : List V} (hok : HOk P w H h) (KX : K.In h) (q : SqT K H a xs) : ∃ (its : List Value) (o : Obj) (n : Nat), Vals xs its ∧ h.get? a = some o ∧ o.cls = .type "tuple" ∧ o.data = .seq its.toArray n := by
  rcases q with q | ⟨o, its, n, e, hc, hd, _, hv⟩
  · obtain ⟨_, its, hv, o, e, hc, n, hd⟩ := (show ObjOk P w H h a (.tup xs) from q.ok hok)
    exact ⟨its, o, n, hv, e, hc, hd⟩
  · exact ⟨its.toList, o, n, hv, KX _ _ e, hc, by simp [hd]⟩
mutual
theorem Dw.reads (hok : HOk P w H h) (KX : K.In h) : ∀ (d : WData) (v : V) (u : Value), Dw K H v d → RelV v u → ∃ as, ReadsW R cl h u d as
  | .none, _, _, x, r => by
    cases x
    cases r
    exact ⟨_, ReadsW.none⟩
  | .bool b, _, _, x, r => by
    cases x
    cases r
    exact ⟨_, ReadsW.bool b⟩
  | .int i, _, _, x, r => by
    cases x
    obtain ⟨t, rfl⟩ := r
    exact ⟨_, ReadsW.int i t⟩
  | .str s, _, _, x, r => by
    cases x
    obtain ⟨t, rfl⟩ := r
    exact ⟨_, ReadsW.str s t⟩
  | .bytes b, _, _, x, r => by
    cases x
    obtain ⟨t, rfl⟩ := r
    exact ⟨_, ReadsW.bytes _ t⟩
  | .list ds, _, _, x, r => by
    cases x with
    | lst hs ha =>
      cases r
      obtain ⟨its, o, n, rv, ho, hc, hd⟩ := sqL_at hok KX hs
      obtain ⟨as, hr⟩ := Dw.readsAll hok KX ds _ its ha rv
      exact ⟨_, ReadsW.list ho hc hd hr⟩
  | .tuple ds, _, _, x, r => by
    cases x with
    | tup hs ha =>
      cases r
      obtain ⟨its, o, n, rv, ho, hc, hd⟩ := sqT_at hok KX hs
      obtain ⟨as, hr⟩ := Dw.readsAll hok KX ds _ its ha rv
      exact ⟨_, ReadsW.tuple ho hc hd hr⟩
  | .float _, _, _, x, _ => by cases x
  | .dict _, _, _, x, _ => by cases x
  | .bytearray _, _, _, x, _ => by cases x
  | .set _, _, _, x, _ => by cases x
  | .frozenset _, _, _, x, _ => by cases x
  | .obj _ _, _, _, x, _ => by cases x
theorem Dw.readsAll (hok : HOk P w H h) (KX : K.In h) : ∀ (ds : List WData) (vs : List V) (us : List Value), DwAll K H vs ds → Vals vs us → ∃ as, ReadsAllW R cl h us ds as
  | [], _, _, x, r => by
    cases x
    cases r
    exact ⟨_, ReadsAllW.nil⟩
  | d :: ds, _, _, x, r => by
    cases x with
    | cons h1 h2 =>
      cases r with
      | cons r1 r2 =>
        obtain ⟨as, q1⟩ := Dw.reads hok KX d _ _ h1 r1
        obtain ⟨bs, q2⟩ := Dw.readsAll hok KX ds _ _ h2 r2
        exact ⟨_, ReadsAllW.cons q1 q2⟩
end
end
mutual
noncomputable def plW : WData → Bool
  | .none => true
  | .bool _ => true
  | .int _ => true
  | .str _ => true
  | .bytes _ => true
  | .list xs => plWs xs
  | .tuple xs => plWs xs
  | _ => false
noncomputable def plWs : List WData → Bool
  | [] => true
  | x :: r => plW x && plWs r
end
theorem plWs_map {α : Type} {f : α → WData} (h : ∀ a, plW (f a) = true) : ∀ l : List α, plWs (l.map f) = true
  | [] => rfl
  | x :: r => by
    show (plW (f x) && plWs (r.map f)) = true
    rw [h x, plWs_map h r] <;> rfl
theorem pl_enc : ∀ (c : Codec) (a : c.denote), plW (c.enc a) = true
  | .unit, _ => rfl
  | .bool, _ => rfl
  | .int _ _, _ => rfl
  | .nat _ _, _ => rfl
  | .u8, _ => rfl
  | .bytes _ _, _ => rfl
  | .text _ _ _ _, _ => rfl
  | .list _ _ c, a => plWs_map (fun x => pl_enc c x) a
  | .pair c d, a => by
    show (plW (c.enc a.1) && (plW (d.enc a.2) && true)) = true
    rw [pl_enc c a.1, pl_enc d a.2] <;> rfl
  | .triple c d e, a => by
    show (plW (c.enc a.1) && (plW (d.enc a.2.1) && (plW (e.enc a.2.2) && true))) = true
    rw [pl_enc c a.1, pl_enc d a.2.1, pl_enc e a.2.2] <;> rfl
  | .option c, none => rfl
  | .option c, some x => pl_enc c x
theorem pl_encAll : ∀ (cs : List Codec) (a : Codec.denoteAll cs), plWs (Codec.encAll cs a) = true
  | [], _ => rfl
  | c :: cs, a => by
    show (plW (c.enc a.1) && plWs (Codec.encAll cs a.2)) = true
    rw [pl_enc c a.1, pl_encAll cs a.2] <;> rfl
theorem weight_mem : ∀ {xs : List WData} {d : WData}, d ∈ xs → d.weight ≤ WData.weightAll xs
  | [], d, h => absurd h (by simp)
  | x :: r, d, h => by
    show d.weight ≤ x.weight + 1 + WData.weightAll r
    rcases List.mem_cons.mp h with e | m
    · rw [e]
      lia
    · have z := weight_mem m
      lia
noncomputable def toV : Value → V
  | .none => .non
  | .bool b => .bl b
  | .int i _ => .int i
  | .str x _ => .str x
  | .bytes b _ => .byt b
  | .ref a => .ref a
  | _ => .non
noncomputable def OkU (A : List Addr) : Value → Prop
  | .none => True
  | .bool _ => True
  | .int _ _ => True
  | .str _ _ => True
  | .bytes _ _ => True
  | .ref a => a ∈ A
  | _ => False
theorem OkU.mono {A B : List Addr} (h : ∀ a ∈ A, a ∈ B) : ∀ {u : Value}, OkU A u → OkU B u := fun {u} x => by
  cases u with
  | ref a => exact h a x
  | none => trivial
  | bool b => trivial
  | int i t => trivial
  | str s t => trivial
  | bytes b t => trivial
  | _ => exact False.elim x
theorem relV_toV {A : List Addr} {u : Value} (x : OkU A u) : RelV (toV u) u := by
  cases u with
  | ref a => rfl
  | none => rfl
  | bool b => rfl
  | int i t => exact ⟨t, rfl⟩
  | str s t => exact ⟨t, rfl⟩
  | bytes b t => exact ⟨t, rfl⟩
  | _ => exact False.elim x
theorem vals_toV {A : List Addr} : ∀ {vs : List Value}, (∀ u ∈ vs, OkU A u) → Vals (vs.map toV) vs
  | [], _ => .nil
  | u :: r, h => .cons (relV_toV (h u (List.mem_cons_self ..))) (vals_toV fun x hx => h x (List.mem_cons_of_mem _ hx))
noncomputable def ArgOb (h : Heap) (A : List Addr) (a : Addr) : Prop := ∃ vs : List Value, vs.length ≤ sizeLine ∧ (∀ u ∈ vs, OkU A u) ∧
  (h.get? a = some { cls := .type "list", data := .seq vs.toArray } ∨ h.get? a = some { cls := .type "tuple", data := .seq vs.toArray })
theorem ArgOb.mono {h : Heap} {A B : List Addr} {a : Addr} (k : ∀ a ∈ A, a ∈ B) (x : ArgOb h A a) : ArgOb h B a := by
  obtain ⟨vs, h1, h2, h3⟩ := x
  exact ⟨vs, h1, fun u hu => (h2 u hu).mono k, h3⟩
theorem wellAll_len {P : Params} {h : Heap} : ∀ {vs : List Value} {ds : List WData}, WellAll P h vs ds → vs.length = ds.length
  | _, _, .nil => rfl
  | _, _, .cons _ b => by
    show _ + 1 = _ + 1
    rw [wellAll_len b]
theorem well_list {P : Params} {h : Heap} {v : Value} {ds : List WData} (x : Well P h v (.list ds)) : ∃ (a : Addr) (vs : List Value), v = .ref a ∧ h.get? a = some { cls := .type "list", data := .seq vs.toArray } ∧ WellAll P h vs ds := by
  cases x with
  | list ho hall => exact ⟨_, _, rfl, ho, hall⟩
theorem well_tuple {P : Params} {h : Heap} {v : Value} {ds : List WData} (x : Well P h v (.tuple ds)) : ∃ (a : Addr) (vs : List Value), v = .ref a ∧ h.get? a = some { cls := .type "tuple", data := .seq vs.toArray } ∧ WellAll P h vs ds := by
  cases x with
  | tuple ho hall => exact ⟨_, _, rfl, ho, hall⟩
theorem well_cons {P : Params} {h : Heap} {us : List Value} {d : WData} {ds : List WData} (x : WellAll P h us (d :: ds)) : ∃ (v : Value) (vs : List Value), us = v :: vs ∧ Well P h v d ∧ WellAll P h vs ds := by
  cases x with
  | cons a b => exact ⟨_, _, rfl, a, b⟩
theorem line_of {n : Nat} (h : n ≤ 1048576) : n ≤ sizeLine := Nat.le_trans h (by decide)
section
variable {P : Params} {h : Heap}
mutual
theorem area_one : ∀ (d : WData) (v : Value), Well P h v d → plW d = true → d.weight ≤ 1048576 → ∃ A : List Addr, OkU A v ∧ ∀ a ∈ A, ArgOb h A a
  | .none, _, x, _, _ => by
    cases x
    exact ⟨[], trivial, fun a m => absurd m (by simp)⟩
  | .bool b, _, x, _, _ => by
    cases x
    exact ⟨[], trivial, fun a m => absurd m (by simp)⟩
  | .int i, _, x, _, _ => by
    cases x
    exact ⟨[], trivial, fun a m => absurd m (by simp)⟩
  | .str s, _, x, _, _ => by
    cases x
    exact ⟨[], trivial, fun a m => absurd m (by simp)⟩
  | .bytes b, _, x, _, _ => by
    cases x
    exact ⟨[], trivial, fun a m => absurd m (by simp)⟩
  | .list ds, _, x, p, z => by
    obtain ⟨a, vs, rfl, ho, hall⟩ := well_list x
    have z2 : WData.weightAll ds ≤ 1048576 := z
    obtain ⟨A, h1, h2⟩ := area_all ds _ hall p fun d hd => Nat.le_trans (weight_mem hd) z2
    have k : ∀ b ∈ A, b ∈ a :: A := fun b hb => List.mem_cons_of_mem _ hb
    refine ⟨a :: A, List.mem_cons_self .., fun b hb => ?_⟩
    rcases List.mem_cons.mp hb with e | m
    · rw [e]
      exact ⟨vs, line_of (by rw [wellAll_len hall]; exact Nat.le_trans (PySem.W.length_le_weightAllW ds) z2), fun u hu => (h1 u hu).mono k, .inl ho⟩
    · exact (h2 b m).mono k
  | .tuple ds, _, x, p, z => by
    obtain ⟨a, vs, rfl, ho, hall⟩ := well_tuple x
    have z2 : WData.weightAll ds ≤ 1048576 := z
    obtain ⟨A, h1, h2⟩ := area_all ds _ hall p fun d hd => Nat.le_trans (weight_mem hd) z2
    have k : ∀ b ∈ A, b ∈ a :: A := fun b hb => List.mem_cons_of_mem _ hb
    refine ⟨a :: A, List.mem_cons_self .., fun b hb => ?_⟩
    rcases List.mem_cons.mp hb with e | m
    · rw [e]
      exact ⟨vs, line_of (by rw [wellAll_len hall]; exact Nat.le_trans (PySem.W.length_le_weightAllW ds) z2), fun u hu => (h1 u hu).mono k, .inr ho⟩
    · exact (h2 b m).mono k
  | .float _, _, _, p, _ => Bool.noConfusion (show false = true from p)
  | .dict _, _, _, p, _ => Bool.noConfusion (show false = true from p)
  | .bytearray _, _, _, p, _ => Bool.noConfusion (show false = true from p)
  | .set _, _, _, p, _ => Bool.noConfusion (show false = true from p)
  | .frozenset _, _, _, p, _ => Bool.noConfusion (show false = true from p)
  | .obj _ _, _, _, p, _ => Bool.noConfusion (show false = true from p)
theorem area_all : ∀ (ds : List WData) (vs : List Value), WellAll P h vs ds → plWs ds = true → (∀ d ∈ ds, d.weight ≤ 1048576) → ∃ A : List Addr, (∀ u ∈ vs, OkU A u) ∧ ∀ a ∈ A, ArgOb h A a
  | [], _, x, _, _ => by
    cases x
    exact ⟨[], fun u m => absurd m (by simp), fun a m => absurd m (by simp)⟩
  | d :: ds, _, x, p, z => by
    obtain ⟨v, vs, rfl, x1, x2⟩ := well_cons x
    have q : plW d = true ∧ plWs ds = true := Bool.and_eq_true_iff.mp p
    obtain ⟨A, a1, a2⟩ := area_one d v x1 q.1 (z d (List.mem_cons_self ..))
    obtain ⟨B, b1, b2⟩ := area_all ds vs x2 q.2 fun e he => z e (List.mem_cons_of_mem _ he)
    have kA : ∀ b ∈ A, b ∈ A ++ B := fun b hb => List.mem_append.mpr (.inl hb)
    have kB : ∀ b ∈ B, b ∈ A ++ B := fun b hb => List.mem_append.mpr (.inr hb)
    refine ⟨A ++ B, fun u hu => ?_, fun b hb => ?_⟩
    · rcases List.mem_cons.mp hu with e | m
      · rw [e]
        exact a1.mono kA
      · exact (b1 u m).mono kB
    · rcases List.mem_append.mp hb with m | m
      · exact (a2 b m).mono kA
      · exact (b2 b m).mono kB
end
end
noncomputable def hoOf (o : Obj) : Option HO := match o.data with
  | .seq vs _ => if (o.cls == Value.type "list") = true then some (.frz o (.lst (vs.toList.map toV))) else some (.frz o (.tup (vs.toList.map toV)))
  | _ => none
noncomputable def argH (K : PySem.W.Frag) (h : Heap) (A : List Addr) : Hp := fun b => if b ∈ A then (if (K.lookup b).isNone = true then (h.get? b).bind hoOf else none) else none
noncomputable def OnlyF (H : Hp) : Prop := ∀ b, H b = none ∨ ∃ o u, H b = some (.frz o u)
theorem hoOf_lst (vs : List Value) : hoOf { cls := .type "list", data := .seq vs.toArray } = some (.frz { cls := .type "list", data := .seq vs.toArray } (.lst (vs.map toV))) := by
  show (if (Value.type "list" == Value.type "list") = true then some (HO.frz { cls := .type "list", data := .seq vs.toArray } (.lst (vs.toArray.toList.map toV))) else some (HO.frz { cls := .type "list", data := .seq vs.toArray } (.tup (vs.toArray.toList.map toV)))) = _
  rw [if_pos (beq_self_eq_true _)]
theorem hoOf_tup (vs : List Value) : hoOf { cls := .type "tuple", data := .seq vs.toArray } = some (.frz { cls := .type "tuple", data := .seq vs.toArray } (.tup (vs.map toV))) := by
  show (if (Value.type "tuple" == Value.type "list") = true then some (HO.frz { cls := .type "tuple", data := .seq vs.toArray } (.lst (vs.toArray.toList.map toV))) else some (HO.frz { cls := .type "tuple", data := .seq vs.toArray } (.tup (vs.toArray.toList.map toV)))) = _
  rw [if_neg (by decide)]
section
variable {P : Program} {w : World} {K : PySem.W.Frag} {h : Heap} {A : List Addr}
theorem argH_at {b : Addr} {o : Obj} (hb : b ∈ A) (hk : K.lookup b = none) (e : h.get? b = some o) : argH K h A b = hoOf o := by
  unfold argH
  rw [if_pos hb, hk, if_pos (show (none : Option Obj).isNone = true from rfl), e] <;> rfl
theorem of_argH {b : Addr} {u : HO} (q : argH K h A b = some u) : b ∈ A ∧ K.lookup b = none := by
  unfold argH at q
  by_cases hb : b ∈ A
  · rw [if_pos hb] at q
    cases hk : K.lookup b with
    | none => exact ⟨hb, rfl⟩
    | some o =>
      rw [hk, if_neg (by simp)] at q
      cases q
  · rw [if_neg hb] at q
    cases q
theorem argH_is (ar : ∀ a ∈ A, ArgOb h A a) {b : Addr} {u : HO} (q : argH K h A b = some u) : K.lookup b = none ∧ ∃ vs : List Value, vs.length ≤ sizeLine ∧ (∀ u ∈ vs, OkU A u) ∧
    ((h.get? b = some { cls := .type "list", data := .seq vs.toArray } ∧ u = .frz { cls := .type "list", data := .seq vs.toArray } (.lst (vs.map toV))) ∨
     (h.get? b = some { cls := .type "tuple", data := .seq vs.toArray } ∧ u = .frz { cls := .type "tuple", data := .seq vs.toArray } (.tup (vs.map toV)))) := by
  obtain ⟨hb, hk⟩ := of_argH q
  obtain ⟨vs, h1, h2, h3⟩ := ar b hb
  refine ⟨hk, vs, h1, h2, ?_⟩
  rcases h3 with e | e
  · rw [argH_at hb hk e, hoOf_lst] at q
    exact .inl ⟨e, (Option.some.inj q).symm⟩
  · rw [argH_at hb hk e, hoOf_tup] at q
    exact .inr ⟨e, (Option.some.inj q).symm⟩
theorem argH_only (ar : ∀ a ∈ A, ArgOb h A a) : OnlyF (argH K h A) := fun b => by
  cases q : argH K h A b with
  | none => exact .inl rfl
  | some u =>
    obtain ⟨_, vs, _, _, ⟨_, e⟩ | ⟨_, e⟩⟩ := argH_is ar q
    · exact .inr ⟨_, _, by rw [e]⟩
    · exact .inr ⟨_, _, by rw [e]⟩
theorem argH_ok (ar : ∀ a ∈ A, ArgOb h A a) : HOk P w (argH K h A) h := fun b u q => by
  obtain ⟨_, vs, h1, h2, ⟨e, rfl⟩ | ⟨e, rfl⟩⟩ := argH_is ar q
  · exact ⟨e, by rw [List.length_map]; exact h1, vs, _, vals_toV h2, e⟩
  · exact ⟨e, by rw [List.length_map]; exact h1, vs, vals_toV h2, _, e, rfl, _, rfl⟩
theorem seq_inj {c c' : Value} {vs us : List Value} (e : (some { cls := c, data := .seq vs.toArray } : Option Obj) = some { cls := c', data := .seq us.toArray }) : c = c' ∧ vs = us := by
  have e1 := Option.some.inj e
  have e2 : c = c' := congrArg Obj.cls e1
  have e3 : Data.seq vs.toArray = Data.seq us.toArray := congrArg Obj.data e1
  injection e3 with e4
  refine ⟨e2, ?_⟩
  have e5 := congrArg Array.toList e4
  simpa using e5
theorem argL (KX : K.In h) (ar : ∀ a ∈ A, ArgOb h A a) {a : Addr} {vs : List Value} (ha : a ∈ A) (e : h.get? a = some { cls := .type "list", data := .seq vs.toArray }) : (∀ u ∈ vs, OkU A u) ∧ SqL K (argH K h A) a (vs.map toV) := by
  obtain ⟨us, h1, h2, h3⟩ := ar a ha
  have hu : us = vs := by
    rcases h3 with q | q
    · rw [e] at q
      exact (seq_inj q).2.symm
    · rw [e] at q
      exact absurd (Value.type.inj (seq_inj q).1) (by decide)
  subst hu
  refine ⟨h2, ?_⟩
  cases hk : K.lookup a with
  | none => exact .inl (.inr ⟨_, by rw [argH_at ha hk e, hoOf_lst]⟩)
  | some o =>
    have e2 := KX a o hk
    rw [e] at e2
    obtain rfl := Option.some.inj e2
    exact .inr ⟨_, us.toArray, _, hk, rfl, rfl, rfl, by rw [List.size_toArray]; exact h1, by simpa using vals_toV h2⟩
theorem argT (KX : K.In h) (ar : ∀ a ∈ A, ArgOb h A a) {a : Addr} {vs : List Value} (ha : a ∈ A) (e : h.get? a = some { cls := .type "tuple", data := .seq vs.toArray }) : (∀ u ∈ vs, OkU A u) ∧ SqT K (argH K h A) a (vs.map toV) := by
  obtain ⟨us, h1, h2, h3⟩ := ar a ha
  have hu : us = vs := by
    rcases h3 with q | q
    · rw [e] at q
      exact absurd (Value.type.inj (seq_inj q).1) (by decide)
    · rw [e] at q
      exact (seq_inj q).2.symm
  subst hu
  refine ⟨h2, ?_⟩
  cases hk : K.lookup a with
  | none => exact .inl (.inr ⟨_, by rw [argH_at ha hk e, hoOf_tup]⟩)
  | some o =>
    have e2 := KX a o hk
    rw [e] at e2
    obtain rfl := Option.some.inj e2
    exact .inr ⟨_, us.toArray, _, hk, rfl, rfl, by rw [List.size_toArray]; exact h1, by simpa using vals_toV h2⟩
mutual
theorem dw_one {Pm : Params} (KX : K.In h) (ar : ∀ a ∈ A, ArgOb h A a) : ∀ (d : WData) (v : Value), Well Pm h v d → plW d = true → OkU A v → Dw K (argH K h A) (toV v) d
  | .none, _, x, _, _ => by
    cases x
    exact .non
  | .bool b, _, x, _, _ => by
    cases x
    exact .bl b
  | .int i, _, x, _, _ => by
    cases x
    exact .int i
  | .str s, _, x, _, _ => by
    cases x
    exact .str s
  | .bytes b, _, x, _, _ => by
    cases x
    have z := Dw.byt (K := K) (H := argH K h A) b.toArray
    exact z
  | .list ds, _, x, p, hu => by
    obtain ⟨a, vs, rfl, ho, hall⟩ := well_list x
    obtain ⟨h2, hs⟩ := argL KX ar hu ho
    exact .lst hs (dw_all KX ar ds _ hall p h2)
  | .tuple ds, _, x, p, hu => by
    obtain ⟨a, vs, rfl, ho, hall⟩ := well_tuple x
    obtain ⟨h2, hs⟩ := argT KX ar hu ho
    exact .tup hs (dw_all KX ar ds _ hall p h2)
  | .float _, _, _, p, _ => Bool.noConfusion (show false = true from p)
  | .dict _, _, _, p, _ => Bool.noConfusion (show false = true from p)
  | .bytearray _, _, _, p, _ => Bool.noConfusion (show false = true from p)
  | .set _, _, _, p, _ => Bool.noConfusion (show false = true from p)
  | .frozenset _, _, _, p, _ => Bool.noConfusion (show false = true from p)
  | .obj _ _, _, _, p, _ => Bool.noConfusion (show false = true from p)
theorem dw_all {Pm : Params} (KX : K.In h) (ar : ∀ a ∈ A, ArgOb h A a) : ∀ (ds : List WData) (vs : List Value), WellAll Pm h vs ds → plWs ds = true → (∀ u ∈ vs, OkU A u) → DwAll K (argH K h A) (vs.map toV) ds
  | [], _, x, _, _ => by
    cases x
    exact .nil
  | d :: ds, _, x, p, hu => by
    obtain ⟨v, vs, rfl, x1, x2⟩ := well_cons x
    have q : plW d = true ∧ plWs ds = true := Bool.and_eq_true_iff.mp p
    exact .cons (dw_one KX ar d v x1 q.1 (hu _ (List.mem_cons_self ..))) (dw_all KX ar ds vs x2 q.2 fun u m => hu u (List.mem_cons_of_mem _ m))
end
end
theorem spec_call {P : Program} {w : World} {K : PySem.W.Frag} {mg mb : Str → Option Value} {CX : CXT} {k : Nat} {fa : Addr} {fd : FuncData} {ps : List Str} {sp : Sp} {s₁ : Shared} {vals : List Value} {ds : List WData} {R : PySem.W.WRecords} {cl : Str → Option Addr} {d0 : WData}
    (KX : K.In s₁.heap) (hns : s₁.heap.Ns mainGlobals mg) (hb : s₁.heap.Ns builtinsNs mb) (hbb : ∀ x : Str, x ≠ "__name__" → mb x = bootBuiltins x) (hlim : s₁.heap.NoLimit) (hg : s₁.gens = #[])
    (hwl : WellAll w.params s₁.heap vals ds) (hpl : plWs ds = true) (hwt : ∀ d ∈ ds, d.weight ≤ 1048576) (hr : Room k callerA)
    (F : ∀ base : Heap, K.In base → base.Ns mainGlobals mg → FnOk P w K mg base CX k fa fd ps sp) (hbind : ∀ (s : Shared) (us : List Value), us.length = ps.length → BindsTo s fd ⟨us, []⟩ (ps.zip us)) (hlen : ds.length = ps.length)
    (hsp : ∀ (H : Hp) (xs : List V), OnlyF H → DwAll K H xs ds → sp xs H (fun v H' => Dw K H' v d0) fun _ _ _ => False)
    (hCX : ∀ H e s', CX [] H s₁ (fun _ _ _ => False) e s' → False) :
    codeAny (model P w) callerA (.call (.ref fa) ⟨vals, []⟩) (fun r s' => ∃ u as, r = .ok (.ret u) ∧ ReadsW R cl s'.heap u d0 as ∧ OldK s₁.heap s'.heap ∧ s'.os = s₁.os ∧ AllBare s'.gens) s₁ := by
  obtain ⟨A, ho, ar⟩ := area_all ds vals hwl hpl hwt
  have hO : OnlyF (argH K s₁.heap A) := argH_only ar
  have hok : HOk P w (argH K s₁.heap A) s₁.heap := argH_ok ar
  have hS := dw_all KX ar ds vals hwl hpl ho
  have hV := vals_toV ho
  have hK : ∀ b u, argH K s₁.heap A b = some u → K.lookup b = none := fun b u q => (argH_is ar q).1
  have noA : ∀ {b : Addr} {o : Obj} {es : Array DictEntry} {ep : Nat}, s₁.heap.get? b = some o → o.data = .dict es ep → argH K s₁.heap A b = none := fun {b o es ep} e d => by
    cases q : argH K s₁.heap A b with
    | none => rfl
    | some u =>
      obtain ⟨_, vs, _, _, ⟨e2, _⟩ | ⟨e2, _⟩⟩ := argH_is ar q
      · rw [e2] at e
        cases e
        have d' : Data.seq vs.toArray _ = Data.dict es ep := d
        cases d'
      · rw [e2] at e
        cases e
        have d' : Data.seq vs.toArray _ = Data.dict es ep := d
        cases d'
  generalize argH K s₁.heap A = H at hO hok hS hK noA
  have base_of : ∀ {b : Addr} {o : Obj}, s₁.heap.get? b = some o → H b = none → (hidT s₁.heap H).get? b = some o := fun e n => hidT_get e n
  have nsK : ∀ {b : Addr} {m : Str → Option Value}, s₁.heap.Ns b m → (hidT s₁.heap H).Ns b m := fun {b m} ⟨o, es, ep, e, d, r⟩ => ⟨o, es, ep, base_of e (noA e d), d, r⟩
  have nK : ∀ b o, K.lookup b = some o → H b = none := fun b o e => by
    cases q : H b with
    | none => rfl
    | some u =>
      rw [hK b u q] at e
      cases e
  have hKb : K.In (hidT s₁.heap H) := fun b o e => base_of (KX b o e) (nK b o e)
  have hM : Mod K mg (hidT s₁.heap H) := ⟨hKb, nsK hns, ⟨mb, nsK hb, hbb⟩, let ⟨mc, h1, h2⟩ := hlim; ⟨mc, nsK h1, h2⟩⟩
  have e0 : Env0 P w K mg (hidT s₁.heap H) callerA [] s₁ H := ⟨rfl, hM, fun b o e => of_hidT e, Nat.le_of_eq (hidT_size _ _), trivial, fun b hb => absurd (show b ∈ ([] : List Addr) from hb) (by simp), hok, .of_eq hg⟩
  have hl : vals.length = ps.length := by rw [wellAll_len hwl]; exact hlen
  refine codeAny_mono ((F _ hKb (nsK hns)).run callerA [] s₁ H ⟨vals, []⟩ vals (vals.map toV) _ _ hr e0 (hbind s₁ vals hl) hV (hsp H _ hO hS)) fun r s' x => ?_
  cases r with
  | error e => exact (hCX H e s' x).elim
  | ok fl =>
    cases fl with
    | next => exact False.elim x
    | brk => exact False.elim x
    | cont => exact False.elim x
    | ret u =>
      obtain ⟨v, H', os, bare, un, hok', r', q⟩ := x
      have kept : ∀ b o, s₁.heap.get? b = some o → s'.heap.get? b = some o := fun b o e => by
        cases q2 : H b with
        | none => exact un.keep b o e q2 (by intro z; exact absurd (show b ∈ ([] : List Addr) from z) (by simp)) (by simp)
        | some u2 =>
          rcases hO b with z | ⟨ob, u3, z⟩
          · rw [q2] at z
            cases z
          · have z2 := un.frzs b ob _ z
            obtain ⟨e1, _⟩ := hok b _ z
            obtain ⟨e2, _⟩ := hok' b _ z2
            rw [e] at e1
            cases e1
            exact e2
      have KX' : K.In s'.heap := fun b o e => kept b o (KX b o e)
      obtain ⟨as, hrd⟩ := Dw.reads (R := R) (cl := cl) hok' KX' d0 v u q r'
      exact ⟨u, as, rfl, hrd, OldK.of_keep kept, os, bare⟩
theorem layable_weight {ds : List WData} (h : WData.layableAll ds = true) : ∀ d ∈ ds, d.weight ≤ 1048576 := fun d hd =>
  (PySem.W.layableW_iff.mp (List.all_eq_true.mp h d hd)).2.2
theorem encAll_len : ∀ (cs : List Codec) (a : Codec.denoteAll cs), (Codec.encAll cs a).length = cs.length
  | [], _ => rfl
  | c :: cs, a => by
    show (Codec.encAll cs a.2).length + 1 = cs.length + 1
    rw [encAll_len cs a.2]
theorem walk_spec {r : OpenSpec} {k : Nat} {q : Program} {loose : List Str} {XP : (Str → Option Value) → Heap → Prop} {YP : World → Heap → Prop} {d : DefRec} {K : Params → PySem.W.Frag} {CX : World → CXT} {ps : List Str} {sp : World → Sp}
    (hwell : r.wellSaid = true) (hdf : d.params.defaults = []) (hlen : r.args.length = ps.length) (hr : Room k callerA)
    (hY : ∀ (w : World) (h : Heap), YP w h → (K w.params).In h)
    (F : ∀ (w : World) (mg : Str → Option Value) (fa : Addr) (h : Heap), YP w h → (K w.params).In h → h.Ns mainGlobals mg → mg d.name = some (.ref fa) →
      ∃ fd : FuncData, (∀ (s : Shared) (us : List Value), us.length = ps.length → BindsTo s fd ⟨us, []⟩ (ps.zip us)) ∧
        ∀ base : Heap, (K w.params).In base → base.Ns mainGlobals mg → FnOk r.prog w (K w.params) mg base (CX w) k fa fd ps (sp w))
    (hsp : ∀ (w : World) (H : Hp) (xs : List V) (a : Codec.denoteAll r.args), OnlyF H → Codec.withinAll r.args a = true → Codec.app r.args r.asked a = true → DwAll (K w.params) H xs (Codec.encAll r.args a) →
      sp w xs H (fun v H' => Dw (K w.params) H' v (r.ret.enc (Codec.app r.args r.f a))) fun _ _ _ => False)
    (hCX : ∀ (w : World) (H : Hp) (s : Shared) (e : Value) (s' : Shared), CX w [] H s (fun _ _ _ => False) e s' → False) :
    PySem.W.WalkOS q loose XP YP r d [] (fun f vs => PySem.call f vs) := by
  intro w s_0 s₁ mg mb G Y fa o pm cd doc dV kV ho hd hcd hD hmg hg args vals as hpre hlay hrd hwl hlo
  obtain ⟨a, e1, e2⟩ := PySem.W.os_pre_some hpre
  obtain ⟨e3, hwi⟩ := Codec.encAll_of_decAll r.args args a e1
  subst e3
  have KX := hY w _ Y
  obtain ⟨fd, hb, hF⟩ := F w mg fa _ Y KX G.T.g hmg
  refine PySem.W.enter_call (codeAny_mono (spec_call (R := []) (cl := classAt s_0.heap) (d0 := r.ret.enc (Codec.app r.args r.f a)) KX G.T.g G.T.b G.T.builtins G.T.nolimit hg hwl (pl_encAll _ _) (layable_weight hlay) hr hF hb (by rw [encAll_len]; exact hlen)
    (fun H xs hO hS => hsp w H xs a hO hwi e2 hS) fun H e s' => hCX w H s₁ e s') fun r' s' hq => ?_)
  obtain ⟨u, as', rfl, h1, h2, h3, h4⟩ := hq
  exact ⟨.inl ⟨u, _, as', rfl, fun _ => rfl, h1, (OpenSpec.post_iff hwell hwi _ _).mpr rfl, fun z => Bool.noConfusion (show false = true from z)⟩, h2, h3, h4⟩
theorem walk_specK {r : OpenSpec} {k : Nat} {q : Program} {loose : List Str} {XP : (Str → Option Value) → Heap → Prop} {YP : World → Heap → Prop} {d : DefRec} {K : Params → PySem.W.Frag} {CX : CXT} {ps : List Str} {sp : PySem.W.Frag → Sp}
    (hwell : r.wellSaid = true) (hdf : d.params.defaults = []) (hlen : r.args.length = ps.length) (hr : Room k callerA)
    (hY : ∀ (w : World) (h : Heap), YP w h → (K w.params).In h)
    (F : ∀ (w : World) (mg : Str → Option Value) (fa : Addr) (h : Heap), YP w h → (K w.params).In h → h.Ns mainGlobals mg → mg d.name = some (.ref fa) →
      ∃ fd : FuncData, (∀ (s : Shared) (us : List Value), us.length = ps.length → BindsTo s fd ⟨us, []⟩ (ps.zip us)) ∧
        ∀ base : Heap, (K w.params).In base → base.Ns mainGlobals mg → FnOk r.prog w (K w.params) mg base CX k fa fd ps (sp (K w.params)))
    (hsp : ∀ (K : PySem.W.Frag) (H : Hp) (xs : List V) (a : Codec.denoteAll r.args), OnlyF H → Codec.withinAll r.args a = true → Codec.app r.args r.asked a = true → DwAll K H xs (Codec.encAll r.args a) →
      sp K xs H (fun v H' => Dw K H' v (r.ret.enc (Codec.app r.args r.f a))) fun _ _ _ => False)
    (hCX : ∀ (H : Hp) (s : Shared) (e : Value) (s' : Shared), CX [] H s (fun _ _ _ => False) e s' → False) :
    PySem.W.WalkOS q loose XP YP r d [] (fun f vs => PySem.call f vs) :=
  walk_spec (K := K) (CX := fun _ => CX) (sp := fun w => sp (K w.params)) hwell hdf hlen hr hY F (fun w H xs a h1 h2 h3 h4 => hsp (K w.params) H xs a h1 h2 h3 h4) fun _ H s e s' => hCX H s e s'
end L2
end

end
section
set_option linter.all false
namespace Rr
open Root
noncomputable def gcdRow (l : List Int) : Nat := l.foldl (fun (g : Nat) (z : Int) => Nat.gcd g z.natAbs) 0
theorem dvd_foldl_gcd {k : Nat} : ∀ (l : List Int) (g : Nat), k ∣ l.foldl (fun (g : Nat) (z : Int) => Nat.gcd g z.natAbs) g ↔ k ∣ g ∧ ∀ z ∈ l, k ∣ z.natAbs
  | [], g => by simp
  | a :: l, g => by
    rw [List.foldl_cons, dvd_foldl_gcd l, Nat.dvd_gcd_iff]
    simp only [List.mem_cons, forall_eq_or_imp]
    exact ⟨fun ⟨⟨h1, h2⟩, h3⟩ => ⟨h1, h2, h3⟩, fun ⟨h1, h2, h3⟩ => ⟨⟨h1, h2⟩, h3⟩⟩
theorem dvd_gcdRow {k : Nat} (l : List Int) : k ∣ gcdRow l ↔ ∀ z ∈ l, k ∣ z.natAbs := by
  unfold gcdRow
  rw [dvd_foldl_gcd]
  exact ⟨fun h => h.2, fun h => ⟨Nat.dvd_zero k, h⟩⟩
theorem gcdRow_dvd {l : List Int} {z : Int} (h : z ∈ l) : gcdRow l ∣ z.natAbs := (dvd_gcdRow l).mp (Nat.dvd_refl _) z h
noncomputable def lessRow (l : List Int) : List Int := l.map fun (z : Int) => z / (gcdRow l : Int)
end Rr

end
section
set_option linter.all false
namespace Rr
open Root
noncomputable def divAbove (n : Int) : List Int := ((List.range n.natAbs).map fun (i : Nat) => (1 : Int) + (i : Int)).filter fun (k : Int) => decide (n % k = 0)
noncomputable def divisorsOf (n : Int) : List Int := divAbove n ++ (divAbove n).map fun (k : Int) => -k
theorem mem_divAbove {n z : Int} : z ∈ divAbove n ↔ 0 < z ∧ z ≤ (n.natAbs : Int) ∧ n % z = 0 := by
  unfold divAbove
  rw [List.mem_filter, List.mem_map]
  constructor
  · rintro ⟨⟨i, hi, rfl⟩, h⟩
    have := List.mem_range.mp hi
    exact ⟨by lia, by lia, of_decide_eq_true h⟩
  · rintro ⟨h1, h2, h3⟩
    exact ⟨⟨(z - 1).toNat, List.mem_range.mpr (by lia), by lia⟩, decide_eq_true h3⟩
theorem mem_divisors {n z : Int} : z ∈ divisorsOf n ↔ z ≠ 0 ∧ -(n.natAbs : Int) ≤ z ∧ z ≤ (n.natAbs : Int) ∧ n % z = 0 := by
  unfold divisorsOf
  rw [List.mem_append, List.mem_map, mem_divAbove]
  constructor
  · rintro (⟨h1, h2, h3⟩ | ⟨k, hk, rfl⟩)
    · exact ⟨by lia, by lia, h2, h3⟩
    · obtain ⟨h1, h2, h3⟩ := mem_divAbove.mp hk
      exact ⟨by lia, by lia, by lia, by rw [Int.emod_neg]; exact h3⟩
  · rintro ⟨h1, h2, h3, h4⟩
    rcases Int.lt_trichotomy z 0 with h | h | h
    · exact .inr ⟨-z, mem_divAbove.mpr ⟨by lia, by lia, by rw [Int.emod_neg]; exact h4⟩, by lia⟩
    · exact absurd h h1
    · exact .inl ⟨h, h3, h4⟩
theorem divisor_small {n z : Int} (hn : n ≠ 0) (h : n % z = 0) : z ≠ 0 ∧ -(n.natAbs : Int) ≤ z ∧ z ≤ (n.natAbs : Int) := by
  have h1 : z ∣ n := Int.dvd_of_emod_eq_zero h
  have h2 : z.natAbs ≤ n.natAbs := Nat.le_of_dvd (by lia) (Int.natAbs_dvd_natAbs.mpr h1)
  refine ⟨?_, by lia, by lia⟩
  rintro rfl
  obtain ⟨k, hk⟩ := h1
  rw [Int.zero_mul] at hk
  exact hn hk
theorem mem_divisors' {n z : Int} (hn : n ≠ 0) : z ∈ divisorsOf n ↔ n % z = 0 := by
  rw [mem_divisors]
  exact ⟨fun h => h.2.2.2, fun h => let ⟨a, b, c⟩ := divisor_small hn h; ⟨a, b, c, h⟩⟩
theorem mem_around {n : Nat} {z : Int} : z ∈ around n ↔ -(n : Int) ≤ z ∧ z ≤ (n : Int) := by
  unfold around
  rw [List.mem_map]
  constructor
  · rintro ⟨i, hi, rfl⟩
    have := List.mem_range.mp hi
    lia
  · rintro ⟨h1, h2⟩
    exact ⟨(z + n).toNat, List.mem_range.mpr (by lia), by lia⟩
theorem divides_of {z n : Int} (hz : z ≠ 0) : divides z n = decide (n % z = 0) := by
  unfold divides
  rw [if_neg hz]
  exact Bool.eq_iff_iff.mpr (by simp)
noncomputable def horner (f : List Int) (z : Int) : Int := f.reverse.foldl (fun (s t : Int) => s * z + t) 0
theorem horner_valueAt (c : List Int) (z : Int) : horner (c ++ [1]) z = valueAt c z := by
  unfold horner valueAt
  rw [List.reverse_append]
  show (1 :: c.reverse).foldl _ 0 = _
  rw [List.foldl_cons, Int.zero_mul, Int.zero_add]
theorem hasRoot_is {c : List Int} (h0 : c.headD 0 ≠ 0) : hasRoot c = (divisorsOf (c.headD 0)).any fun (z : Int) => horner (c ++ [1]) z == 0 := by
  have e0 : (c.headD 0 == 0) = false := by simpa using h0
  unfold hasRoot
  rw [e0, Bool.false_or, Bool.eq_iff_iff, List.any_eq_true, List.any_eq_true]
  constructor
  · rintro ⟨z, hz, h⟩
    rw [Bool.and_eq_true, Bool.and_eq_true] at h
    obtain ⟨h1, h2, h3⟩ := h
    have h1' : z ≠ 0 := by simpa using h1
    rw [divides_of h1'] at h2
    exact ⟨z, (mem_divisors' h0).mpr (of_decide_eq_true h2), by rw [horner_valueAt]; exact h3⟩
  · rintro ⟨z, hz, h⟩
    obtain ⟨h1, h2, h3, h4⟩ := mem_divisors.mp hz
    refine ⟨z, mem_around.mpr ⟨h2, h3⟩, ?_⟩
    rw [Bool.and_eq_true, Bool.and_eq_true, divides_of h1]
    refine ⟨by simpa using h1, decide_eq_true h4, ?_⟩
    rw [← horner_valueAt]; exact h
theorem foldl_root {n : Nat} : ∀ (k r : Nat), r * r ≤ n → n < (r + 2 ^ k) * (r + 2 ^ k) →
    ∃ q, (List.range k).reverse.foldl (fun (r i : Nat) => if (r + 2 ^ i) * (r + 2 ^ i) ≤ n then r + 2 ^ i else r) r = q ∧ q * q ≤ n ∧ n < (q + 1) * (q + 1)
  | 0, r, h1, h2 => ⟨r, rfl, h1, by simpa using h2⟩
  | k + 1, r, h1, h2 => by
    rw [List.range_succ, List.reverse_append]
    show ∃ q, (k :: (List.range k).reverse).foldl _ r = q ∧ _
    rw [List.foldl_cons]
    by_cases h : (r + 2 ^ k) * (r + 2 ^ k) ≤ n
    · rw [if_pos h]
      refine foldl_root k _ h ?_
      have : r + 2 ^ k + 2 ^ k = r + 2 ^ (k + 1) := by rw [Nat.pow_succ]; lia
      rw [this]; exact h2
    · rw [if_neg h]
      exact foldl_root k r h1 (by lia)
theorem rootBelow_is (n : Nat) : rootBelow n * rootBelow n ≤ n ∧ n < (rootBelow n + 1) * (rootBelow n + 1) := by
  unfold rootBelow
  obtain ⟨q, e, h1, h2⟩ := foldl_root (n := n) (n.log2 / 2 + 2) 0 (by lia) (by
    have h3 : n < 2 ^ (n.log2 + 1) := Nat.lt_log2_self
    have h4 : 2 ^ (n.log2 + 1) ≤ 2 ^ ((n.log2 / 2 + 2) + (n.log2 / 2 + 2)) := Nat.pow_le_pow_right (by lia) (by lia)
    rw [Nat.zero_add, ← Nat.pow_add]
    lia)
  rw [e]
  exact ⟨h1, h2⟩
theorem root_unique {n q r : Nat} (h1 : q * q ≤ n) (h2 : n < (q + 1) * (q + 1)) (h3 : r * r = n) : q = r := by
  rcases Nat.lt_trichotomy q r with h | h | h
  · have : (q + 1) * (q + 1) ≤ r * r := Nat.mul_le_mul h h
    lia
  · exact h
  · have : (r + 1) * (r + 1) ≤ q * q := Nat.mul_le_mul h h
    have e : (r + 1) * (r + 1) = r * r + 2 * r + 1 := by grind
    lia
noncomputable def Hit (c : List Int) (q : Int) : Prop := ∃ g : Int, 0 ≤ g ∧ g * g = c.getD 3 0 * c.getD 3 0 - 4 * (c.getD 2 0 - q - c.getD 0 0 / q) ∧
  ((c.getD 3 0 + g) / 2) * (c.getD 0 0 / q) + q * (c.getD 3 0 - (c.getD 3 0 + g) / 2) = c.getD 1 0
theorem parity {s g p : Int} (h : g * g = s * s - 4 * p) : (s + g) % 2 = 0 := by
  have h1 : (s * s - g * g) % 2 = 0 := by lia
  have h2 : s * s - g * g = (s + g) * (s + g) - 2 * (g * s + g * g) := by grind
  rw [h2] at h1
  have e01 : (s + g) % 2 = 0 ∨ (s + g) % 2 = 1 := by lia
  rcases e01 with e | e
  · exact e
  · have h3 : ((s + g) * (s + g)) % 2 = 1 := by rw [Int.mul_emod, e]; rfl
    lia
theorem splits_of {s p g : Int} (h0 : 0 ≤ g) (h : g * g = s * s - 4 * p) : splits s p = some ((s + g) / 2) := by
  have hr : rootBelow (s * s - 4 * p).toNat = g.toNat := by
    obtain ⟨h1, h2⟩ := rootBelow_is (s * s - 4 * p).toNat
    refine root_unique h1 h2 ?_
    rw [← h]
    obtain ⟨G, rfl⟩ : ∃ G : Nat, g = (G : Int) := ⟨g.toNat, by lia⟩
    rw [← Int.natCast_mul, Int.toNat_natCast, Int.toNat_natCast]
  have hg : ((g.toNat : Nat) : Int) = g := by lia
  unfold splits
  dsimp only
  rw [hr, hg, if_neg]
  rintro (h1 | h1 | h1)
  · have : 0 ≤ g * g := Int.mul_nonneg h0 h0
    lia
  · apply h1
    rw [← h]
    obtain ⟨G, rfl⟩ : ∃ G : Nat, g = (G : Int) := ⟨g.toNat, by lia⟩
    rw [← Int.natCast_mul, Int.toNat_natCast, Int.toNat_natCast]
  · exact h1 (parity h)
theorem splits_some {s p a : Int} (h : splits s p = some a) : ∃ g : Int, 0 ≤ g ∧ g * g = s * s - 4 * p ∧ a = (s + g) / 2 := by
  unfold splits at h
  dsimp only at h
  split at h
  · cases h
  · rename_i hn
    refine ⟨(rootBelow (s * s - 4 * p).toNat : Int), by omega, ?_, (Option.some.inj h).symm⟩
    have h1 : ¬ s * s - 4 * p < 0 := fun z => hn (.inl z)
    have h2 : rootBelow (s * s - 4 * p).toNat * rootBelow (s * s - 4 * p).toNat = (s * s - 4 * p).toNat := by
      false_or_by_contra
      rename_i z
      exact hn (.inr (.inl z))
    rw [← Int.natCast_mul, h2]
    lia
theorem ediv_div {n q : Int} (hn : n ≠ 0) (h : n % q = 0) : n % (n / q) = 0 ∧ n / (n / q) = q := by
  obtain ⟨k, hk⟩ := Int.dvd_of_emod_eq_zero h
  have hq : q ≠ 0 := by
    rintro rfl
    rw [Int.zero_mul] at hk; exact hn hk
  have hk0 : k ≠ 0 := by
    rintro rfl
    rw [Int.mul_zero] at hk; exact hn hk
  have e : n / q = k := by rw [hk]; exact Int.mul_ediv_cancel_left _ hq
  rw [e, hk]
  exact ⟨Int.mul_emod_left _ _, Int.mul_ediv_cancel _ hk0⟩
theorem twoTwos_of_hit {c : List Int} (h0 : c.getD 0 0 ≠ 0) {q : Int} (hq : q ∈ divisorsOf (c.getD 0 0)) (h : Hit c q) : twoTwos c = true := by
  obtain ⟨g, g0, gg, hp⟩ := h
  obtain ⟨h1, h2, h3, h4⟩ := mem_divisors.mp hq
  unfold twoTwos
  dsimp only
  rw [List.any_eq_true]
  refine ⟨q, mem_around.mpr ⟨h2, h3⟩, ?_⟩
  rw [Bool.and_eq_true, Bool.and_eq_true, divides_of h1]
  refine ⟨by simpa using h1, decide_eq_true h4, ?_⟩
  rw [splits_of g0 gg]
  dsimp only
  rw [Bool.or_eq_true]
  left
  rw [beq_iff_eq, ← hp]
  grind
theorem hit_of_twoTwos {c : List Int} (h0 : c.getD 0 0 ≠ 0) (h : twoTwos c = true) : ∃ q ∈ divisorsOf (c.getD 0 0), Hit c q := by
  unfold twoTwos at h
  dsimp only at h
  rw [List.any_eq_true] at h
  obtain ⟨b, hb, h⟩ := h
  rw [Bool.and_eq_true, Bool.and_eq_true] at h
  obtain ⟨h1, h2, h3⟩ := h
  have h1' : b ≠ 0 := by simpa using h1
  rw [divides_of h1'] at h2
  have h2' := of_decide_eq_true h2
  cases e : splits (c.getD 3 0) (c.getD 2 0 - b - c.getD 0 0 / b) with
  | none => rw [e] at h3; cases h3
  | some a =>
    rw [e] at h3
    dsimp only at h3
    obtain ⟨g, g0, gg, ha⟩ := splits_some e
    rw [Bool.or_eq_true, beq_iff_eq, beq_iff_eq] at h3
    rcases h3 with h3 | h3
    · refine ⟨b, (mem_divisors' h0).mpr h2', g, g0, gg, ?_⟩
      rw [← ha, ← h3]; grind
    · obtain ⟨k1, k2⟩ := ediv_div h0 h2'
      refine ⟨c.getD 0 0 / b, (mem_divisors' h0).mpr k1, g, g0, ?_, ?_⟩
      · rw [k2, gg]; grind
      · rw [k2, ← ha, ← h3]; grind
noncomputable def badField (c : List Int) : Bool := decide (c.length < 1) || (decide (4 < c.length) || c.any fun (z : Int) => decide (z < -1000) || decide (1000 < z))
noncomputable def refusal (c : List Int) : Int := if badField c = true then -1 else if isField c = true then 0 else -2
theorem ofField_is (c : List Int) (g : Unit → Ans) : ofField c g = if refusal c = 0 then g () else says (refusal c) := by
  have hb : badField c = true ↔ (c.length < 1 ∨ DEGREE < c.length ∨ c.any (fun (z : Int) => decide (z < -FAR) || decide (FAR < z)) = true) := by
    unfold badField
    rw [Bool.or_eq_true, Bool.or_eq_true, decide_eq_true_eq, decide_eq_true_eq]
    exact Iff.rfl
  unfold ofField refusal
  by_cases h : badField c = true
  · rw [if_pos (hb.mp h)]
    simp only [if_pos h]
    rw [if_neg (by decide)]
  · rw [if_neg (fun q => h (hb.mpr q))]
    simp only [if_neg h]
    by_cases h2 : isField c = true
    · simp only [if_pos h2]
      rfl
    · simp only [if_neg h2]
      rw [if_neg (by decide)]
end Rr

end
section
set_option linter.all false
namespace Rr
open Root
theorem newton_ge {n x s : Int} (hx : 0 < x) (hs : s * s ≤ n) : s ≤ (x + n / x) / 2 := by
  have h1 : 2 * s - x ≤ n / x := by
    rw [Int.le_ediv_iff_mul_le hx]
    have h2 : (2 * s - x) * x = s * s - (s - x) * (s - x) := by grind
    have h3 : 0 ≤ (s - x) * (s - x) := by
      rcases Int.le_total 0 (s - x) with h | h
      · exact Int.mul_nonneg h h
      · exact Int.mul_nonneg_of_nonpos_of_nonpos h h
    lia
  lia
structure Newt (n root nearer : Int) : Prop where
  n0 : 0 ≤ n
  r0 : 0 ≤ root
  rn : root ≤ n
  up : ∀ s : Int, 0 ≤ s → s * s ≤ n → s ≤ root
  st : (n = 0 ∧ root = 0 ∧ nearer = 0) ∨ (0 < root ∧ nearer = (root + n / root) / 2)
theorem newt_start {n : Int} (h : 0 ≤ n) : Newt n n ((n + 1) / 2) := by
  refine ⟨h, h, Int.le_refl _, fun s h0 hs => ?_, ?_⟩
  · rcases Int.lt_or_le s 1 with h1 | h1
    · lia
    · have : s * 1 ≤ s * s := Int.mul_le_mul_of_nonneg_left h1 h0
      lia
  · rcases Int.lt_or_le 0 n with h1 | h1
    · right
      rw [Int.ediv_self (by lia)]
      exact ⟨h1, rfl⟩
    · left
      lia
theorem newt_step {n root nearer : Int} (h : Newt n root nearer) (hl : nearer < root) : 0 < nearer ∧ Newt n nearer ((nearer + n / nearer) / 2) := by
  rcases h.st with ⟨h1, h2, h3⟩ | ⟨h1, h2⟩
  · lia
  · have hn : 1 * 1 ≤ n := by
      have := h.rn
      lia
    have hp : 1 ≤ nearer := by
      rw [h2]
      exact newton_ge h1 hn
    have := h.rn
    refine ⟨by lia, h.n0, by lia, by lia, fun s h0 hs => ?_, .inr ⟨by lia, rfl⟩⟩
    rw [h2]
    exact newton_ge h1 hs
theorem newt_end {n root nearer : Int} (h : Newt n root nearer) (hl : ¬ nearer < root) : root * root ≤ n ∧ n < (root + 1) * (root + 1) := by
  constructor
  · rcases h.st with ⟨h1, h2, h3⟩ | ⟨h1, h2⟩
    · rw [h2, h1]
      decide
    · have h3 : root ≤ n / root := by lia
      rw [Int.le_ediv_iff_mul_le h1] at h3
      exact h3
  · rcases Int.lt_or_le n ((root + 1) * (root + 1)) with h1 | h1
    · exact h1
    · have := h.up (root + 1) (by have := h.r0; lia) h1
      lia
theorem isField_one {c : List Int} (h : c.length = 1) : isField c = true := by
  unfold isField
  rw [h]
  rfl
theorem isField_zero {c : List Int} (h : c.length ≠ 1) (h0 : c.headD 0 = 0) : isField c = false := by
  unfold isField hasRoot
  rw [h0]
  simp [h]
theorem isField_root {c : List Int} (h : c.length ≠ 1) (h0 : hasRoot c = true) : isField c = false := by
  unfold isField
  rw [h0]
  simp [h]
theorem isField_rest {c : List Int} (h : c.length ≠ 1) (h0 : hasRoot c = false) (h4 : c.length ≠ 4) : isField c = true := by
  unfold isField
  rw [h0]
  simp [h4]
theorem isField_four {c : List Int} (h0 : hasRoot c = false) (h4 : c.length = 4) : isField c = !twoTwos c := by
  unfold isField
  rw [h0, h4]
  simp
end Rr

end
section
set_option linter.all false
namespace Rr
open Root
noncomputable def isRow (a : List Int) (d : Nat) : Bool := decide (a.length = d + 1) && decide (0 < a.getLastD 0)
noncomputable def rowsRefusal (c : List Int) (rs : List (List Int)) : Int := if refusal c = 0 then (if rs.all (fun (r : List Int) => isRow r c.length) = true then 0 else -9) else refusal c
theorem row_split {a : List Int} {d : Nat} (h : isRow a d = true) : ∃ (ns : List Int) (n : Int), a = ns ++ [n] ∧ ns.length = d ∧ 0 < n := by
  unfold isRow at h
  rw [Bool.and_eq_true, decide_eq_true_eq, decide_eq_true_eq] at h
  obtain ⟨h1, h2⟩ := h
  have hne : a ≠ [] := by
    intro e
    rw [e] at h1
    cases h1
  refine ⟨a.dropLast, a.getLast hne, (List.dropLast_concat_getLast hne).symm, by rw [List.length_dropLast]; lia, ?_⟩
  rw [List.getLastD_eq_getLast?, List.getLast?_eq_some_getLast hne] at h2
  exact h2
theorem numOf_row {c ns : List Int} {n : Int} (hl : ns.length = c.length) (hn : 0 < n) : numOf c (ns ++ [n]) = some (ns.map fun (z : Int) => (z : Rat) / (n : Rat)) := by
  have e1 : (ns ++ [n]).getLastD 0 = n := by simp
  have e2 : (ns ++ [n]).getLastD 1 = n := by simp
  unfold numOf
  rw [e1, e2, if_neg]
  · rw [← hl, List.take_left]
  · rintro (h | h)
    · exact h (by rw [List.length_append, hl]; rfl)
    · lia
theorem numOf_none {c a : List Int} (h : isRow a c.length = false) : numOf c a = none := by
  unfold isRow at h
  unfold numOf
  rw [if_pos]
  rw [Bool.and_eq_false_iff, decide_eq_false_iff_not, decide_eq_false_iff_not] at h
  rcases h with h | h
  · exact .inl h
  · exact .inr (by lia)
noncomputable def told_ (x : Ans) : List Int := x.code :: x.nums
theorem refusal_one {c a : List Int} (g : Num → Ans) : told_ (ofRow c a g) = if rowsRefusal c [a] = 0 then (match numOf c a with | none => [] | some x => told_ (g x)) else [rowsRefusal c [a]] := by
  unfold ofRow
  rw [ofField_is]
  unfold rowsRefusal
  by_cases h : refusal c = 0
  · rw [if_pos h]
    simp only [if_pos h]
    cases hr : isRow a c.length with
    | true =>
      obtain ⟨ns, n, rfl, hl, hn⟩ := row_split hr
      rw [numOf_row hl hn]
      simp [hr]
    | false =>
      rw [numOf_none hr]
      simp [hr]
      rfl
  · rw [if_neg h]
    simp only [if_neg h]
    rfl
end Rr

end
section
set_option linter.all false
namespace Rr
open Root
theorem rat_add {m p n q : Int} (hp : 0 < p) (hq : 0 < q) : (m : Rat) / (p : Rat) + (n : Rat) / (q : Rat) = ((m * q + n * p : Int) : Rat) / ((p * q : Int) : Rat) := by
  have h1 : (p : Rat) ≠ 0 := fun h => by
    have := Rat.intCast_eq_zero_iff.mp h
    lia
  have h2 : (q : Rat) ≠ 0 := fun h => by
    have := Rat.intCast_eq_zero_iff.mp h
    lia
  rw [← Rat.divInt_eq_div, ← Rat.divInt_eq_div, ← Rat.divInt_eq_div, Rat.divInt_add_divInt _ _ (by lia) (by lia)]
theorem zip_map2 {α β γ δ : Type} (f : α → β) (g : δ → β) (h : β → β → γ) (k : α → δ → γ) (e : ∀ x y, h (f x) (g y) = k x y) : ∀ (l : List α) (m : List δ), ((l.map f).zip (m.map g)).map (fun (z : β × β) => h z.1 z.2) = List.zipWith k l m
  | [], _ => by simp
  | _ :: _, [] => by simp
  | a :: l, b :: m => by
    simp only [List.map_cons, List.zip_cons_cons, List.zipWith_cons_cons, e]
    congr 1
    exact zip_map2 f g h k e l m
noncomputable def addRow (ms : List Int) (p : Int) (ns : List Int) (q : Int) : List Int := List.zipWith (fun (m n : Int) => m * q + n * p) ms ns ++ [p * q]
end Rr

end
section
set_option linter.all false
namespace Rr
open Root
theorem polyAt_nil (x : Rat) : polyAt [] x = 0 := rfl
theorem polyAt_cons (a : Rat) (p : List Rat) (x : Rat) : polyAt (a :: p) x = polyAt p x * x + a := rfl
theorem bmul {a b K e : Rat} (h1 : -K ≤ a) (h2 : a ≤ K) (h3 : -e ≤ b) (h4 : b ≤ e) : -(K * e) ≤ a * b ∧ a * b ≤ K * e := by
  have e1 : 0 ≤ (K - a) * (e + b) := Rat.mul_nonneg (by grind) (by grind)
  have e2 : 0 ≤ (K + a) * (e - b) := Rat.mul_nonneg (by grind) (by grind)
  have e3 : 0 ≤ (K - a) * (e - b) := Rat.mul_nonneg (by grind) (by grind)
  have e4 : 0 ≤ (K + a) * (e + b) := Rat.mul_nonneg (by grind) (by grind)
  constructor <;> grind
theorem bnum (a : Rat) : ∃ A : Rat, 0 ≤ A ∧ -A ≤ a ∧ a ≤ A := by
  rcases Rat.le_total (a := a) (b := 0) with h | h
  · exact ⟨-a, by grind, by grind, by grind⟩
  · exact ⟨a, h, by grind, by grind⟩
noncomputable def Bd (M : Rat) (f : Rat → Rat) (K : Rat) : Prop := ∀ x, -M ≤ x → x ≤ M → -K ≤ f x ∧ f x ≤ K
theorem poly_bd {M : Rat} (hM : 0 ≤ M) : ∀ p : List Rat, ∃ K : Rat, 0 < K ∧ Bd M (polyAt p) K
  | [] => ⟨1, by decide, fun x _ _ => by rw [polyAt_nil]; exact ⟨by decide, by decide⟩⟩
  | a :: p => by
    obtain ⟨K, hK, h⟩ := poly_bd hM p
    obtain ⟨A, hA, ha1, ha2⟩ := bnum a
    have hKM : 0 ≤ K * M := Rat.mul_nonneg (by grind) hM
    refine ⟨K * M + A + 1, by grind, fun x h1 h2 => ?_⟩
    obtain ⟨q1, q2⟩ := h x h1 h2
    obtain ⟨r1, r2⟩ := bmul q1 q2 h1 h2
    rw [polyAt_cons]
    constructor <;> grind
noncomputable def Lip (M : Rat) (f : Rat → Rat) (L : Rat) : Prop := ∀ x y, -M ≤ x → x ≤ y → y ≤ M → -(L * (y - x)) ≤ f y - f x ∧ f y - f x ≤ L * (y - x)
theorem poly_lip {M : Rat} (hM : 0 ≤ M) : ∀ p : List Rat, ∃ L : Rat, 0 < L ∧ Lip M (polyAt p) L
  | [] => ⟨1, by decide, fun x y _ h _ => by rw [polyAt_nil, polyAt_nil]; constructor <;> grind⟩
  | a :: p => by
    obtain ⟨L, hL, h⟩ := poly_lip hM p
    obtain ⟨K, hK, k⟩ := poly_bd hM p
    have hLM : 0 ≤ L * M := Rat.mul_nonneg (by grind) hM
    refine ⟨L * M + K, by grind, fun x y h1 h2 h3 => ?_⟩
    obtain ⟨q1, q2⟩ := h x y h1 h2 h3
    obtain ⟨k1, k2⟩ := k x h1 (by grind)
    obtain ⟨r1, r2⟩ := bmul q1 q2 (show -M ≤ y by grind) h3
    obtain ⟨s1, s2⟩ := bmul k1 k2 (show -(y - x) ≤ y - x by grind) (show y - x ≤ y - x by grind)
    rw [polyAt_cons, polyAt_cons]
    constructor <;> grind
noncomputable def diffAt : List Rat → Rat → Rat
  | [], _ => 0
  | _ :: p, x => diffAt p x * x + polyAt p x
theorem poly_taylor {M : Rat} (hM : 0 ≤ M) : ∀ p : List Rat, ∃ C D : Rat, 0 < C ∧ 0 < D ∧ Bd M (diffAt p) D ∧ ∀ x y, -M ≤ x → x ≤ y → y ≤ M →
    -(C * ((y - x) * (y - x))) ≤ polyAt p y - polyAt p x - (y - x) * diffAt p x ∧ polyAt p y - polyAt p x - (y - x) * diffAt p x ≤ C * ((y - x) * (y - x))
  | [] => by
    refine ⟨1, 1, by decide, by decide, fun x _ _ => ?_, fun x y _ h _ => ?_⟩
    · show -1 ≤ (0 : Rat) ∧ (0 : Rat) ≤ 1
      decide
    · rw [polyAt_nil, polyAt_nil]
      have : 0 ≤ (y - x) * (y - x) := Rat.mul_nonneg (by grind) (by grind)
      show -(1 * ((y - x) * (y - x))) ≤ 0 - 0 - (y - x) * 0 ∧ 0 - 0 - (y - x) * 0 ≤ 1 * ((y - x) * (y - x))
      constructor <;> grind
  | a :: p => by
    obtain ⟨C, D, hC, hD, hd, h⟩ := poly_taylor hM p
    obtain ⟨K, hK, k⟩ := poly_bd hM p
    have hCM : 0 ≤ C * M := Rat.mul_nonneg (by grind) hM
    have hDM : 0 ≤ D * M := Rat.mul_nonneg (by grind) hM
    refine ⟨C * M + D, D * M + K, by grind, by grind, fun x h1 h2 => ?_, fun x y h1 h2 h3 => ?_⟩
    · obtain ⟨q1, q2⟩ := hd x h1 h2
      obtain ⟨k1, k2⟩ := k x h1 h2
      obtain ⟨r1, r2⟩ := bmul q1 q2 h1 h2
      show -(D * M + K) ≤ diffAt p x * x + polyAt p x ∧ diffAt p x * x + polyAt p x ≤ D * M + K
      constructor <;> grind
    · obtain ⟨q1, q2⟩ := h x y h1 h2 h3
      obtain ⟨d1, d2⟩ := hd x h1 (by grind)
      have sq : 0 ≤ (y - x) * (y - x) := Rat.mul_nonneg (by grind) (by grind)
      obtain ⟨r1, r2⟩ := bmul q1 q2 (show -M ≤ y by grind) h3
      obtain ⟨s1, s2⟩ := bmul d1 d2 (show -((y - x) * (y - x)) ≤ (y - x) * (y - x) by grind) (show (y - x) * (y - x) ≤ (y - x) * (y - x) by grind)
      rw [polyAt_cons, polyAt_cons]
      show _ ≤ polyAt p y * y + a - (polyAt p x * x + a) - (y - x) * (diffAt p x * x + polyAt p x) ∧ polyAt p y * y + a - (polyAt p x * x + a) - (y - x) * (diffAt p x * x + polyAt p x) ≤ _
      have e : polyAt p y * y + a - (polyAt p x * x + a) - (y - x) * (diffAt p x * x + polyAt p x) = (polyAt p y - polyAt p x - (y - x) * diffAt p x) * y + diffAt p x * ((y - x) * (y - x)) := by grind
      rw [e]
      constructor <;> grind
end Rr

end
section
set_option linter.all false
namespace Rr
open Root
noncomputable def tn (l : List Int) : Nat := changes (l.filter fun (z : Int) => z != 0)
theorem turns_tn (s : List (List Rat)) (x : Rat) : turns s x = tn (s.map fun (p : List Rat) => signOf (polyAt p x)) := rfl
theorem tn_one (s : Int) : tn [s] = 0 := by
  unfold tn
  by_cases h : s = 0
  · rw [h]; rfl
  · rw [List.filter_cons, if_pos (by simpa using h)]
    rfl
theorem tn_two {s t : Int} (l : List Int) (hs : s ≠ 0) (ht : t ≠ 0) : tn (s :: t :: l) = (if s ≠ t then 1 else 0) + tn (t :: l) := by
  unfold tn
  rw [List.filter_cons, if_pos (by simpa using hs), List.filter_cons, if_pos (by simpa using ht)]
  show (if (s != t) = true then 1 else 0) + _ = _
  by_cases h : s = t
  · subst h; simp
  · simp [h]
theorem tn_skip {s u r : Int} (l : List Int) (hs : s ≠ 0) (hr : r = -s) (hu : u = 0 ∨ u = s ∨ u = r) : tn (s :: u :: r :: l) = 1 + tn (r :: l) := by
  have hr0 : r ≠ 0 := by lia
  have hsr : s ≠ r := by lia
  rcases hu with h | h | h
  · subst h
    have : tn (s :: 0 :: r :: l) = tn (s :: r :: l) := by
      unfold tn
      rw [List.filter_cons, if_pos (by simpa using hs), List.filter_cons (x := s), if_pos (by simpa using hs)]
      rfl
    rw [this, tn_two l hs hr0, if_pos hsr]
  · rw [h, tn_two _ hs hs, tn_two l hs hr0, if_pos hsr, if_neg (by simp)]
    lia
  · rw [h, tn_two _ hs hr0, tn_two l hr0 hr0, if_pos hsr, if_neg (by simp)]
    lia
theorem sign_pos {x : Rat} (h : 0 < x) : signOf x = 1 := by
  unfold signOf
  rw [if_neg (by grind), if_neg (by grind)]
theorem sign_neg {x : Rat} (h : x < 0) : signOf x = -1 := by
  unfold signOf
  rw [if_pos h]
theorem sign_cases (x : Rat) : (x < 0 ∧ signOf x = -1) ∨ (x = 0 ∧ signOf x = 0) ∨ (0 < x ∧ signOf x = 1) := by
  unfold signOf
  by_cases h : x < 0
  · rw [if_pos h]; exact .inl ⟨h, rfl⟩
  · rw [if_neg h]
    by_cases h2 : x = 0
    · rw [if_pos h2]; exact .inr (.inl ⟨h2, rfl⟩)
    · rw [if_neg h2]; exact .inr (.inr ⟨by grind, rfl⟩)
noncomputable def Like (a b : Rat) : Prop := (0 < a ∧ 0 < b) ∨ (a < 0 ∧ b < 0)
noncomputable def Unlike (a b : Rat) : Prop := (0 < a ∧ b < 0) ∨ (a < 0 ∧ 0 < b)
theorem Like.sign {a b : Rat} (h : Like a b) : signOf a = signOf b ∧ signOf a ≠ 0 := by
  rcases h with ⟨h1, h2⟩ | ⟨h1, h2⟩
  · rw [sign_pos h1, sign_pos h2]; exact ⟨rfl, by decide⟩
  · rw [sign_neg h1, sign_neg h2]; exact ⟨rfl, by decide⟩
theorem Unlike.sign {a b : Rat} (h : Unlike a b) : signOf b = -signOf a ∧ signOf a ≠ 0 := by
  rcases h with ⟨h1, h2⟩ | ⟨h1, h2⟩
  · rw [sign_pos h1, sign_neg h2]; exact ⟨rfl, by decide⟩
  · rw [sign_neg h1, sign_pos h2]; exact ⟨rfl, by decide⟩
theorem ne_lt {a b : Rat} (h : a ≠ b) : a < b ∨ b < a := by grind
theorem fall_sign {C e w x y px py qx : Rat} (hs : w * (2 * C) = e) (hxy : x < y) (np1 : -e < px) (np2 : px < e) (nq : -e < qx → qx < e → False)
    (t1 : -(C * ((y - x) * (y - x))) ≤ py - px - (y - x) * qx) (t2 : py - px - (y - x) * qx ≤ C * ((y - x) * (y - x))) (cw2 : 0 ≤ (y - x) * (C * (w - (y - x)))) (ep : 0 < (y - x) * e) (hu : Unlike px py) :
    (e ≤ qx ∧ 0 < py) ∨ (qx ≤ -e ∧ py < 0) := by
  have a1 : (y - x) * (C * (w - (y - x))) = (y - x) * e / 2 - C * ((y - x) * (y - x)) := by rw [← hs]; grind
  rw [a1] at cw2
  clear a1
  generalize C * ((y - x) * (y - x)) = T at *
  by_cases z : -e < qx
  · have z2 : e ≤ qx := by
      have := nq z
      grind
    left
    refine ⟨z2, ?_⟩
    have h3 : 0 ≤ (y - x) * (qx - e) := Rat.mul_nonneg (by grind) (by grind)
    clear nq
    have h4 : px < py := by
      rw [show (y - x) * (qx - e) = (y - x) * qx - (y - x) * e by grind] at h3
      generalize (y - x) * qx = R at *
      generalize (y - x) * e = S at *
      grind
    rcases hu with ⟨h1, h2⟩ | ⟨h1, h2⟩
    · grind
    · exact h2
  · right
    refine ⟨by grind, ?_⟩
    have h3 : 0 ≤ (y - x) * (-e - qx) := Rat.mul_nonneg (by grind) (by grind)
    clear nq
    have h4 : py < px := by
      rw [show (y - x) * (-e - qx) = -((y - x) * e) - (y - x) * qx by grind] at h3
      generalize (y - x) * qx = R at *
      generalize (y - x) * e = S at *
      grind
    rcases hu with ⟨h1, h2⟩ | ⟨h1, h2⟩
    · exact h2
    · grind
inductive Ch : List (List Rat) → Prop
  | one {p : List Rat} {c : Rat} : c ≠ 0 → (∀ x, polyAt p x = c) → Ch [p]
  | two {p q : List Rat} : Ch [q] → Ch [p, q]
  | more {p q r : List Rat} {l : List (List Rat)} (Q : List Rat) : (∀ x, polyAt p x = polyAt Q x * polyAt q x - polyAt r x) → Ch (q :: r :: l) → Ch (p :: q :: r :: l)
theorem ch_tail {p q : List Rat} {l : List (List Rat)} (h : Ch (p :: q :: l)) : Ch (q :: l) := by
  cases h with
  | two h => exact h
  | more Q e h => exact h
theorem ch_nz {M : Rat} (hM : 0 ≤ M) : ∀ (l : List (List Rat)) (p q : List Rat), Ch (p :: q :: l) → ∃ e : Rat, 0 < e ∧ ∀ x, -M ≤ x → x ≤ M → (-e < polyAt p x → polyAt p x < e → -e < polyAt q x → polyAt q x < e → False)
  | [], p, q, h => by
    cases h with
    | two h =>
      cases h with
      | one hc hq =>
        rename_i c
        rcases ne_lt hc with h0 | h0
        · exact ⟨-c, by grind, fun x _ _ _ _ a _ => by rw [hq] at a; grind⟩
        · exact ⟨c, by grind, fun x _ _ _ _ _ a => by rw [hq] at a; grind⟩
  | r :: l, p, q, h => by
    cases h with
    | more Q e h =>
      obtain ⟨d, hd, k⟩ := ch_nz hM l q r h
      obtain ⟨K, hK, kq⟩ := poly_bd hM Q
      have hK1 : (0 : Rat) < K + 1 := by grind
      have hK2 : K + 1 ≠ 0 := by grind
      have hp : 0 < d / (K + 1) := by
        rw [Rat.div_def]
        exact Rat.mul_pos hd (Rat.inv_pos.mpr hK1)
      have hs : d / (K + 1) * K + d / (K + 1) = d := by
        have := Rat.div_mul_cancel (a := d) hK2
        grind
      have hKp : 0 < d / (K + 1) * K := Rat.mul_pos hp hK
      refine ⟨d / (K + 1), hp, fun x h1 h2 a1 a2 b1 b2 => ?_⟩
      generalize d / (K + 1) = t at *
      obtain ⟨q1, q2⟩ := kq x h1 h2
      obtain ⟨r1, r2⟩ := bmul q1 q2 (Rat.le_of_lt b1) (Rat.le_of_lt b2)
      have ex := e x
      refine k x h1 h2 (by grind) (by grind) (by grind) (by grind)
theorem ch_mid {M : Rat} (hM : 0 ≤ M) {p q r : List Rat} {l : List (List Rat)} (h : Ch (p :: q :: r :: l)) : ∃ e : Rat, 0 < e ∧ ∀ x, -M ≤ x → x ≤ M → -e < polyAt q x → polyAt q x < e → Unlike (polyAt p x) (polyAt r x) := by
  cases h with
  | more Q e h =>
    obtain ⟨d, hd, k⟩ := ch_nz hM l q r h
    obtain ⟨K, hK, kq⟩ := poly_bd hM Q
    have hK1 : (0 : Rat) < K + 1 := by grind
    have hK2 : K + 1 ≠ 0 := by grind
    have hp : 0 < d / (K + 1) := by
      rw [Rat.div_def]
      exact Rat.mul_pos hd (Rat.inv_pos.mpr hK1)
    have hs : d / (K + 1) * K + d / (K + 1) = d := by
      have := Rat.div_mul_cancel (a := d) hK2
      grind
    have hKp : 0 < d / (K + 1) * K := Rat.mul_pos hp hK
    refine ⟨d / (K + 1), hp, fun x h1 h2 b1 b2 => ?_⟩
    generalize d / (K + 1) = t at *
    obtain ⟨q1, q2⟩ := kq x h1 h2
    obtain ⟨r1, r2⟩ := bmul q1 q2 (Rat.le_of_lt b1) (Rat.le_of_lt b2)
    have ex := e x
    have kk := k x h1 h2 (by grind) (by grind)
    unfold Unlike
    by_cases z1 : -d < polyAt r x
    · have z2 : ¬ polyAt r x < d := fun z => kk z1 z
      exact .inr ⟨by grind, by grind⟩
    · exact .inl ⟨by grind, by grind⟩
theorem short {M : Rat} (hM : 0 ≤ M) (q : List Rat) {e : Rat} (he : 0 < e) : ∃ h : Rat, 0 < h ∧ ∀ x y, -M ≤ x → x ≤ y → y ≤ M → y - x ≤ h → -e < polyAt q y - polyAt q x ∧ polyAt q y - polyAt q x < e := by
  obtain ⟨L, hL, k⟩ := poly_lip hM q
  have h2 : (2 : Rat) * L ≠ 0 := by grind
  have hp : 0 < e / (2 * L) := by
    rw [Rat.div_def]
    exact Rat.mul_pos he (Rat.inv_pos.mpr (by grind))
  have hs : e / (2 * L) * (2 * L) = e := Rat.div_mul_cancel h2
  refine ⟨e / (2 * L), hp, fun x y h1 h2 h3 h4 => ?_⟩
  generalize e / (2 * L) = t at *
  obtain ⟨a, b⟩ := k x y h1 h2 h3
  have := Rat.mul_nonneg (Rat.le_of_lt hL) (show 0 ≤ t - (y - x) by grind)
  constructor <;> grind
theorem min2 {a b : Rat} (ha : 0 < a) (hb : 0 < b) : ∃ h : Rat, 0 < h ∧ h ≤ a ∧ h ≤ b := by
  rcases Rat.le_total (a := a) (b := b) with h | h
  · exact ⟨a, ha, by grind, h⟩
  · exact ⟨b, hb, h, by grind⟩
theorem turns_cons (p : List Rat) (l : List (List Rat)) (x : Rat) : turns (p :: l) x = tn (signOf (polyAt p x) :: l.map fun (p : List Rat) => signOf (polyAt p x)) := rfl
theorem ch_keep {M : Rat} (hM : 0 ≤ M) : ∀ (l : List (List Rat)) (p : List Rat), Ch (p :: l) → ∃ h : Rat, 0 < h ∧ ∀ x y, -M ≤ x → x ≤ y → y ≤ M → y - x ≤ h → Like (polyAt p x) (polyAt p y) → turns (p :: l) x = turns (p :: l) y
  | [], p, _ => ⟨1, by decide, fun x y _ _ _ _ _ => by rw [turns_tn, turns_tn]; simp only [List.map_cons, List.map_nil]; rw [tn_one, tn_one]⟩
  | [q], p, h => by
    cases h with
    | two h =>
      cases h with
      | one hc hq =>
        rename_i c
        refine ⟨1, by decide, fun x y _ _ _ _ hl => ?_⟩
        obtain ⟨e1, e2⟩ := hl.sign
        rw [turns_tn, turns_tn]
        simp only [List.map_cons, List.map_nil]
        rw [hq, hq, e1]
  | q :: r :: l, p, h => by
    obtain ⟨e, he, hm⟩ := ch_mid hM h
    obtain ⟨h1, k1, s1⟩ := ch_keep hM (r :: l) q (ch_tail h)
    obtain ⟨h2, k2, s2⟩ := ch_keep hM l r (ch_tail (ch_tail h))
    have he2 : 0 < e / 2 := by grind
    obtain ⟨h3, k3, s3⟩ := short hM q he2
    obtain ⟨h4, k4, l1, l2⟩ := min2 k1 k2
    obtain ⟨h5, k5, l3, l4⟩ := min2 k4 k3
    refine ⟨h5, k5, fun x y a b c d hl => ?_⟩
    obtain ⟨m1, m2⟩ := s3 x y a b c (by grind)
    obtain ⟨e1, e2⟩ := hl.sign
    by_cases near : -(e / 2) < polyAt q x ∧ polyAt q x < e / 2
    · have u1 := hm x a (by grind) (by grind) (by grind)
      have u2 := hm y (by grind) c (by grind) (by grind)
      have lr : Like (polyAt r x) (polyAt r y) := by
        unfold Like Unlike at *
        grind
      have t := s2 x y a b c (by grind) lr
      obtain ⟨v1, v2⟩ := u1.sign
      obtain ⟨v3, v4⟩ := u2.sign
      rw [turns_cons, turns_cons] at t
      rw [turns_tn, turns_tn]
      simp only [List.map_cons]
      rw [tn_skip _ v2 v1, tn_skip _ v4 v3, t]
      · have := sign_cases (polyAt q y)
        have := sign_cases (polyAt p y)
        lia
      · have := sign_cases (polyAt q x)
        have := sign_cases (polyAt p x)
        lia
    · have lq : Like (polyAt q x) (polyAt q y) := by
        unfold Like
        by_cases z : -(e / 2) < polyAt q x
        · left
          have : ¬ polyAt q x < e / 2 := fun w => near ⟨z, w⟩
          constructor <;> grind
        · right
          constructor <;> grind
      have t := s1 x y a b c (by grind) lq
      obtain ⟨v1, v2⟩ := lq.sign
      rw [turns_cons, turns_cons] at t
      rw [turns_cons, turns_cons]
      have ey : signOf (polyAt p y) ≠ 0 := by rw [← e1]; exact e2
      have eq : signOf (polyAt q y) ≠ 0 := by rw [← v1]; exact v2
      simp only [List.map_cons]
      rw [tn_two _ e2 v2, tn_two _ ey eq, e1, v1]
      simp only [List.map_cons] at t
      rw [v1] at t
      rw [t]
theorem ch_fall {M : Rat} (hM : 0 ≤ M) {l : List (List Rat)} {p q : List Rat} (h : Ch (p :: q :: l)) (hd : ∀ x, polyAt q x = diffAt p x) : ∃ h : Rat, 0 < h ∧ ∀ x y, -M ≤ x → x ≤ y → y ≤ M → y - x ≤ h → Unlike (polyAt p x) (polyAt p y) → turns (p :: q :: l) x = turns (p :: q :: l) y + 1 := by
  obtain ⟨e, he, hn⟩ := ch_nz hM l p q h
  obtain ⟨h1, k1, s1⟩ := ch_keep hM l q (ch_tail h)
  obtain ⟨C, D, hC, hD, _, ht⟩ := poly_taylor hM p
  obtain ⟨h2, k2, s2⟩ := short hM p he
  obtain ⟨h3, k3, s3⟩ := short hM q he
  have hp : 0 < e / (2 * C) := by
    rw [Rat.div_def]
    exact Rat.mul_pos he (Rat.inv_pos.mpr (by grind))
  have hs : e / (2 * C) * (2 * C) = e := Rat.div_mul_cancel (by grind)
  obtain ⟨h4, k4, l1, l2⟩ := min2 k1 k2
  obtain ⟨h5, k5, l3, l4⟩ := min2 k3 hp
  obtain ⟨h6, k6, l5, l6⟩ := min2 k4 k5
  refine ⟨h6, k6, fun x y a b c d hu => ?_⟩
  generalize e / (2 * C) = w at *
  obtain ⟨m1, m2⟩ := s2 x y a b c (by grind)
  obtain ⟨m3, m4⟩ := s3 x y a b c (by grind)
  obtain ⟨t1, t2⟩ := ht x y a b c
  rw [← hd] at t1 t2
  have hxy : x < y := by
    clear hn s1 ht s2 s3 hd h t1 t2
    rcases ne_lt (a := x) (b := y) (fun z => by
      subst z
      rcases hu with ⟨h1, h2⟩ | ⟨h1, h2⟩ <;> grind) with z | z
    · exact z
    · grind
  have nz := hn x a (by grind)
  clear hn ht s2 s3 h hd
  have cw : 0 ≤ C * (w - (y - x)) := Rat.mul_nonneg (by grind) (by grind)
  have cw2 : 0 ≤ (y - x) * (C * (w - (y - x))) := Rat.mul_nonneg (by grind) cw
  have ep : 0 < (y - x) * e := Rat.mul_pos (by grind) he
  have np : -e < polyAt p x ∧ polyAt p x < e := by
    unfold Unlike at hu
    constructor <;> grind
  have nq := nz np.1 np.2
  have lk := fall_sign hs hxy np.1 np.2 nq t1 t2 cw2 ep hu
  have lq : Like (polyAt q x) (polyAt q y) := by
    unfold Like
    rcases lk with ⟨z1, z2⟩ | ⟨z1, z2⟩
    · left; constructor <;> grind
    · right; constructor <;> grind
  have t := s1 x y a b c (by grind) lq
  rw [turns_cons, turns_cons] at t
  rw [turns_cons, turns_cons, List.map_cons, List.map_cons]
  obtain ⟨v1, v2⟩ := lq.sign
  obtain ⟨v3, v4⟩ := hu.sign
  have eq : signOf (polyAt q y) ≠ 0 := by rw [← v1]; exact v2
  have ey : signOf (polyAt p y) ≠ 0 := by lia
  rw [tn_two _ v4 v2, tn_two _ ey eq, t]
  have s3 : signOf (polyAt q y) = signOf (polyAt p y) := by
    rcases lk with ⟨z1, z2⟩ | ⟨z1, z2⟩
    · rw [← v1, sign_pos z2, sign_pos (by grind)]
    · rw [← v1, sign_neg z2, sign_neg (by grind)]
  rw [if_pos (by rw [v1, s3]; lia), if_neg (by rw [s3]; simp)]
  lia
end Rr

end
section
set_option linter.all false
namespace Rr
open Root
theorem arch (r : Rat) {h : Rat} (hh : 0 < h) : ∃ n : Nat, r ≤ (n : Rat) * h := by
  refine ⟨(r / h).ceil.toNat, ?_⟩
  have h1 : r / h ≤ ((r / h).ceil : Rat) := Rat.le_ceil
  have h2 : ((r / h).ceil : Rat) ≤ (((r / h).ceil.toNat : Nat) : Rat) := by
    rw [← Rat.intCast_natCast, Rat.intCast_le_intCast]
    lia
  have h3 : r / h ≤ (((r / h).ceil.toNat : Nat) : Rat) := Rat.le_trans h1 h2
  have h4 := Rat.mul_le_mul_of_nonneg_right h3 (Rat.le_of_lt hh)
  rw [Rat.div_mul_cancel (by grind)] at h4
  exact h4
theorem like_or {a b : Rat} (ha : a ≠ 0) (hb : b ≠ 0) : Like a b ∨ Unlike a b := by
  unfold Like Unlike
  rcases ne_lt ha with h | h <;> rcases ne_lt hb with k | k <;> simp [h, k]
theorem cast_succ (n : Nat) (h : Rat) : ((n + 1 : Nat) : Rat) * h = (n : Rat) * h + h := by
  rw [Rat.natCast_add]
  have : ((1 : Nat) : Rat) = 1 := rfl
  rw [this]
  grind
theorem ch_mono {M : Rat} (hM : 0 ≤ M) {l : List (List Rat)} {p q : List Rat} (h : Ch (p :: q :: l)) (hd : ∀ x, polyAt q x = diffAt p x) (hz : ∀ x, polyAt p x ≠ 0) :
    ∀ x y, -M ≤ x → x ≤ y → y ≤ M → turns (p :: q :: l) y ≤ turns (p :: q :: l) x := by
  obtain ⟨h1, k1, s1⟩ := ch_keep hM (q :: l) p h
  obtain ⟨h2, k2, s2⟩ := ch_fall hM h hd
  obtain ⟨t, kt, t1, t2⟩ := min2 k1 k2
  have step : ∀ x y, -M ≤ x → x ≤ y → y ≤ M → y - x ≤ t → turns (p :: q :: l) y ≤ turns (p :: q :: l) x := fun x y a b c d => by
    rcases like_or (hz x) (hz y) with e | e
    · rw [s1 x y a b c (Rat.le_trans d t1) e]
      exact Nat.le_refl _
    · rw [s2 x y a b c (Rat.le_trans d t2) e]
      lia
  have many : ∀ (n : Nat) (x y : Rat), -M ≤ x → x ≤ y → y ≤ M → y - x ≤ (n : Rat) * t → turns (p :: q :: l) y ≤ turns (p :: q :: l) x := by
    intro n
    induction n with
    | zero =>
      intro x y a b c d
      have e0 : ((0 : Nat) : Rat) = 0 := rfl
      rw [e0, Rat.zero_mul] at d
      exact step x y a b c (by grind)
    | succ n ih =>
      intro x y a b c d
      rw [cast_succ] at d
      by_cases g : y - x ≤ t
      · exact step x y a b c g
      · exact Nat.le_trans (ih (x + t) y (by grind) (by grind) c (by grind)) (step x (x + t) a (by grind) (by grind) (by grind))
  intro x y a b c
  obtain ⟨n, hn⟩ := arch (y - x) kt
  exact many n x y a b c hn
theorem ch_const {M : Rat} (hM : 0 ≤ M) {l : List (List Rat)} {p : List Rat} (h : Ch (p :: l)) :
    ∀ x y, -M ≤ x → x ≤ y → y ≤ M → (∀ u v, x ≤ u → u ≤ y → x ≤ v → v ≤ y → Like (polyAt p u) (polyAt p v)) → turns (p :: l) x = turns (p :: l) y := by
  obtain ⟨t, kt, s1⟩ := ch_keep hM l p h
  have many : ∀ (n : Nat) (x y : Rat), -M ≤ x → x ≤ y → y ≤ M → (∀ u v, x ≤ u → u ≤ y → x ≤ v → v ≤ y → Like (polyAt p u) (polyAt p v)) → y - x ≤ (n : Rat) * t → turns (p :: l) x = turns (p :: l) y := by
    intro n
    induction n with
    | zero =>
      intro x y a b c hl d
      have e0 : ((0 : Nat) : Rat) = 0 := rfl
      rw [e0, Rat.zero_mul] at d
      exact s1 x y a b c (by grind) (hl x y (by grind) b b (by grind))
    | succ n ih =>
      intro x y a b c hl d
      rw [cast_succ] at d
      by_cases g : y - x ≤ t
      · exact s1 x y a b c g (hl x y (by grind) b b (by grind))
      · refine Eq.trans (s1 x (x + t) a (by grind) (by grind) (by grind) (hl _ _ (by grind) b (by grind) (by grind))) (ih (x + t) y (by grind) (by grind) c (fun u v a1 a2 a3 a4 => hl u v (by grind) a2 (by grind) a4) (by grind))
  intro x y a b c hl
  obtain ⟨n, hn⟩ := arch (y - x) kt
  exact many n x y a b c hl hn
theorem far_pos : ∀ (p : List Rat), 0 < p.getLastD 0 → ∃ e N : Rat, 0 < e ∧ 0 ≤ N ∧ ∀ x, N ≤ x → e ≤ polyAt p x
  | [], h => by
    have : (0 : Rat) < 0 := h
    grind
  | [a], h => by
    have h' : 0 < a := h
    refine ⟨a, 0, h', by decide, fun x _ => ?_⟩
    rw [polyAt_cons, polyAt_nil]
    grind
  | a :: b :: p, h => by
    have h' : 0 < (b :: p).getLastD 0 := by
      have e : (a :: b :: p).getLastD 0 = (b :: p).getLastD 0 := rfl
      rw [← e]; exact h
    obtain ⟨e, N, he, hN, k⟩ := far_pos (b :: p) h'
    obtain ⟨A, hA, ha1, ha2⟩ := bnum a
    have hd : 0 ≤ A / e := by
      rw [Rat.div_def]
      exact Rat.mul_nonneg hA (Rat.le_of_lt (Rat.inv_pos.mpr he))
    have hc : A / e * e = A := Rat.div_mul_cancel (by grind)
    refine ⟨e, N + 1 + A / e, he, by grind, fun x hx => ?_⟩
    generalize A / e = w at *
    have k1 := k x (by grind)
    have m1 : 0 ≤ (polyAt (b :: p) x - e) * x := Rat.mul_nonneg (by grind) (by grind)
    have m2 : 0 ≤ e * (x - (1 + w)) := Rat.mul_nonneg (by grind) (by grind)
    rw [polyAt_cons]
    grind
theorem polyAt_neg (p : List Rat) (x : Rat) : polyAt (p.map fun (z : Rat) => -z) x = -polyAt p x := by
  induction p with
  | nil => rw [List.map_nil, polyAt_nil]; grind
  | cons a p ih =>
    rw [List.map_cons, polyAt_cons, polyAt_cons, ih]
    grind
theorem getLastD_map {α β : Type} (f : α → β) (a : α) (b : β) (h : f a = b) : ∀ l : List α, (l.map f).getLastD b = f (l.getLastD a)
  | [] => h.symm
  | x :: l => by
    rw [List.getLastD_eq_getLast?, List.getLastD_eq_getLast?, List.getLast?_map]
    cases (x :: l).getLast? with
    | none => exact h.symm
    | some y => rfl
theorem far_sign (p : List Rat) (h : p.getLastD 0 ≠ 0) : ∃ N : Rat, 0 ≤ N ∧ ∀ x, N ≤ x → signOf (polyAt p x) = signOf (p.getLastD 0) := by
  rcases ne_lt h with k | k
  · have k2 : 0 < (p.map fun (z : Rat) => -z).getLastD 0 := by
      rw [getLastD_map (fun (z : Rat) => -z) 0 0 (by decide)]
      grind
    obtain ⟨e, N, he, hN, hx⟩ := far_pos _ k2
    refine ⟨N, hN, fun x h1 => ?_⟩
    have := hx x h1
    rw [polyAt_neg] at this
    rw [sign_neg k, sign_neg (by grind)]
  · obtain ⟨e, N, he, hN, hx⟩ := far_pos _ k
    refine ⟨N, hN, fun x h1 => ?_⟩
    have := hx x h1
    rw [sign_pos k, sign_pos (by grind)]
noncomputable def flip : List Rat → List Rat
  | [] => []
  | a :: p => a :: (flip p).map fun (z : Rat) => -z
theorem polyAt_flip : ∀ (p : List Rat) (x : Rat), polyAt (flip p) x = polyAt p (-x)
  | [], _ => rfl
  | a :: p, x => by
    show polyAt (a :: (flip p).map fun (z : Rat) => -z) x = _
    rw [polyAt_cons, polyAt_cons, polyAt_neg, polyAt_flip p x]
    grind
theorem flip_last : ∀ p : List Rat, (flip p).getLastD 0 = if p.length % 2 = 1 then p.getLastD 0 else -p.getLastD 0
  | [] => rfl
  | [a] => rfl
  | a :: b :: p => by
    have e1 : (flip (a :: b :: p)).getLastD 0 = ((flip (b :: p)).map fun (z : Rat) => -z).getLastD 0 := rfl
    have e2 : (a :: b :: p).getLastD 0 = (b :: p).getLastD 0 := rfl
    rw [e1, getLastD_map (fun (z : Rat) => -z) 0 0 (by decide), flip_last (b :: p), e2]
    have e3 : (a :: b :: p).length = (b :: p).length + 1 := rfl
    rw [e3]
    by_cases h : (b :: p).length % 2 = 1
    · rw [if_pos h, if_neg (by lia)]
    · rw [if_neg h, if_pos (by lia)]
      grind
theorem far_left (p : List Rat) (h : p.getLastD 0 ≠ 0) : ∃ N : Rat, 0 ≤ N ∧ ∀ x, N ≤ x → signOf (polyAt p (-x)) = signOf (if p.length % 2 = 1 then p.getLastD 0 else -p.getLastD 0) := by
  have h2 : (flip p).getLastD 0 ≠ 0 := by
    rw [flip_last]
    split <;> grind
  obtain ⟨N, hN, k⟩ := far_sign _ h2
  refine ⟨N, hN, fun x hx => ?_⟩
  rw [← polyAt_flip, k x hx, flip_last]
theorem max2 (a b : Rat) : ∃ N : Rat, a ≤ N ∧ b ≤ N := by
  rcases Rat.le_total (a := a) (b := b) with h | h
  · exact ⟨b, h, by grind⟩
  · exact ⟨a, by grind, h⟩
theorem far_row : ∀ (s : List (List Rat)), (∀ p ∈ s, p.getLastD 0 ≠ 0) → ∃ N : Rat, ∀ x, N ≤ x →
    (s.map fun (p : List Rat) => signOf (polyAt p x)) = (s.map fun (p : List Rat) => signOf (p.getLastD 0)) ∧
    (s.map fun (p : List Rat) => signOf (polyAt p (-x))) = (s.map fun (p : List Rat) => signOf (if p.length % 2 = 1 then p.getLastD 0 else -p.getLastD 0))
  | [], _ => ⟨0, fun _ _ => ⟨rfl, rfl⟩⟩
  | p :: s, h => by
    obtain ⟨N1, k1⟩ := far_row s fun q hq => h q (by simp [hq])
    obtain ⟨N2, _, k2⟩ := far_sign p (h p (by simp))
    obtain ⟨N3, _, k3⟩ := far_left p (h p (by simp))
    obtain ⟨N4, l1, l2⟩ := max2 N1 N2
    obtain ⟨N5, l3, l4⟩ := max2 N4 N3
    refine ⟨N5, fun x hx => ?_⟩
    obtain ⟨a, b⟩ := k1 x (by grind)
    simp only [List.map_cons]
    rw [a, b, k2 x (by grind), k3 x (by grind)]
    exact ⟨rfl, rfl⟩
noncomputable def sumAbs (l : List Rat) : Rat := l.foldr (fun (a b : Rat) => (if a < 0 then -a else a) + b) 0
theorem sumAbs_cons (a : Rat) (l : List Rat) : sumAbs (a :: l) = (if a < 0 then -a else a) + sumAbs l := rfl
theorem sumAbs_nonneg : ∀ l : List Rat, 0 ≤ sumAbs l
  | [] => by show (0 : Rat) ≤ 0; decide
  | a :: l => by
    rw [sumAbs_cons]
    have := sumAbs_nonneg l
    split <;> grind
theorem pos_beyond {x : Rat} (hx : 1 ≤ x) : ∀ (l : List Rat) (a : Rat), sumAbs l < a * x → 0 < polyAt (l ++ [a]) x ∧ a * x - sumAbs l ≤ polyAt (l ++ [a]) x * x
  | [], a, h => by
    have h0 : (0 : Rat) < a * x := h
    have ha : 0 < a := by
      false_or_by_contra
      rename_i z
      have : 0 ≤ (-a) * x := Rat.mul_nonneg (by grind) (by grind)
      grind
    show 0 < polyAt [a] x ∧ a * x - 0 ≤ polyAt [a] x * x
    rw [polyAt_cons, polyAt_nil]
    constructor <;> grind
  | b :: l, a, h => by
    rw [sumAbs_cons] at h
    have hb : 0 ≤ (if b < 0 then -b else b) ∧ -(if b < 0 then -b else b) ≤ b := by split <;> grind
    generalize hB : (if b < 0 then -b else b) = B at *
    obtain ⟨h1, h2⟩ := pos_beyond hx l a (by grind)
    show 0 < polyAt (b :: (l ++ [a])) x ∧ _
    rw [polyAt_cons, sumAbs_cons, hB]
    show _ ∧ a * x - (B + sumAbs l) ≤ (polyAt (b :: (l ++ [a])) x) * x
    rw [polyAt_cons]
    have h3 : 0 < polyAt (l ++ [a]) x * x + b := by grind
    refine ⟨h3, ?_⟩
    have h4 : 0 ≤ (polyAt (l ++ [a]) x * x + b) * (x - 1) := Rat.mul_nonneg (by grind) (by grind)
    grind
theorem sumAbs_neg : ∀ l : List Rat, sumAbs (l.map fun (z : Rat) => -z) = sumAbs l
  | [] => rfl
  | a :: l => by
    rw [List.map_cons, sumAbs_cons, sumAbs_cons, sumAbs_neg l]
    congr 1
    split <;> split <;> grind
theorem sumAbs_flip : ∀ l : List Rat, sumAbs (flip l) = sumAbs l
  | [] => rfl
  | a :: l => by
    show sumAbs (a :: (flip l).map fun (z : Rat) => -z) = _
    rw [sumAbs_cons, sumAbs_cons, sumAbs_neg, sumAbs_flip l]
theorem flip_append (a : Rat) : ∀ l : List Rat, flip (l ++ [a]) = flip l ++ [if l.length % 2 = 0 then a else -a]
  | [] => rfl
  | b :: l => by
    show b :: (flip (l ++ [a])).map (fun (z : Rat) => -z) = (b :: (flip l).map fun (z : Rat) => -z) ++ _
    rw [flip_append a l, List.map_append, List.cons_append, List.map_cons, List.map_nil, List.length_cons]
    congr 3
    by_cases h : l.length % 2 = 0
    · rw [if_pos h, if_neg (by lia)]
    · rw [if_neg h, if_pos (by lia)]
      grind
theorem bound_is (c : List Int) : bound c = 1 + sumAbs (c.map fun (z : Int) => (z : Rat)) := by
  unfold bound
  induction c with
  | nil => rw [List.map_nil, List.map_nil]; show (1 : Rat) = 1 + 0; rw [Rat.add_zero]
  | cons a c ih =>
    rw [List.map_cons, List.map_cons, List.foldr_cons, ih, sumAbs_cons]
    have e : ((a.natAbs : Nat) : Rat) = if (a : Rat) < 0 then -(a : Rat) else (a : Rat) := by
      rw [← Rat.intCast_natCast]
      by_cases h : a < 0
      · rw [if_pos (Rat.intCast_neg_iff.mpr h), ← Rat.intCast_neg]
        congr 1
        lia
      · rw [if_neg (fun z => h (Rat.intCast_neg_iff.mp z))]
        congr 1
        lia
    rw [e]
    grind
theorem bound_one (c : List Int) : 1 ≤ bound c := by
  rw [bound_is]
  have := sumAbs_nonneg (c.map fun (z : Int) => (z : Rat))
  grind
theorem right_of (c : List Int) {x : Rat} (hx : bound c ≤ x) : 0 < polyAt (polyOf c) x := by
  have h1 := bound_one c
  rw [bound_is] at hx h1
  unfold polyOf
  refine (pos_beyond (x := x) (by grind) _ 1 ?_).1
  grind
theorem left_of (c : List Int) {x y : Rat} (hx : bound c ≤ x) (hy : bound c ≤ y) : Like (polyAt (polyOf c) (-x)) (polyAt (polyOf c) (-y)) := by
  have h1 := bound_one c
  rw [bound_is] at hx hy h1
  rw [← polyAt_flip, ← polyAt_flip]
  unfold polyOf
  rw [flip_append]
  generalize hl : (c.map fun (z : Int) => (z : Rat)) = l at *
  have hs := sumAbs_flip l
  by_cases h : l.length % 2 = 0
  · rw [if_pos h]
    left
    exact ⟨(pos_beyond (x := x) (by grind) _ 1 (by grind)).1, (pos_beyond (x := y) (by grind) _ 1 (by grind)).1⟩
  · rw [if_neg h]
    right
    have hn := sumAbs_neg (flip l)
    have e : ∀ z, polyAt ((flip l).map (fun (z : Rat) => -z) ++ [1]) z = -polyAt (flip l ++ [-1]) z := by
      intro z
      rw [← polyAt_neg, List.map_append]
      rfl
    have a1 := (pos_beyond (x := x) (by grind) ((flip l).map (fun (z : Rat) => -z)) 1 (by grind)).1
    have a2 := (pos_beyond (x := y) (by grind) ((flip l).map (fun (z : Rat) => -z)) 1 (by grind)).1
    rw [e] at a1 a2
    constructor <;> grind
theorem places_far {c : List Int} {q : List Rat} {l : List (List Rat)} (hr : rowOf c = polyOf c :: q :: l) (h : Ch (polyOf c :: q :: l)) {N : Rat} (hN : bound c ≤ N) :
    turns (rowOf c) (-bound c) = turns (rowOf c) (-N) ∧ turns (rowOf c) (bound c) = turns (rowOf c) N := by
  have h1 := bound_one c
  rw [hr]
  constructor
  · refine (ch_const (M := N) (by grind) h (-N) (-bound c) (by grind) (by grind) (by grind) fun u v a b c' d => ?_).symm
    have := left_of c (x := -u) (y := -v) (by grind) (by grind)
    rw [show - -u = u by grind, show - -v = v by grind] at this
    exact this
  · refine ch_const (M := N) (by grind) h (bound c) N (by grind) hN (by grind) fun u v a b c' d => ?_
    exact .inl ⟨right_of c a, right_of c c'⟩
end Rr

end
section
set_option linter.all false
namespace Rr
open Root
noncomputable def Tr (p : List Rat) : Prop := p = [] ∨ p.getLastD 0 ≠ 0
theorem polyAt_append (u w : List Rat) (x : Rat) : polyAt (u ++ w) x = polyAt u x + x ^ u.length * polyAt w x := by
  induction u with
  | nil => rw [List.nil_append, polyAt_nil, List.length_nil, Rat.pow_zero]; grind
  | cons a u ih =>
    rw [List.cons_append, polyAt_cons, polyAt_cons, ih, List.length_cons, Rat.pow_succ]
    grind
theorem polyAt_dropWhile (x : Rat) : ∀ r : List Rat, polyAt (r.dropWhile fun (x : Rat) => x == 0).reverse x = polyAt r.reverse x
  | [] => rfl
  | a :: r => by
    rw [List.dropWhile_cons]
    by_cases h : a = 0
    · rw [if_pos (by simpa using h), polyAt_dropWhile x r, List.reverse_cons, polyAt_append, h, polyAt_cons, polyAt_nil]
      grind
    · rw [if_neg (by simpa using h)]
theorem polyAt_trimmed (p : List Rat) (x : Rat) : polyAt (trimmed p) x = polyAt p x := by
  unfold trimmed
  rw [polyAt_dropWhile, List.reverse_reverse]
theorem tr_trimmed (p : List Rat) : Tr (trimmed p) := by
  unfold trimmed Tr
  generalize p.reverse = r
  induction r with
  | nil => exact .inl rfl
  | cons a r ih =>
    rw [List.dropWhile_cons]
    by_cases h : a = 0
    · rw [if_pos (by simpa using h)]; exact ih
    · rw [if_neg (by simpa using h)]
      right
      rw [List.reverse_cons]
      simpa using h
theorem trimmed_snoc_zero (l : List Rat) : trimmed (l ++ [0]) = trimmed l := by
  unfold trimmed
  rw [List.reverse_append]
  rfl
theorem trimmed_length (p : List Rat) : (trimmed p).length ≤ p.length := by
  unfold trimmed
  rw [List.length_reverse]
  have := (List.dropWhile_sublist (l := p.reverse) (p := fun (x : Rat) => x == 0)).length_le
  rw [List.length_reverse] at this
  exact this
noncomputable def stepP (p q : List Rat) (k : Nat) (t : Rat) : List Rat := (p.zipIdx).map fun (x : Rat × Nat) => if x.2 < k then x.1 else x.1 - t * q.getD (x.2 - k) 0
theorem leftOf_succ (f : Nat) (p q : List Rat) : leftOf (f + 1) p q = if p.length < q.length ∨ q.isEmpty = true then p else leftOf f (trimmed (stepP p q (p.length - q.length) (p.getLastD 0 / q.getLastD 1))) q := rfl
theorem step_low {q : List Rat} {k : Nat} {t : Rat} : ∀ (u : List Rat) (j : Nat), j + u.length ≤ k → (u.zipIdx j).map (fun (x : Rat × Nat) => if x.2 < k then x.1 else x.1 - t * q.getD (x.2 - k) 0) = u
  | [], _, _ => rfl
  | a :: u, j, h => by
    rw [List.length_cons] at h
    rw [List.zipIdx_cons, List.map_cons, step_low u (j + 1) (by lia), if_pos (by show j < k; lia)]
theorem step_high {q : List Rat} {k : Nat} {t : Rat} : ∀ (v : List Rat) (j : Nat), j + v.length = q.length → (v.zipIdx (k + j)).map (fun (x : Rat × Nat) => if x.2 < k then x.1 else x.1 - t * q.getD (x.2 - k) 0) = List.zipWith (fun (a b : Rat) => a - t * b) v (q.drop j)
  | [], _, _ => by simp
  | a :: v, j, h => by
    rw [List.length_cons] at h
    have hj : j < q.length := by lia
    rw [List.zipIdx_cons, List.map_cons, show k + j + 1 = k + (j + 1) by lia, step_high v (j + 1) (by lia), if_neg (by show ¬ k + j < k; lia), List.drop_eq_getElem_cons hj, List.zipWith_cons_cons]
    congr 1
    show a - t * q.getD (k + j - k) 0 = _
    rw [show k + j - k = j by lia, List.getD_eq_getElem?_getD, List.getElem?_eq_getElem hj]
    rfl
theorem stepP_eq {p q u v : List Rat} {k : Nat} {t : Rat} (hp : p = u ++ v) (hu : u.length = k) (hv : v.length = q.length) : stepP p q k t = u ++ List.zipWith (fun (a b : Rat) => a - t * b) v q := by
  unfold stepP
  rw [hp, List.zipIdx_append, List.map_append, step_low u 0 (by lia), hu]
  have := step_high (q := q) (k := k) (t := t) v 0 (by lia)
  rw [List.drop_zero, Nat.add_zero] at this
  rw [Nat.zero_add, this]
theorem polyAt_zipWith (t x : Rat) : ∀ (v q : List Rat), v.length = q.length → polyAt (List.zipWith (fun (a b : Rat) => a - t * b) v q) x = polyAt v x - t * polyAt q x
  | [], [], _ => by rw [List.zipWith_nil_left, polyAt_nil]; grind
  | a :: v, b :: q, h => by
    rw [List.zipWith_cons_cons, polyAt_cons, polyAt_cons, polyAt_cons, polyAt_zipWith t x v q (by simpa using h)]
    grind
theorem snoc_of {α : Type} {l : List α} (h : l ≠ []) : ∃ (m : List α) (z : α), l = m ++ [z] := ⟨l.dropLast, l.getLast h, (List.dropLast_concat_getLast h).symm⟩
theorem step_div {p q : List Rat} (hq : q ≠ []) (hq0 : q.getLastD 0 ≠ 0) (hl : q.length ≤ p.length) :
    (∀ x, polyAt (trimmed (stepP p q (p.length - q.length) (p.getLastD 0 / q.getLastD 1))) x = polyAt p x - p.getLastD 0 / q.getLastD 1 * (x ^ (p.length - q.length) * polyAt q x)) ∧
    (trimmed (stepP p q (p.length - q.length) (p.getLastD 0 / q.getLastD 1))).length < p.length := by
  obtain ⟨m, b, rfl⟩ := snoc_of hq
  have hp : p ≠ [] := by
    intro z
    rw [z] at hl
    simp at hl
  obtain ⟨n, a, rfl⟩ := snoc_of hp
  have eb : (m ++ [b]).getLastD 1 = b := by simp
  have eb0 : (m ++ [b]).getLastD 0 = b := by simp
  have ea : (n ++ [a]).getLastD 0 = a := by simp
  rw [eb0] at hq0
  rw [eb, ea]
  have hln : m.length ≤ n.length := by
    rw [List.length_append, List.length_append] at hl
    simpa using hl
  have hk : (n ++ [a]).length - (m ++ [b]).length = n.length - m.length := by
    rw [List.length_append, List.length_append]
    show n.length + 1 - (m.length + 1) = _
    lia
  rw [hk]
  have hv : (n.drop (n.length - m.length)).length = m.length := by rw [List.length_drop]; omega
  have hu : (n.take (n.length - m.length)).length = n.length - m.length := by rw [List.length_take]; lia
  have hs : n ++ [a] = n.take (n.length - m.length) ++ (n.drop (n.length - m.length) ++ [a]) := by
    rw [← List.append_assoc, List.take_append_drop]
  have hvl : (n.drop (n.length - m.length) ++ [a]).length = (m ++ [b]).length := by
    rw [List.length_append, List.length_append, hv]
    rfl
  have e := stepP_eq (t := a / b) hs hu hvl
  have e2 : List.zipWith (fun (a_1 b_1 : Rat) => a_1 - a / b * b_1) (n.drop (n.length - m.length) ++ [a]) (m ++ [b]) = List.zipWith (fun (a_1 b_1 : Rat) => a_1 - a / b * b_1) (n.drop (n.length - m.length)) m ++ [0] := by
    rw [List.zipWith_append hv, List.zipWith_cons_cons, List.zipWith_nil_left]
    congr 2
    have := Rat.div_mul_cancel (a := a) hq0
    grind
  constructor
  · intro x
    rw [polyAt_trimmed, e, polyAt_append, polyAt_zipWith _ _ _ _ hvl, hu]
    have e3 : polyAt (n ++ [a]) x = polyAt (n.take (n.length - m.length)) x + x ^ (n.length - m.length) * polyAt (n.drop (n.length - m.length) ++ [a]) x := by
      have := polyAt_append (n.take (n.length - m.length)) (n.drop (n.length - m.length) ++ [a]) x
      rw [hu, ← List.append_assoc, List.take_append_drop] at this
      exact this
    rw [e3]
    grind
  · rw [e, e2, ← List.append_assoc, trimmed_snoc_zero]
    refine Nat.lt_of_le_of_lt (trimmed_length _) ?_
    rw [List.length_append, hu, List.length_zipWith, hv, List.length_append]
    show n.length - m.length + min m.length m.length < n.length + 1
    lia
theorem polyAt_zeros (n : Nat) (x : Rat) : polyAt (List.replicate n 0) x = 0 := by
  induction n with
  | zero => rfl
  | succ n ih => rw [List.replicate_succ, polyAt_cons, ih]; grind
theorem leftOf_div {q : List Rat} (hq : q ≠ []) (hq0 : q.getLastD 0 ≠ 0) : ∀ (n : Nat) (p : List Rat), p.length < n + q.length → Tr p →
    ∃ Q : List Rat, (Q = [] ∨ Q.length + q.length ≤ p.length + 1) ∧ (∀ x, polyAt p x = polyAt Q x * polyAt q x + polyAt (leftOf n p q) x) ∧ (leftOf n p q).length < q.length ∧ Tr (leftOf n p q)
  | 0, p, h, ht => ⟨[], .inl rfl, fun x => by rw [polyAt_nil]; show polyAt p x = 0 * _ + polyAt p x; grind, by show p.length < q.length; lia, ht⟩
  | n + 1, p, h, ht => by
    rw [leftOf_succ]
    by_cases hc : p.length < q.length
    · rw [if_pos (.inl hc)]
      exact ⟨[], .inl rfl, fun x => by rw [polyAt_nil]; grind, hc, ht⟩
    · have he : q.isEmpty = false := by
        cases q with
        | nil => exact absurd rfl hq
        | cons _ _ => rfl
      rw [if_neg (by rw [he]; simp; lia)]
      obtain ⟨e1, e2⟩ := step_div hq hq0 (p := p) (by lia)
      obtain ⟨Q, hQ, h1, h2, h3⟩ := leftOf_div hq hq0 n _ (by lia) (tr_trimmed (stepP p q (p.length - q.length) (p.getLastD 0 / q.getLastD 1)))
      have hQl : Q.length ≤ p.length - q.length := by
        rcases hQ with rfl | hQ
        · exact Nat.zero_le _
        · lia
      refine ⟨Q ++ (List.replicate (p.length - q.length - Q.length) 0 ++ [p.getLastD 0 / q.getLastD 1]), .inr ?_, fun x => ?_, h2, h3⟩
      · rw [List.length_append, List.length_append, List.length_replicate]
        show Q.length + (p.length - q.length - Q.length + 1) + q.length ≤ p.length + 1
        lia
      · have h1x := h1 x
        rw [e1 x] at h1x
        rw [polyAt_append, polyAt_append, polyAt_zeros, List.length_replicate, polyAt_cons, polyAt_nil]
        have hpw : x ^ (p.length - q.length) = x ^ Q.length * x ^ (p.length - q.length - Q.length) := by
          have e3 : p.length - q.length = Q.length + (p.length - q.length - Q.length) := by lia
          generalize p.length - q.length - Q.length = j at *
          rw [e3]
          clear e3 h1x
          induction j with
          | zero => rw [Nat.add_zero, Rat.pow_zero]; grind
          | succ j ih => rw [Nat.add_succ, Rat.pow_succ, Rat.pow_succ, ih]; grind
        rw [hpw] at h1x
        grind
theorem leftOf_short {n : Nat} {p q : List Rat} (h : p.length < q.length) : leftOf n p q = p := by
  cases n with
  | zero => rfl
  | succ n => rw [leftOf_succ, if_pos (.inl h)]
end Rr

end
section
set_option linter.all false
namespace Rr
open Root
theorem homog (n d : Int) (r : Rat) (hr : r * (d : Rat) = (n : Rat)) : ∀ c : List Int, ∃ k : Int, polyAt (polyOf c) r * (d : Rat) ^ c.length = ((n ^ c.length + d * k : Int) : Rat)
  | [] => ⟨0, by
    show polyAt [1] r * (d : Rat) ^ 0 = ((n ^ 0 + d * 0 : Int) : Rat)
    rw [polyAt_cons, polyAt_nil, Rat.pow_zero, Int.pow_zero, Int.mul_zero, Int.add_zero]
    show (0 * r + 1) * 1 = (1 : Rat)
    grind⟩
  | a :: c => by
    obtain ⟨k, hk⟩ := homog n d r hr c
    refine ⟨k * n + a * d ^ c.length, ?_⟩
    have e1 : polyAt (polyOf (a :: c)) r = polyAt (polyOf c) r * r + (a : Rat) := rfl
    rw [e1, List.length_cons, Rat.pow_succ, Int.pow_succ]
    have e2 : (polyAt (polyOf c) r * r + (a : Rat)) * ((d : Rat) ^ c.length * (d : Rat)) = (polyAt (polyOf c) r * (d : Rat) ^ c.length) * (r * (d : Rat)) + (a : Rat) * ((d : Rat) ^ c.length * (d : Rat)) := by grind
    rw [e2, hk, hr, ← Rat.intCast_pow, ← Rat.intCast_mul, ← Rat.intCast_mul, ← Rat.intCast_mul, ← Rat.intCast_add]
    congr 1
    grind
theorem root_den {c : List Int} (hc : c ≠ []) {r : Rat} (h : polyAt (polyOf c) r = 0) : ∃ z : Int, r = (z : Rat) := by
  have hd : ((r.den : Int) : Rat) ≠ 0 := by
    intro z
    have := Rat.intCast_eq_zero_iff.mp z
    have := r.den_nz
    lia
  have hr : r * ((r.den : Int) : Rat) = (r.num : Rat) := by
    have := Rat.num_divInt_den r
    rw [Rat.divInt_eq_div] at this
    have e := Rat.div_mul_cancel (a := (r.num : Rat)) hd
    rw [this] at e
    exact e
  obtain ⟨k, hk⟩ := homog r.num r.den r hr c
  rw [h, Rat.zero_mul] at hk
  have h0 : r.num ^ c.length + (r.den : Int) * k = 0 := Rat.intCast_eq_zero_iff.mp hk.symm
  have hdvd : (r.den : Int) ∣ r.num ^ c.length := ⟨-k, by rw [Int.mul_neg]; lia⟩
  have hd2 : r.den ∣ r.num.natAbs ^ c.length := by
    have := Int.natAbs_dvd_natAbs.mpr hdvd
    rw [Int.natAbs_pow] at this
    exact this
  have hco : Nat.Coprime (r.num.natAbs ^ c.length) r.den := Nat.Coprime.pow_left _ r.reduced
  have h1 : r.den = 1 := Nat.Coprime.eq_one_of_dvd (Nat.Coprime.symm hco) hd2
  refine ⟨r.num, ?_⟩
  rw [h1] at hr
  have : ((1 : Nat) : Int) = 1 := rfl
  rw [this, Rat.intCast_one, Rat.mul_one] at hr
  exact hr
theorem polyAt_whole (z : Int) : ∀ c : List Int, polyAt (polyOf c) (z : Rat) = ((c.foldr (fun (t s : Int) => s * z + t) 1 : Int) : Rat)
  | [] => by
    show polyAt [1] (z : Rat) = ((1 : Int) : Rat)
    rw [polyAt_cons, polyAt_nil, Rat.intCast_one]
    grind
  | a :: c => by
    have e1 : polyAt (polyOf (a :: c)) (z : Rat) = polyAt (polyOf c) (z : Rat) * (z : Rat) + (a : Rat) := rfl
    rw [e1, polyAt_whole z c, List.foldr_cons, ← Rat.intCast_mul, ← Rat.intCast_add]
theorem hasRoot_of {c : List Int} (hc : c ≠ []) {r : Rat} (h : polyAt (polyOf c) r = 0) : hasRoot c = true := by
  obtain ⟨z, rfl⟩ := root_den hc h
  rw [polyAt_whole] at h
  have h0 := Rat.intCast_eq_zero_iff.mp h
  by_cases hh : c.headD 0 = 0
  · unfold hasRoot
    rw [hh]
    rfl
  · rw [hasRoot_is hh, List.any_eq_true]
    refine ⟨z, (mem_divisors' hh).mpr ?_, ?_⟩
    · cases c with
      | nil => exact absurd rfl hc
      | cons a c =>
        rw [List.foldr_cons] at h0
        show a % z = 0
        refine Int.emod_eq_zero_of_dvd ⟨-(c.foldr (fun (t s : Int) => s * z + t) 1), ?_⟩
        rw [Int.mul_neg, Int.mul_comm]
        lia
    · rw [horner_valueAt]
      unfold valueAt
      rw [List.foldl_reverse, h0]
      rfl
theorem no_root {c : List Int} (h1 : c.length ≠ 1) (hc : c ≠ []) (hf : isField c = true) (r : Rat) : polyAt (polyOf c) r ≠ 0 := fun h => by
  rw [isField_root h1 (hasRoot_of hc h)] at hf
  cases hf
theorem zero4 {a0 a1 a2 a3 a4 : Rat} (h : ∀ x : Rat, a4 * (x * x * x * x) + a3 * (x * x * x) + a2 * (x * x) + a1 * x + a0 = 0) : a0 = 0 ∧ a1 = 0 ∧ a2 = 0 ∧ a3 = 0 ∧ a4 = 0 := by
  have h0 := h 0
  have h1 := h 1
  have h2 := h (-1)
  have h3 := h 2
  have h4 := h (-2)
  clear h
  refine ⟨?_, ?_, ?_, ?_, ?_⟩ <;> grind
theorem linear_root {g : List Rat} (h : g.length = 2) (h0 : g.getLastD 0 ≠ 0) : ∃ r : Rat, polyAt g r = 0 := by
  match g, h with
  | [b, a], _ =>
    have ha : a ≠ 0 := h0
    refine ⟨-b / a, ?_⟩
    rw [polyAt_cons, polyAt_cons, polyAt_nil]
    have := Rat.div_mul_cancel (a := -b) ha
    grind
theorem quad_of {g : List Rat} (h : g.length = 3) (h0 : g.getLastD 0 ≠ 0) : ∃ a b e : Rat, a ≠ 0 ∧ ∀ x, polyAt g x = a * (x * x) + b * x + e := by
  match g, h with
  | [e, b, a], _ =>
    exact ⟨a, b, e, h0, fun x => by rw [polyAt_cons, polyAt_cons, polyAt_cons, polyAt_nil]; grind⟩
end Rr

end
section
set_option linter.all false
namespace Rr
open Root
noncomputable def tims (j : Nat) (g : List Rat) : List Rat := (g.zipIdx j).map fun (x : Rat × Nat) => (x.2 : Rat) * x.1
theorem tims_cons (j : Nat) (a : Rat) (g : List Rat) : tims j (a :: g) = (j : Rat) * a :: tims (j + 1) g := rfl
theorem tims_up (x : Rat) : ∀ (g : List Rat) (j : Nat), polyAt (tims (j + 1) g) x = polyAt (tims j g) x + polyAt g x
  | [], _ => by
    show (0 : Rat) = 0 + 0
    rw [Rat.add_zero]
  | a :: g, j => by
    rw [tims_cons, tims_cons, polyAt_cons, polyAt_cons, polyAt_cons, tims_up x g (j + 1), Rat.natCast_add]
    have : ((1 : Nat) : Rat) = 1 := rfl
    rw [this]
    grind
theorem tims_zero (x : Rat) : ∀ g : List Rat, polyAt (tims 0 g) x = diffAt g x * x
  | [] => by
    show (0 : Rat) = 0 * x
    grind
  | a :: g => by
    rw [tims_cons, polyAt_cons, tims_up, tims_zero x g]
    show _ = (diffAt g x * x + polyAt g x) * x
    have : ((0 : Nat) : Rat) = 0 := rfl
    rw [this]
    grind
theorem derived_at (p : List Rat) (x : Rat) : polyAt (derived p) x = diffAt p x := by
  cases p with
  | nil => rfl
  | cons a g =>
    have e : derived (a :: g) = tims 1 g := rfl
    rw [e, tims_up, tims_zero]
    rfl
theorem derived_length (p : List Rat) : (derived p).length = p.length - 1 := by
  unfold derived
  rw [List.length_map, List.length_drop, List.length_zipIdx]
theorem polyOf_length (c : List Int) : (polyOf c).length = c.length + 1 := by
  unfold polyOf
  rw [List.length_append, List.length_map]
  rfl
theorem polyOf_last (c : List Int) : (polyOf c).getLastD 0 = 1 := by
  unfold polyOf
  simp
theorem derived_last {c : List Int} (hc : c ≠ []) : (derived (polyOf c)).getLastD 0 = (c.length : Rat) := by
  unfold derived polyOf
  rw [List.zipIdx_append, List.drop_append_of_le_length (by rw [List.length_zipIdx, List.length_map]; cases c with | nil => exact absurd rfl hc | cons _ _ => simp), List.map_append]
  simp
theorem derived_last0 {c : List Int} (hc : c ≠ []) : (derived (polyOf c)).getLastD 0 ≠ 0 := by
  rw [derived_last hc]
  intro z
  have := Rat.natCast_eq_zero_iff.mp z
  exact hc (List.length_eq_zero_iff.mp this)
noncomputable def negs (p : List Rat) : List Rat := p.map fun (x : Rat) => -x
theorem negs_at (p : List Rat) (x : Rat) : polyAt (negs p) x = -polyAt p x := polyAt_neg p x
theorem negs_length (p : List Rat) : (negs p).length = p.length := by unfold negs; rw [List.length_map]
theorem negs_last (p : List Rat) : (negs p).getLastD 0 = -p.getLastD 0 := getLastD_map (fun (z : Rat) => -z) 0 0 (by decide) p
inductive Go : List Rat → List Rat → Prop
  | last {p q : List Rat} : q.length = 1 → q.getLastD 0 ≠ 0 → p.length ≤ 8 → Tr p → Go p q
  | step {p q : List Rat} : 2 ≤ q.length → q.getLastD 0 ≠ 0 → p.length ≤ 8 → Tr p → leftOf 8 p q ≠ [] → Go q (negs (leftOf 8 p q)) → Go p q
theorem Go.last0 {p q : List Rat} (h : Go p q) : q.getLastD 0 ≠ 0 := by cases h <;> assumption
theorem Go.pos {p q : List Rat} (h : Go p q) : 1 ≤ q.length := by cases h <;> lia
theorem Go.few {p q : List Rat} (h : Go p q) : p.length ≤ 8 := by cases h <;> assumption
theorem Go.tr {p q : List Rat} (h : Go p q) : Tr p := by cases h <;> assumption
theorem ne_of_len {α : Type} {q : List α} (h : 1 ≤ q.length) : q ≠ [] := by
  rintro rfl
  simp at h
theorem rest_short {p q : List Rat} (h : Go p q) : (leftOf 8 p q).length < q.length ∧ Tr (leftOf 8 p q) ∧ ∃ Q : List Rat, (Q = [] ∨ Q.length + q.length ≤ p.length + 1) ∧ ∀ x, polyAt p x = polyAt Q x * polyAt q x + polyAt (leftOf 8 p q) x := by
  have h1 := h.pos
  have h2 := h.few
  obtain ⟨Q, a, b, c, d⟩ := leftOf_div (ne_of_len h1) h.last0 8 p (by lia) h.tr
  exact ⟨c, d, Q, a, b⟩
theorem sturm_of {p q : List Rat} (h : Go p q) : ∀ n : Nat, q.length < n → ∃ l : List (List Rat), sturm n p q = p :: q :: l ∧ Ch (p :: q :: l) ∧ ∀ r ∈ q :: l, r.getLastD 0 ≠ 0 := by
  induction h with
  | @last p q h1 h2 h3 h4 =>
    intro n hn
    obtain ⟨m, rfl⟩ : ∃ m, n = m + 2 := ⟨n - 2, by lia⟩
    have hrest := rest_short (Go.last h1 h2 h3 h4)
    have hnil : leftOf 8 p q = [] := List.length_eq_zero_iff.mp (by lia)
    match q, h1 with
    | [c], _ =>
      have hc : c ≠ 0 := h2
      refine ⟨[], ?_, .two (.one hc fun x => ?_), fun r hr => ?_⟩
      · show p :: sturm (m + 1) [c] ((leftOf 8 p [c]).map fun (x : Rat) => -x) = _
        rw [hnil]
        rfl
      · rw [polyAt_cons, polyAt_nil]
        grind
      · have : r = [c] := by simpa using hr
        rw [this]
        exact hc
  | @step p q h1 h2 h3 h4 h5 h6 ih =>
    intro n hn
    obtain ⟨m, rfl⟩ : ∃ m, n = m + 1 := ⟨n - 1, by lia⟩
    obtain ⟨a, b, Q, _, e⟩ := rest_short (Go.step h1 h2 h3 h4 h5 h6)
    obtain ⟨l, e1, e2, e3⟩ := ih m (by rw [negs_length]; lia)
    have hq : q.isEmpty = false := by
      cases q with
      | nil => simp at h1
      | cons _ _ => rfl
    refine ⟨negs (leftOf 8 p q) :: l, ?_, .more Q (fun x => ?_) e2, fun r hr => ?_⟩
    · show (if q.isEmpty = true then [p] else p :: sturm m q (negs (leftOf 8 p q))) = _
      rw [hq, if_neg (by simp), e1]
    · rw [negs_at, e x]
      grind
    · rcases List.mem_cons.mp hr with rfl | hr
      · exact h2
      · exact e3 r hr
theorem go_of {p q : List Rat} (hp : p.length ≤ 8) (tp : Tr p) (hq : 1 ≤ q.length) (hq0 : q.getLastD 0 ≠ 0) (h : 2 ≤ q.length → leftOf 8 p q ≠ [] ∧ Go q (negs (leftOf 8 p q))) : Go p q := by
  by_cases h1 : q.length = 1
  · exact .last h1 hq0 hp tp
  · obtain ⟨a, b⟩ := h (by lia)
    exact .step (by lia) hq0 hp tp a b
theorem poly4 (c0 c1 c2 c3 : Int) (x : Rat) : polyAt (polyOf [c0, c1, c2, c3]) x = x * x * x * x + c3 * (x * x * x) + c2 * (x * x) + c1 * x + c0 := by
  show polyAt [(c0 : Rat), (c1 : Rat), (c2 : Rat), (c3 : Rat), 1] x = _
  rw [polyAt_cons, polyAt_cons, polyAt_cons, polyAt_cons, polyAt_cons, polyAt_nil]
  grind
theorem list4 {α : Type} {l : List α} (h : l.length = 4) : ∃ a b c d, l = [a, b, c, d] := match l, h with | [a, b, c, d], _ => ⟨a, b, c, d, rfl⟩
theorem ok_field {c : List Int} (h : refusal c = 0) : 1 ≤ c.length ∧ c.length ≤ 4 ∧ ∀ z ∈ c, z.natAbs ≤ 1000 := by
  have hb : badField c = false := by
    cases z : badField c with
    | false => rfl
    | true => unfold refusal at h; rw [if_pos z] at h; cases h
  unfold badField at hb
  rw [Bool.or_eq_false_iff, Bool.or_eq_false_iff, decide_eq_false_iff_not, decide_eq_false_iff_not, List.any_eq_false] at hb
  obtain ⟨h1, h2, h3⟩ := hb
  refine ⟨by lia, by lia, fun z hz => ?_⟩
  have := h3 z hz
  rw [Bool.or_eq_true, decide_eq_true_eq, decide_eq_true_eq] at this
  omega
theorem all_zero_of_dropWhile : ∀ r : List Rat, (r.dropWhile fun (x : Rat) => x == 0) = [] → ∀ z ∈ r, z = 0
  | [], _, z, hz => absurd hz (by simp)
  | a :: r, h, z, hz => by
    rw [List.dropWhile_cons] at h
    by_cases ha : a = 0
    · rw [if_pos (by simpa using ha)] at h
      rcases List.mem_cons.mp hz with rfl | hz
      · exact ha
      · exact all_zero_of_dropWhile r h z hz
    · rw [if_neg (by simpa using ha)] at h
      cases h
theorem poly_zero {p : List Rat} (h : ∀ x, polyAt p x = 0) : ∀ z ∈ p, z = 0 := by
  have ht : trimmed p = [] := by
    rcases tr_trimmed p with k | k
    · exact k
    · obtain ⟨N, _, hN⟩ := far_sign _ k
      have h1 := hN N Rat.le_refl
      rw [polyAt_trimmed, h] at h1
      rcases ne_lt k with z | z
      · rw [sign_neg z] at h1
        cases h1
      · rw [sign_pos z] at h1
        cases h1
  intro z hz
  unfold trimmed at ht
  exact all_zero_of_dropWhile _ (List.reverse_eq_nil_iff.mp ht) z (List.mem_reverse.mpr hz)
theorem zipWith_zero : ∀ {p q : List Rat}, p.length = q.length → (∀ z ∈ List.zipWith (fun (a b : Rat) => a - 1 * b) p q, z = 0) → p = q
  | [], [], _, _ => rfl
  | a :: p, b :: q, hl, h => by
    rw [List.zipWith_cons_cons] at h
    have h1 := h (a - 1 * b) (by simp)
    have h2 := zipWith_zero (p := p) (q := q) (by simpa using hl) fun z hz => h z (List.mem_cons_of_mem _ hz)
    rw [h2, show a = b by grind]
theorem poly_ext {p q : List Rat} (hl : p.length = q.length) (h : ∀ x, polyAt p x = polyAt q x) : p = q := by
  refine zipWith_zero hl (poly_zero fun x => ?_)
  rw [polyAt_zipWith _ _ _ _ hl, h]
  grind
noncomputable def addP : List Rat → List Rat → List Rat
  | [], q => q
  | a :: p, [] => a :: p
  | a :: p, b :: q => (a + b) :: addP p q
theorem addP_at (x : Rat) : ∀ p q : List Rat, polyAt (addP p q) x = polyAt p x + polyAt q x
  | [], q => by rw [polyAt_nil]; show polyAt q x = _; grind
  | a :: p, [] => by rw [polyAt_nil]; show polyAt (a :: p) x = _; grind
  | a :: p, b :: q => by
    show polyAt ((a + b) :: addP p q) x = _
    rw [polyAt_cons, polyAt_cons, polyAt_cons, addP_at x p q]
    grind
theorem addP_length : ∀ p q : List Rat, p.length ≤ q.length → (addP p q).length = q.length
  | [], q, _ => rfl
  | a :: p, [], h => by simp at h
  | a :: p, b :: q, h => by
    show ((a + b) :: addP p q).length = _
    rw [List.length_cons, List.length_cons, addP_length p q (by simpa using h)]
theorem last_cons {a : Rat} {l : List Rat} (h : l ≠ []) : (a :: l).getLastD 0 = l.getLastD 0 := by
  cases l with
  | nil => exact absurd rfl h
  | cons b l => rfl
theorem addP_last : ∀ p q : List Rat, p.length < q.length → (addP p q).getLastD 0 = q.getLastD 0
  | [], q, _ => rfl
  | a :: p, [], h => by simp at h
  | a :: p, b :: q, h => by
    have hl : p.length < q.length := by simpa using h
    have h1 : q ≠ [] := by rintro rfl; simp at hl
    have h2 : addP p q ≠ [] := by
      intro z
      have := addP_length p q (by lia)
      rw [z] at this
      simp at this
      lia
    show ((a + b) :: addP p q).getLastD 0 = _
    rw [last_cons h2, last_cons h1, addP_last p q hl]
noncomputable def mulC (t : Rat) (p : List Rat) : List Rat := p.map fun (z : Rat) => t * z
theorem mulC_at (t x : Rat) : ∀ p : List Rat, polyAt (mulC t p) x = t * polyAt p x
  | [] => by show (0 : Rat) = t * 0; grind
  | a :: p => by
    show polyAt (t * a :: mulC t p) x = _
    rw [polyAt_cons, polyAt_cons, mulC_at t x p]
    grind
theorem mulC_length (t : Rat) (p : List Rat) : (mulC t p).length = p.length := by unfold mulC; rw [List.length_map]
theorem mulC_last (t : Rat) (p : List Rat) : (mulC t p).getLastD 0 = t * p.getLastD 0 := getLastD_map (fun (z : Rat) => t * z) 0 0 (Rat.mul_zero t) p
noncomputable def upP : List Rat → List Rat
  | [] => []
  | a :: p => 0 :: a :: p
theorem upP_at (x : Rat) (p : List Rat) : polyAt (upP p) x = x * polyAt p x := by
  cases p with
  | nil => show (0 : Rat) = x * 0; grind
  | cons a p =>
    show polyAt (0 :: a :: p) x = _
    rw [polyAt_cons]
    grind
noncomputable def mulP : List Rat → List Rat → List Rat
  | [], _ => []
  | a :: p, q => addP (mulC a q) (upP (mulP p q))
theorem mulP_at (x : Rat) : ∀ p q : List Rat, polyAt (mulP p q) x = polyAt p x * polyAt q x
  | [], q => by rw [polyAt_nil]; show (0 : Rat) = 0 * _; grind
  | a :: p, q => by
    show polyAt (addP (mulC a q) (upP (mulP p q))) x = _
    rw [addP_at, mulC_at, upP_at, mulP_at x p q, polyAt_cons]
    grind
theorem addP_nil : ∀ p : List Rat, addP p [] = p
  | [] => rfl
  | _ :: _ => rfl
theorem mulP_last {q : List Rat} (hq : q ≠ []) : ∀ p : List Rat, p ≠ [] → (mulP p q).length + 1 = p.length + q.length ∧ (mulP p q).getLastD 0 = p.getLastD 0 * q.getLastD 0
  | [], h => absurd rfl h
  | [a], _ => by
    show (addP (mulC a q) []).length + 1 = 1 + q.length ∧ (addP (mulC a q) []).getLastD 0 = a * q.getLastD 0
    rw [addP_nil, mulC_length, mulC_last]
    exact ⟨by lia, rfl⟩
  | a :: b :: p, _ => by
    obtain ⟨h1, h2⟩ := mulP_last hq (b :: p) (by simp)
    have hql : 1 ≤ q.length := by
      cases q with
      | nil => exact absurd rfl hq
      | cons _ _ => simp
    rw [List.length_cons] at h1
    have hm : mulP (b :: p) q ≠ [] := by
      intro z
      rw [z] at h1
      simp at h1
      lia
    have hu : upP (mulP (b :: p) q) = 0 :: mulP (b :: p) q := by
      cases hh : mulP (b :: p) q with
      | nil => exact absurd hh hm
      | cons _ _ => rfl
    have e : mulP (a :: b :: p) q = addP (mulC a q) (0 :: mulP (b :: p) q) := by
      show addP (mulC a q) (upP (mulP (b :: p) q)) = _
      rw [hu]
    have hlt : (mulC a q).length < (0 :: mulP (b :: p) q).length := by
      rw [mulC_length, List.length_cons]
      lia
    rw [e, addP_length _ _ (by lia), addP_last _ _ hlt, last_cons hm, h2]
    refine ⟨?_, rfl⟩
    rw [List.length_cons, List.length_cons, List.length_cons]
    lia
theorem mult_short {q Q r : List Rat} (hq : q ≠ []) (hq0 : q.getLastD 0 ≠ 0) (hr : r.length < q.length) (h : ∀ x, polyAt Q x * polyAt q x = polyAt r x) : ∀ x, polyAt Q x = 0 := by
  rcases tr_trimmed Q with k | k
  · intro x
    rw [← polyAt_trimmed, k]
    rfl
  · exfalso
    have hne : trimmed Q ≠ [] := by
      intro z
      rw [z] at k
      exact k rfl
    obtain ⟨m1, m2⟩ := mulP_last hq (trimmed Q) hne
    have hl : (negs r).length < (mulP (trimmed Q) q).length := by
      rw [negs_length]
      have : 1 ≤ (trimmed Q).length := by
        cases hh : trimmed Q with
        | nil => exact absurd hh hne
        | cons _ _ => simp
      lia
    have hz : ∀ x, polyAt (addP (negs r) (mulP (trimmed Q) q)) x = 0 := fun x => by
      rw [addP_at, mulP_at, negs_at, polyAt_trimmed, h]
      grind
    have hall := poly_zero hz
    have hlast := addP_last _ _ hl
    rw [m2] at hlast
    have hadd : addP (negs r) (mulP (trimmed Q) q) ≠ [] := by
      intro z
      have := addP_length _ _ (Nat.le_of_lt hl)
      rw [z] at this
      simp at this
      lia
    obtain ⟨m, z, hm⟩ := snoc_of hadd
    have hz0 := hall z (by rw [hm]; simp)
    rw [hm] at hlast
    have : (m ++ [z]).getLastD 0 = z := by simp
    rw [this, hz0] at hlast
    rcases Rat.mul_eq_zero.mp hlast.symm with w | w
    · exact k w
    · exact hq0 w
theorem same_len {p q : List Rat} (hp : p.getLastD 0 ≠ 0) (hq : q.getLastD 0 ≠ 0) (h : ∀ x, polyAt p x = polyAt q x) : p.length = q.length := by
  have one : ∀ x : Rat, polyAt [1] x = 1 := fun x => by rw [polyAt_cons, polyAt_nil]; grind
  have ne : ∀ {l : List Rat}, l.getLastD 0 ≠ 0 → l ≠ [] := fun {l} k z => by rw [z] at k; exact k rfl
  rcases Nat.lt_trichotomy p.length q.length with k | k | k
  · have := mult_short (Q := [1]) (ne hq) hq k (fun x => by rw [one, h]; grind) 0
    rw [one] at this
    exact absurd this (by decide)
  · exact k
  · have := mult_short (Q := [1]) (ne hp) hp k (fun x => by rw [one, h]; grind) 0
    rw [one] at this
    exact absurd this (by decide)
theorem intc (a b : Int) (h : (a : Rat) = (b : Rat)) : a = b := Rat.intCast_inj.mp h
theorem gauss {c0 c1 c2 c3 : Int} (h0 : c0 ≠ 0) {A B u v : Rat} (e3 : (c3 : Rat) = A + u) (e2 : (c2 : Rat) = B + v + A * u) (e1 : (c1 : Rat) = A * v + B * u) (e0 : (c0 : Rat) = B * v) : twoTwos [c0, c1, c2, c3] = true := by
  obtain ⟨s, hs⟩ := root_den (c := [4 * c0 * c2 - c1 * c1 - c0 * c3 * c3, c1 * c3 - 4 * c0, -c2]) (by simp) (r := B + v) (by
    show polyAt [((4 * c0 * c2 - c1 * c1 - c0 * c3 * c3 : Int) : Rat), ((c1 * c3 - 4 * c0 : Int) : Rat), ((-c2 : Int) : Rat), 1] (B + v) = 0
    simp only [polyAt_cons, polyAt_nil, Rat.intCast_sub, Rat.intCast_mul, Rat.intCast_neg, e0, e1, e2, e3]
    have : ((4 : Int) : Rat) = 4 := rfl
    rw [this]
    grind)
  obtain ⟨b, rfl⟩ := root_den (c := [c0, -s]) (by simp) (r := B) (by
    show polyAt [(c0 : Rat), ((-s : Int) : Rat), 1] B = 0
    simp only [polyAt_cons, polyAt_nil, Rat.intCast_neg, e0, ← hs]
    grind)
  obtain ⟨a, rfl⟩ := root_den (c := [c2 - s, -c3]) (by simp) (r := A) (by
    show polyAt [((c2 - s : Int) : Rat), ((-c3 : Int) : Rat), 1] A = 0
    simp only [polyAt_cons, polyAt_nil, Rat.intCast_neg, Rat.intCast_sub, e2, e3, ← hs]
    grind)
  obtain ⟨w, rfl⟩ : ∃ w : Int, v = (w : Rat) := ⟨s - b, by rw [Rat.intCast_sub, ← hs]; grind⟩
  obtain ⟨t, rfl⟩ : ∃ t : Int, u = (t : Rat) := ⟨c3 - a, by rw [Rat.intCast_sub, e3]; grind⟩
  rw [← Rat.intCast_add] at e3
  rw [← Rat.intCast_mul, ← Rat.intCast_add, ← Rat.intCast_add] at e2
  rw [← Rat.intCast_mul, ← Rat.intCast_mul, ← Rat.intCast_add] at e1
  rw [← Rat.intCast_mul] at e0
  have f3 := intc _ _ e3
  have f2 := intc _ _ e2
  have f1 := intc _ _ e1
  have f0 := intc _ _ e0
  clear e0 e1 e2 e3 hs
  have hb : b ≠ 0 := by rintro rfl; rw [Int.zero_mul] at f0; exact h0 f0
  have hw : w ≠ 0 := by rintro rfl; rw [Int.mul_zero] at f0; exact h0 f0
  have d1 : c0 / b = w := by rw [f0]; exact Int.mul_ediv_cancel_left _ hb
  have d2 : c0 / w = b := by rw [f0]; exact Int.mul_ediv_cancel _ hw
  by_cases hle : t ≤ a
  · refine twoTwos_of_hit (c := [c0, c1, c2, c3]) h0 (q := b) ((mem_divisors' h0).mpr ?_) ⟨a - t, by lia, ?_, ?_⟩
    · show c0 % b = 0
      rw [f0]; exact Int.mul_emod_right _ _
    · show (a - t) * (a - t) = c3 * c3 - 4 * (c2 - b - c0 / b)
      rw [d1, f3, f2]; grind
    · show (c3 + (a - t)) / 2 * (c0 / b) + b * (c3 - (c3 + (a - t)) / 2) = c1
      rw [d1, show (c3 + (a - t)) / 2 = a by lia, f1, f3]; grind
  · refine twoTwos_of_hit (c := [c0, c1, c2, c3]) h0 (q := w) ((mem_divisors' h0).mpr ?_) ⟨t - a, by lia, ?_, ?_⟩
    · show c0 % w = 0
      rw [f0]; exact Int.mul_emod_left _ _
    · show (t - a) * (t - a) = c3 * c3 - 4 * (c2 - w - c0 / w)
      rw [d2, f3, f2]; grind
    · show (c3 + (t - a)) / 2 * (c0 / w) + w * (c3 - (c3 + (t - a)) / 2) = c1
      rw [d2, show (c3 + (t - a)) / 2 = t by lia, f1, f3]; grind
theorem is_field {c : List Int} (h : refusal c = 0) : isField c = true := by
  unfold refusal at h
  split at h
  · cases h
  · split at h
    · assumption
    · cases h
theorem irr {c : List Int} (h : refusal c = 0) {g Q : List Rat} (hg : 2 ≤ g.length) (hgl : g.length ≤ c.length) (hg0 : g.getLastD 0 ≠ 0) (e : ∀ x, polyAt (polyOf c) x = polyAt Q x * polyAt g x) : False := by
  obtain ⟨l1, l4, _⟩ := ok_field h
  have hf := is_field h
  have hc := ne_of_len l1
  have hz := no_root (by lia) hc hf
  have e' : ∀ x, polyAt (polyOf c) x = polyAt (trimmed Q) x * polyAt g x := fun x => by rw [polyAt_trimmed]; exact e x
  have hQ : (trimmed Q).getLastD 0 ≠ 0 := by
    rcases tr_trimmed Q with k | k
    · exfalso
      refine hz 0 ?_
      rw [e' 0, k, polyAt_nil]
      grind
    · exact k
  generalize trimmed Q = R at *
  have hR : R ≠ [] := by rintro rfl; exact hQ rfl
  have hgne : g ≠ [] := ne_of_len (by lia)
  obtain ⟨m1, m2⟩ := mulP_last hgne R hR
  have hlen := same_len (p := mulP R g) (q := polyOf c) (by
    rw [m2]
    intro z
    rcases Rat.mul_eq_zero.mp z with w | w
    · exact hQ w
    · exact hg0 w) (by rw [polyOf_last]; decide) (fun x => by rw [mulP_at, e' x])
  rw [polyOf_length] at hlen
  have hsum : R.length + g.length = c.length + 2 := by lia
  by_cases h2 : g.length = 2
  · obtain ⟨r, hr⟩ := linear_root h2 hg0
    exact hz r (by rw [e' r, hr]; grind)
  by_cases h3 : R.length = 2
  · obtain ⟨r, hr⟩ := linear_root h3 hQ
    exact hz r (by rw [e' r, hr]; grind)
  obtain ⟨c0, c1, c2, c3, rfl⟩ := list4 (show c.length = 4 by lia)
  · rw [show ([c0, c1, c2, c3] : List Int).length = 4 from rfl] at hsum hgl
    obtain ⟨a, b, k, ha, eg⟩ := quad_of (show g.length = 3 by lia) hg0
    obtain ⟨p, q, r, hp, eR⟩ := quad_of (show R.length = 3 by lia) hQ
    have hc0 : c0 ≠ 0 := by
      rintro rfl
      refine hz 0 ?_
      rw [poly4]
      have : ((0 : Int) : Rat) = 0 := rfl
      rw [this]
      grind
    obtain ⟨z0, z1, z2, z3, z4⟩ := zero4 (a4 := 1 - p * a) (a3 := c3 - (p * b + q * a)) (a2 := c2 - (p * k + q * b + r * a)) (a1 := c1 - (q * k + r * b)) (a0 := c0 - r * k) (fun x => by
      have := e' x
      rw [poly4, eg, eR] at this
      grind)
    have ht : twoTwos [c0, c1, c2, c3] = true := by
      clear e e' eg eR hz m1 m2 hlen hsum hgl hg hg0 hQ hR hgne h2 h3 l1 l4 hf hc h
      refine gauss (c0 := c0) (c1 := c1) (c2 := c2) (c3 := c3) hc0 (A := p * b) (B := p * k) (u := a * q) (v := a * r) ?_ ?_ ?_ ?_ <;> grind
    have hr : hasRoot [c0, c1, c2, c3] = false := by
      cases hR : hasRoot [c0, c1, c2, c3] with
      | false => rfl
      | true => rw [isField_root (by simp) hR] at hf; cases hf
    rw [isField_four hr rfl, ht] at hf
    cases hf
theorem go_gen {c : List Int} (h : refusal c = 0) : ∀ (n : Nat) (p q : List Rat), q.length ≤ n → p.length ≤ 8 → Tr p → 1 ≤ q.length → q.length ≤ 8 → q.getLastD 0 ≠ 0 → q.length ≤ c.length →
    (∀ g U V : List Rat, (∀ x, polyAt p x = polyAt U x * polyAt g x) → (∀ x, polyAt q x = polyAt V x * polyAt g x) → ∃ W : List Rat, ∀ x, polyAt (polyOf c) x = polyAt W x * polyAt g x) → Go p q
  | 0, p, q, hn, _, _, h1, _, _, _, _ => by lia
  | n + 1, p, q, hn, hp, tp, h1, h8, hq, hc, hd => by
    refine go_of hp tp h1 hq fun h2 => ?_
    obtain ⟨Q, hQ, e, r, tr⟩ := leftOf_div (ne_of_len h1) hq 8 p (by lia) tp
    generalize leftOf 8 p q = R at *
    have hR : R ≠ [] := by
      rintro rfl
      obtain ⟨W, hW⟩ := hd q Q [1] (fun x => by rw [e x, polyAt_nil]; grind) (fun x => by rw [polyAt_cons, polyAt_nil]; grind)
      exact irr h h2 hc hq hW
    have lR : R.getLastD 0 ≠ 0 := by
      rcases tr with a | a
      · exact absurd a hR
      · exact a
    have hR1 : 1 ≤ R.length := List.length_pos_iff.mpr hR
    have hl := negs_length R
    refine ⟨hR, go_gen h n q (negs R) (by lia) h8 (.inr hq) (by lia) (by lia) (by rw [negs_last]; grind) (by lia) fun g U V h3 h4 => ?_⟩
    refine hd g (addP (mulP Q U) (mulC (-1) V)) U (fun x => ?_) h3
    have h5 := h4 x
    rw [negs_at] at h5
    rw [e x, addP_at, mulP_at, mulC_at, h3 x]
    grind
theorem field_go {c : List Int} (h : refusal c = 0) : Go (polyOf c) (derived (polyOf c)) := by
  obtain ⟨l1, l4, _⟩ := ok_field h
  have hc := ne_of_len l1
  have hl := polyOf_length c
  have hdl := derived_length (polyOf c)
  exact go_gen h _ _ _ (Nat.le_refl _) (by lia) (.inr (by rw [polyOf_last]; decide)) (by lia) (by lia) (derived_last0 hc) (by lia) fun g U V h1 _ => ⟨U, h1⟩
theorem row_go {c : List Int} (h : refusal c = 0) : ∃ l : List (List Rat), rowOf c = polyOf c :: derived (polyOf c) :: l ∧ Ch (polyOf c :: derived (polyOf c) :: l) ∧ ∀ r ∈ derived (polyOf c) :: l, r.getLastD 0 ≠ 0 := by
  have hg := field_go h
  refine sturm_of hg 6 ?_
  have := hg.few
  have h1 := derived_length (polyOf c)
  have h2 := polyOf_length c
  have hb : c.length ≤ 4 := by
    false_or_by_contra
    rename_i z
    have : badField c = true := by
      unfold badField
      rw [decide_eq_true (show 4 < c.length by lia)]
      simp
    unfold refusal at h
    rw [if_pos this] at h
    cases h
  lia
end Rr

end
section
set_option linter.all false
namespace Rr
open Root
noncomputable def sc (a : Rat) (P : List Int) : List Rat := P.map fun (z : Int) => a * (z : Rat)
theorem sc_length (a : Rat) (P : List Int) : (sc a P).length = P.length := by unfold sc; rw [List.length_map]
theorem sc_last (a : Rat) (P : List Int) : (sc a P).getLastD 0 = a * ((P.getLastD 0 : Int) : Rat) := getLastD_map (fun (z : Int) => a * (z : Rat)) 0 0 (by rw [Rat.intCast_zero, Rat.mul_zero]) P
theorem sc_ne {a : Rat} (ha : 0 < a) {z : Int} : a * (z : Rat) = 0 ↔ z = 0 := by
  constructor
  · intro h
    rcases Rat.mul_eq_zero.mp h with k | k
    · grind
    · exact Rat.intCast_eq_zero_iff.mp k
  · rintro rfl
    rw [Rat.intCast_zero, Rat.mul_zero]
theorem sc_last0 {a : Rat} (ha : 0 < a) {P : List Int} : (sc a P).getLastD 0 ≠ 0 ↔ P.getLastD 0 ≠ 0 := by
  rw [sc_last]
  exact not_congr (sc_ne ha)
theorem sc_append (a : Rat) (P Q : List Int) : sc a (P ++ Q) = sc a P ++ sc a Q := List.map_append
noncomputable def trimI (P : List Int) : List Int := (P.reverse.dropWhile fun (z : Int) => z == 0).reverse
theorem trimmed_sc {a : Rat} (ha : 0 < a) (P : List Int) : trimmed (sc a P) = sc a (trimI P) := by
  unfold trimmed trimI sc
  rw [← List.map_reverse, List.dropWhile_map, List.map_reverse]
  congr 3
  funext z
  show (a * (z : Rat) == 0) = (z == 0)
  rw [Bool.eq_iff_iff, beq_iff_eq, beq_iff_eq]
  exact sc_ne ha
noncomputable def TrI (P : List Int) : Prop := P = [] ∨ P.getLastD 0 ≠ 0
noncomputable def facI (F G : List Int) : Int := if 0 < G.getLastD 0 then F.getLastD 0 else -F.getLastD 0
noncomputable def iStep (F G : List Int) : List Int := (F.take (F.length - G.length)).map (fun (z : Int) => z * ((G.getLastD 0).natAbs : Int)) ++ List.zipWith (fun (a b : Int) => a * ((G.getLastD 0).natAbs : Int) - facI F G * b) (F.drop (F.length - G.length)) G
theorem zipWith_sc {α β t : Rat} {γ : Rat} {n f : Int} (h1 : γ * (n : Rat) = α) (h2 : γ * (f : Rat) = t * β) : ∀ (v G : List Int), List.zipWith (fun (a b : Rat) => a - t * b) (sc α v) (sc β G) = sc γ (List.zipWith (fun (a b : Int) => a * n - f * b) v G)
  | [], _ => by unfold sc; simp
  | _ :: _, [] => by unfold sc; simp
  | a :: v, b :: G => by
    have ih := zipWith_sc h1 h2 v G
    unfold sc at *
    rw [List.map_cons, List.map_cons, List.zipWith_cons_cons, List.zipWith_cons_cons, List.map_cons, ih]
    congr 1
    rw [Rat.intCast_sub, Rat.intCast_mul, Rat.intCast_mul]
    grind
theorem map_sc {α γ : Rat} {n : Int} (h1 : γ * (n : Rat) = α) (u : List Int) : sc α u = sc γ (u.map fun (z : Int) => z * n) := by
  unfold sc
  rw [List.map_map]
  refine List.map_congr_left fun z _ => ?_
  show α * (z : Rat) = γ * ((z * n : Int) : Rat)
  rw [Rat.intCast_mul]
  grind
theorem iStep_sc {α β : Rat} (ha : 0 < α) (hb : 0 < β) {F G : List Int} (hG : G ≠ []) (hg : G.getLastD 0 ≠ 0) (hl : G.length ≤ F.length) :
    ∃ γ : Rat, 0 < γ ∧ stepP (sc α F) (sc β G) ((sc α F).length - (sc β G).length) ((sc α F).getLastD 0 / (sc β G).getLastD 1) = sc γ (iStep F G) := by
  have eG : (sc β G).getLastD 1 = (sc β G).getLastD 0 := by
    obtain ⟨m, z, rfl⟩ := snoc_of hG
    rw [sc_append]
    unfold sc
    simp
  rw [eG, sc_last, sc_last, sc_length, sc_length]
  have hgr : ((G.getLastD 0 : Int) : Rat) ≠ 0 := fun z => hg (Rat.intCast_eq_zero_iff.mp z)
  have hp : (0 : Rat) < (((G.getLastD 0).natAbs : Int) : Rat) := Rat.intCast_pos.mpr (by lia)
  have hb0 : β * ((G.getLastD 0 : Int) : Rat) ≠ 0 := fun z => hg ((sc_ne hb).mp z)
  refine ⟨α / (((G.getLastD 0).natAbs : Int) : Rat), ?_, ?_⟩
  · rw [Rat.div_def]
    exact Rat.mul_pos ha (Rat.inv_pos.mpr hp)
  have h1 : α / (((G.getLastD 0).natAbs : Int) : Rat) * (((G.getLastD 0).natAbs : Int) : Rat) = α := Rat.div_mul_cancel (by grind)
  have h3 : α * ((F.getLastD 0 : Int) : Rat) / (β * ((G.getLastD 0 : Int) : Rat)) * (β * ((G.getLastD 0 : Int) : Rat)) = α * ((F.getLastD 0 : Int) : Rat) := Rat.div_mul_cancel hb0
  generalize α / (((G.getLastD 0).natAbs : Int) : Rat) = γ at *
  generalize α * ((F.getLastD 0 : Int) : Rat) / (β * ((G.getLastD 0 : Int) : Rat)) = t at *
  have h2 : γ * ((facI F G : Int) : Rat) = t * β := by
    have h4 : t * β * ((G.getLastD 0 : Int) : Rat) = γ * ((facI F G : Int) : Rat) * ((G.getLastD 0 : Int) : Rat) := by
      unfold facI
      by_cases hpos : 0 < G.getLastD 0
      · rw [if_pos hpos]
        have : ((G.getLastD 0).natAbs : Int) = G.getLastD 0 := by lia
        rw [this] at h1
        grind
      · rw [if_neg hpos]
        have : ((G.getLastD 0).natAbs : Int) = -G.getLastD 0 := by lia
        rw [this, Rat.intCast_neg] at h1
        rw [Rat.intCast_neg]
        grind
    have h5 : (t * β - γ * ((facI F G : Int) : Rat)) * ((G.getLastD 0 : Int) : Rat) = 0 := by grind
    rcases Rat.mul_eq_zero.mp h5 with z | z
    · grind
    · exact absurd z hgr
  have hs : sc α F = sc α (F.take (F.length - G.length)) ++ sc α (F.drop (F.length - G.length)) := by
    rw [← sc_append, List.take_append_drop]
  rw [stepP_eq (t := t) hs (by rw [sc_length, List.length_take]; lia) (by rw [sc_length, sc_length, List.length_drop]; lia), zipWith_sc h1 h2, map_sc h1, ← sc_append]
  rfl
theorem leftOf_sc {α β : Rat} (ha : 0 < α) (hb : 0 < β) {F G : List Int} (hG : G ≠ []) (hg : G.getLastD 0 ≠ 0) (hl : G.length ≤ F.length) (n : Nat) :
    ∃ γ : Rat, 0 < γ ∧ leftOf (n + 1) (sc α F) (sc β G) = leftOf n (sc γ (trimI (iStep F G))) (sc β G) := by
  obtain ⟨γ, hc, e⟩ := iStep_sc ha hb hG hg hl
  refine ⟨γ, hc, ?_⟩
  rw [leftOf_succ, if_neg, e, trimmed_sc hc]
  rw [sc_length, sc_length]
  rintro (h | h)
  · lia
  · cases G with
    | nil => exact hG rfl
    | cons a G => cases h
theorem iStep_shorter {F G : List Int} (hG : G ≠ []) (hg : G.getLastD 0 ≠ 0) (hl : G.length ≤ F.length) : (trimI (iStep F G)).length < F.length := by
  have h1 : (0 : Rat) < 1 := by decide
  obtain ⟨γ, hc, e⟩ := iStep_sc h1 h1 hG hg hl
  have h0 : (sc 1 G).getLastD 0 ≠ 0 := (sc_last0 h1).mpr hg
  have hne : sc 1 G ≠ [] := by
    intro z
    unfold sc at z
    exact hG (List.map_eq_nil_iff.mp z)
  have := (step_div (p := sc 1 F) hne h0 (by rw [sc_length, sc_length]; exact hl)).2
  rw [e, trimmed_sc hc, sc_length, sc_length] at this
  exact this
theorem trI_trimI (P : List Int) : TrI (trimI P) := by
  have h1 : (0 : Rat) < 1 := by decide
  have := tr_trimmed (sc 1 P)
  rw [trimmed_sc h1] at this
  rcases this with z | z
  · left
    unfold sc at z
    exact List.map_eq_nil_iff.mp z
  · exact .inr ((sc_last0 h1).mp z)
theorem lessRow_sc {α : Rat} (ha : 0 < α) {P : List Int} (h : TrI P) : ∃ γ : Rat, 0 < γ ∧ sc α P = sc γ (lessRow P) := by
  by_cases h0 : gcdRow P = 0
  · refine ⟨α, ha, ?_⟩
    rcases h with rfl | h
    · rfl
    · exfalso
      apply h
      have hne : P ≠ [] := by
        rintro rfl
        exact h rfl
      obtain ⟨m, z, rfl⟩ := snoc_of hne
      have := gcdRow_dvd (l := m ++ [z]) (z := z) (by simp)
      rw [h0] at this
      have := Nat.eq_zero_of_zero_dvd this
      simp
      lia
  · refine ⟨α * ((gcdRow P : Int) : Rat), Rat.mul_pos ha (Rat.intCast_pos.mpr (by lia)), ?_⟩
    unfold sc lessRow
    rw [List.map_map]
    refine List.map_congr_left fun z hz => ?_
    obtain ⟨u, hu⟩ : (gcdRow P : Int) ∣ z := Int.ofNat_dvd_left.mpr (gcdRow_dvd hz)
    show α * (z : Rat) = α * ((gcdRow P : Int) : Rat) * ((z / (gcdRow P : Int) : Int) : Rat)
    have e3 : z / (gcdRow P : Int) = u := by rw [hu]; exact Int.mul_ediv_cancel_left _ (by lia)
    rw [e3, hu, Rat.intCast_mul]
    grind
noncomputable def derI (P : List Int) : List Int := (List.range (P.length - 1)).map fun (i : Nat) => ((1 : Int) + (i : Int)) * P.getD (1 + i) 0
theorem derI_length (P : List Int) : (derI P).length = P.length - 1 := by unfold derI; rw [List.length_map, List.length_range]
theorem derived_sc (P : List Int) : derived (sc 1 P) = sc 1 (derI P) := by
  refine List.ext_getElem? fun i => ?_
  unfold derived derI sc
  rw [List.getElem?_map, List.getElem?_map, List.getElem?_map, List.getElem?_drop, List.getElem?_zipIdx, List.getElem?_map]
  by_cases h : i < P.length - 1
  · have h1 : 1 + i < P.length := by lia
    rw [List.getElem?_range h, List.getElem?_eq_getElem h1]
    show some (((0 + (1 + i) : Nat) : Rat) * (1 * ((P[1 + i] : Int) : Rat))) = some (1 * ((((1 : Int) + (i : Int)) * P.getD (1 + i) 0 : Int) : Rat))
    rw [List.getD_eq_getElem?_getD, List.getElem?_eq_getElem h1, Rat.intCast_mul]
    congr 1
    show _ = 1 * ((((1 : Int) + (i : Int) : Int) : Rat) * ((P[1 + i] : Int) : Rat))
    have : ((0 + (1 + i) : Nat) : Rat) = (((1 : Int) + (i : Int) : Int) : Rat) := by
      rw [← Rat.intCast_natCast]
      congr 1
      lia
    rw [this]
    grind
  · have h1 : P.length ≤ 1 + i := by lia
    rw [List.getElem?_eq_none h1, List.getElem?_eq_none (l := List.range (P.length - 1)) (by rw [List.length_range]; lia)]
    rfl
theorem polyOf_sc (c : List Int) : polyOf c = sc 1 (c ++ [1]) := by
  unfold polyOf sc
  rw [List.map_append]
  congr 1
  · refine List.map_congr_left fun z _ => ?_
    grind
  · show [(1 : Rat)] = [1 * ((1 : Int) : Rat)]
    rw [Rat.intCast_one, Rat.mul_one]
inductive RelAll : List (List Rat) → List (List Int) → Prop
  | nil : RelAll [] []
  | cons {a : Rat} {P : List Int} {s : List (List Rat)} {l : List (List Int)} : 0 < a → RelAll s l → RelAll (sc a P :: s) (P :: l)
theorem RelAll.snoc {a : Rat} {P : List Int} {s : List (List Rat)} {l : List (List Int)} (h : RelAll s l) (ha : 0 < a) : RelAll (s ++ [sc a P]) (l ++ [P]) := by
  induction h with
  | nil => exact .cons ha .nil
  | cons hb _ ih => exact .cons hb ih
noncomputable def chg (l : List Int) : Nat := (((List.range (l.length - 1)).map fun (i : Nat) => (1 : Int) + (i : Int)).filter fun (k : Int) => (decide (0 < l.getD (k.toNat - 1) 0)) != (decide (0 < l.getD k.toNat 0))).length
noncomputable def chR : List Int → Nat
  | a :: b :: l => (if (decide (0 < a)) != (decide (0 < b)) then 1 else 0) + chR (b :: l)
  | _ => 0
theorem chg_is : ∀ l : List Int, chg l = chR l
  | [] => rfl
  | [a] => rfl
  | a :: b :: l => by
    have ih := chg_is (b :: l)
    unfold chR
    rw [← ih]
    unfold chg
    have e : (a :: b :: l).length - 1 = ((b :: l).length - 1) + 1 := by simp
    rw [e, List.range_succ_eq_map, List.map_cons, List.filter_cons]
    have e1 : (((List.range ((b :: l).length - 1)).map Nat.succ).map fun (i : Nat) => (1 : Int) + (i : Int)).filter (fun (k : Int) => (decide (0 < (a :: b :: l).getD (k.toNat - 1) 0)) != (decide (0 < (a :: b :: l).getD k.toNat 0))) =
        (((List.range ((b :: l).length - 1)).map fun (i : Nat) => (1 : Int) + (i : Int)).filter fun (k : Int) => (decide (0 < (b :: l).getD (k.toNat - 1) 0)) != (decide (0 < (b :: l).getD k.toNat 0))).map fun (k : Int) => k + 1 := by
      rw [List.filter_map, List.filter_map, List.filter_map, List.map_map, List.map_map]
      have e2 : ∀ i : Nat, ((1 : Int) + ((Nat.succ i : Nat) : Int)) = ((1 : Int) + (i : Int)) + 1 := fun i => by lia
      have e3 : (fun (x : Nat) => (decide (0 < (a :: b :: l).getD ((1 + ((Nat.succ x : Nat) : Int)).toNat - 1) 0)) != (decide (0 < (a :: b :: l).getD (1 + ((Nat.succ x : Nat) : Int)).toNat 0))) = fun (x : Nat) => (decide (0 < (b :: l).getD ((1 + (x : Int)).toNat - 1) 0)) != (decide (0 < (b :: l).getD (1 + (x : Int)).toNat 0)) := by
        funext x
        have h1 : (1 + ((Nat.succ x : Nat) : Int)).toNat - 1 = x + 1 := by lia
        have h2 : (1 + ((Nat.succ x : Nat) : Int)).toNat = (x + 1) + 1 := by lia
        have h3 : (1 + (x : Int)).toNat - 1 = x := by lia
        have h4 : (1 + (x : Int)).toNat = x + 1 := by lia
        rw [h1, h2, h3, h4]
        rfl
      have e4 : (fun (i : Nat) => (1 : Int) + (i : Int)) ∘ Nat.succ = (fun (k : Int) => k + 1) ∘ fun (i : Nat) => (1 : Int) + (i : Int) := by
        funext i
        exact e2 i
      rw [e4]
      congr 1
      refine List.filter_congr fun x _ => ?_
      exact congrFun e3 x
    rw [e1]
    have e5 : (1 : Int) + ((0 : Nat) : Int) = 1 := rfl
    rw [e5]
    show (if ((decide (0 < a)) != (decide (0 < b))) = true then _ else _ : List Int).length = _
    split
    · rw [List.length_cons, List.length_map]
      lia
    · rw [List.length_map]
      lia
noncomputable def sgI (z : Int) : Int := if z < 0 then -1 else if z = 0 then 0 else 1
theorem sgI_sc {a : Rat} (ha : 0 < a) (z : Int) : signOf (a * (z : Rat)) = sgI z := by
  unfold sgI
  rcases Int.lt_trichotomy z 0 with h | h | h
  · rw [if_pos h]
    refine sign_neg ?_
    have : ((z : Int) : Rat) < 0 := Rat.intCast_neg_iff.mpr h
    have := Rat.mul_pos ha (show 0 < -(z : Rat) by grind)
    grind
  · subst h
    rw [if_neg (by lia), if_pos rfl, Rat.intCast_zero, Rat.mul_zero]
    rfl
  · rw [if_neg (by lia), if_neg (by lia)]
    exact sign_pos (Rat.mul_pos ha (Rat.intCast_pos.mpr h))
theorem tn_chR : ∀ l : List Int, (∀ z ∈ l, z ≠ 0) → tn (l.map sgI) = chR l
  | [], _ => rfl
  | [a], _ => tn_one _
  | a :: b :: l, h => by
    have ha := h a (by simp)
    have hb := h b (by simp)
    have ih := tn_chR (b :: l) fun z hz => h z (by simp [hz])
    rw [List.map_cons] at ih
    rw [List.map_cons, List.map_cons]
    have sa : sgI a ≠ 0 := by
      unfold sgI
      split
      · decide
      · first | (rw [if_neg ha]; decide) | decide
    have sb : sgI b ≠ 0 := by
      unfold sgI
      split
      · decide
      · first | (rw [if_neg hb]; decide) | decide
    rw [tn_two _ sa sb, ih]
    show _ = (if (decide (0 < a)) != (decide (0 < b)) then 1 else 0) + chR (b :: l)
    congr 1
    unfold sgI
    by_cases h1 : a < 0 <;> by_cases h2 : b < 0 <;> simp [h1, h2, ha, hb] <;> lia
noncomputable def above (P : List Int) : Int := P.getLastD 0
noncomputable def below (P : List Int) : Int := if P.length % 2 = 1 then P.getLastD 0 else -P.getLastD 0
theorem rel_above {s : List (List Rat)} {l : List (List Int)} (h : RelAll s l) : (s.map fun (p : List Rat) => signOf (p.getLastD 0)) = (l.map above).map sgI ∧
    (s.map fun (p : List Rat) => signOf (if p.length % 2 = 1 then p.getLastD 0 else -p.getLastD 0)) = (l.map below).map sgI ∧ ((∀ p ∈ s, p.getLastD 0 ≠ 0) → ∀ P ∈ l, P.getLastD 0 ≠ 0) := by
  induction h with
  | nil => exact ⟨rfl, rfl, fun _ P hP => absurd hP (by simp)⟩
  | @cons a P s l ha _ ih =>
    obtain ⟨i1, i2, i3⟩ := ih
    simp only [List.map_cons]
    rw [i1, i2, sc_last, sgI_sc ha, sc_length]
    refine ⟨rfl, ?_, fun h Q hQ => ?_⟩
    · congr 1
      unfold below
      by_cases h : P.length % 2 = 1
      · rw [if_pos h, if_pos h, sgI_sc ha]
      · rw [if_neg h, if_neg h, show -(a * ((P.getLastD 0 : Int) : Rat)) = a * ((-P.getLastD 0 : Int) : Rat) by rw [Rat.intCast_neg]; grind, sgI_sc ha]
    · rcases List.mem_cons.mp hQ with rfl | hQ
      · exact (sc_last0 ha).mp (h _ (by simp))
      · exact i3 (fun p hp => h p (by simp [hp])) Q hQ
theorem places_chg {c : List Int} (h : refusal c = 0) {l : List (List Int)} (hr : RelAll (rowOf c) l) : (chg (l.map below) : Int) - (chg (l.map above) : Int) = (places c : Int) ∧ ∀ P ∈ l, P.getLastD 0 ≠ 0 := by
  obtain ⟨s, e1, e2, e3⟩ := row_go h
  have hall : ∀ p ∈ rowOf c, p.getLastD 0 ≠ 0 := by
    rw [e1]
    intro p hp
    rcases List.mem_cons.mp hp with rfl | hp
    · rw [polyOf_last]
      decide
    · exact e3 p hp
  obtain ⟨a1, a2, a3⟩ := rel_above hr
  have hz := a3 hall
  refine ⟨?_, hz⟩
  obtain ⟨N, hN⟩ := far_row (rowOf c) hall
  obtain ⟨M, m1, m2⟩ := max2 N (bound c)
  obtain ⟨f1, f2⟩ := hN M m1
  obtain ⟨p1, p2⟩ := places_far e1 e2 m2
  have t1 : turns (rowOf c) M = chg (l.map above) := by
    rw [turns_tn, f1, a1, tn_chR, chg_is]
    intro z hz'
    obtain ⟨P, hP, rfl⟩ := List.mem_map.mp hz'
    exact hz P hP
  have t2 : turns (rowOf c) (-M) = chg (l.map below) := by
    rw [turns_tn, f2, a2, tn_chR, chg_is]
    intro z hz'
    obtain ⟨P, hP, rfl⟩ := List.mem_map.mp hz'
    have := hz P hP
    unfold below
    split <;> lia
  have hmono : turns (rowOf c) (bound c) ≤ turns (rowOf c) (-bound c) := by
    have hb1 := bound_one c
    by_cases h1 : c.length = 1
    · -- of degree 1 the row is f and 1
      have hb := right_of c (Rat.le_refl (a := bound c))
      obtain ⟨c0, rfl⟩ : ∃ c0, c = [c0] := by
        cases c with
        | nil => simp at h1
        | cons a l =>
          cases l with
          | nil => exact ⟨a, rfl⟩
          | cons b l => simp at h1
      · have er : rowOf [c0] = [polyOf [c0], derived (polyOf [c0])] := by
          have hg := field_go h
          have hdl := derived_length (polyOf [c0])
          have hpl := polyOf_length [c0]
          rw [hpl] at hdl
          have hs : s = [] := by
            have hrow : rowOf [c0] = polyOf [c0] :: sturm 5 (derived (polyOf [c0])) (negs (leftOf 8 (polyOf [c0]) (derived (polyOf [c0])))) := rfl
            obtain ⟨r1, _⟩ := rest_short hg
            have hnil : leftOf 8 (polyOf [c0]) (derived (polyOf [c0])) = [] := List.length_eq_zero_iff.mp (by rw [hdl] at r1; simpa using r1)
            rw [hnil, e1] at hrow
            have h5 : sturm 5 (derived (polyOf [c0])) (negs []) = [derived (polyOf [c0])] := rfl
            rw [h5] at hrow
            simpa using hrow
          rw [e1, hs]
        have hd1 : ∀ x, polyAt (derived (polyOf [c0])) x = 1 := fun x => by
          rw [derived_at]
          show (0 * x + polyAt [] x) * x + polyAt [1] x = 1
          rw [polyAt_cons, polyAt_nil]
          grind
        have : turns (rowOf [c0]) (bound [c0]) = 0 := by
          rw [er, turns_tn]
          simp only [List.map_cons, List.map_nil]
          rw [hd1, sign_pos hb, sign_pos (by decide)]
          rfl
        rw [this]
        exact Nat.zero_le _
    · rw [e1]
      have hb : c ≠ [] := by
        rintro rfl
        have hbad : badField [] = true := rfl
        unfold refusal at h
        rw [if_pos hbad] at h
        cases h
      have hf : isField c = true := by
        unfold refusal at h
        split at h
        · cases h
        · split at h
          · assumption
          · cases h
      exact ch_mono (M := bound c) (by grind) e2 (fun x => derived_at _ x) (fun x => no_root h1 hb hf x) (-bound c) (bound c) (by grind) (by grind) (by grind)
  unfold places
  rw [← t1, ← t2, ← p1, ← p2]
  lia
end Rr

end
section
set_option linter.all false
namespace Rr
open Root
noncomputable def negI (P : List Int) : List Int := P.map fun (z : Int) => -z
theorem negs_sc (a : Rat) (P : List Int) : negs (sc a P) = sc a (negI P) := by
  unfold negs sc negI
  rw [List.map_map, List.map_map]
  refine List.map_congr_left fun z _ => ?_
  show -(a * (z : Rat)) = a * ((-z : Int) : Rat)
  rw [Rat.intCast_neg]
  grind
noncomputable def ba : Nat → Nat
  | 0 => 10
  | 1 => 12
  | 2 => 114
  | 3 => 932
  | _ => 7578
theorem ba_next {i : Nat} (h : i ≤ 2) : ba i + 8 * (ba (i + 1) + 1) = ba (i + 2) := by
  have : i = 0 ∨ i = 1 ∨ i = 2 := by lia
  rcases this with rfl | rfl | rfl <;> rfl
theorem ba_few (i : Nat) : ba i ≤ 8000 := by
  unfold ba
  split <;> lia
structure MInv (c : List Int) (pre : List (List Int)) (P Q : List Int) : Prop where
  row : ∃ (S : List (List Rat)) (α β : Rat) (n : Nat), 0 < α ∧ 0 < β ∧ rowOf c = S ++ sturm n (sc α P) (sc β Q) ∧ RelAll S pre ∧ Go (sc α P) (sc β Q) ∧ Q.length < n
  len : Q.length + pre.length ≤ 4
  bp : ∀ z ∈ P, z.natAbs < 2 ^ ba pre.length
  bq : ∀ z ∈ Q, z.natAbs < 2 ^ ba (pre.length + 1)
theorem minv_start {c : List Int} (h : refusal c = 0) : MInv c [] (c ++ [1]) (derI (c ++ [1])) := by
  obtain ⟨h1, h2, h3⟩ := ok_field h
  have hl : (derI (c ++ [1])).length = c.length := by
    rw [derI_length, List.length_append]
    rfl
  have h10 : ∀ z ∈ c ++ [1], z.natAbs ≤ 1000 := fun z hz => by
    rcases List.mem_append.mp hz with hz | hz
    · exact h3 z hz
    · have : z = 1 := by simpa using hz
      lia
  have hg := field_go h
  rw [polyOf_sc, derived_sc] at hg
  refine ⟨⟨[], 1, 1, 6, by decide, by decide, ?_, .nil, hg, by lia⟩, by rw [hl]; simpa using h2, fun z hz => ?_, fun z hz => ?_⟩
  · rw [List.nil_append, ← derived_sc, ← polyOf_sc]
    rfl
  · have := h10 z hz
    show z.natAbs < 2 ^ 10
    lia
  · unfold derI at hz
    obtain ⟨i, hi, rfl⟩ := List.mem_map.mp hz
    have hi' := List.mem_range.mp hi
    rw [List.length_append] at hi'
    have hi2 : i < c.length := by simpa using hi'
    have hm : ((c ++ [1]).getD (1 + i) 0).natAbs ≤ 1000 := by
      have hlt : 1 + i < (c ++ [1]).length := by rw [List.length_append]; show 1 + i < c.length + 1; lia
      rw [List.getD_eq_getElem?_getD, List.getElem?_eq_getElem hlt]
      exact h10 _ (List.getElem_mem hlt)
    show (((1 : Int) + (i : Int)) * (c ++ [1]).getD (1 + i) 0).natAbs < 2 ^ 12
    rw [Int.natAbs_mul]
    have : ((1 : Int) + (i : Int)).natAbs * ((c ++ [1]).getD (1 + i) 0).natAbs ≤ 4 * 1000 := Nat.mul_le_mul (by lia) hm
    lia
theorem MInv.facts {c : List Int} {pre : List (List Int)} {P Q : List Int} (h : MInv c pre P Q) : Q ≠ [] ∧ Q.getLastD 0 ≠ 0 ∧ TrI P ∧ P.length ≤ 8 ∧ Q.length ≤ 8 := by
  obtain ⟨S, α, β, n, ha, hb, e, hr, hg, hn⟩ := h.row
  have h1 := hg.pos
  have h2 := hg.last0
  have h3 := hg.few
  have h4 := hg.tr
  rw [sc_length] at h1 h3
  have hl := h.len
  refine ⟨ne_of_len h1, (sc_last0 hb).mp h2, ?_, h3, by lia⟩
  rcases h4 with z | z
  · left
    unfold sc at z
    exact List.map_eq_nil_iff.mp z
  · exact .inr ((sc_last0 ha).mp z)
theorem MInv.next {c : List Int} {pre : List (List Int)} {P Q R : List Int} (h : MInv c pre P Q) (h2 : 2 ≤ Q.length) (hR : ∀ α β : Rat, 0 < α → 0 < β → ∃ γ : Rat, 0 < γ ∧ leftOf 8 (sc α P) (sc β Q) = sc γ R)
    (hb : ∀ z ∈ R, z.natAbs < 2 ^ (ba pre.length + 8 * (ba (pre.length + 1) + 1))) : MInv c (pre ++ [P]) Q (negI R) := by
  obtain ⟨S, α, β, n, ha, hb', e, hr, hg, hn⟩ := h.row
  obtain ⟨γ, hc, e2⟩ := hR α β ha hb'
  have hl := h.len
  have hrest := (rest_short hg).1
  have hnl : (negI R).length = R.length := by unfold negI; rw [List.length_map]
  rw [e2, sc_length, sc_length] at hrest
  have hpl : (pre ++ [P]).length = pre.length + 1 := by rw [List.length_append]; rfl
  cases hg with
  | last h1 _ _ _ => rw [sc_length] at h1; lia
  | step q1 q2 q3 q4 q5 q6 =>
    rw [e2, negs_sc] at q6
    obtain ⟨m, rfl⟩ : ∃ m, n = m + 1 := ⟨n - 1, by lia⟩
    refine ⟨⟨S ++ [sc α P], β, γ, m, hb', hc, ?_, hr.snoc ha, q6, by lia⟩, by lia, fun z hz => ?_, fun z hz => ?_⟩
    · rw [e, List.append_assoc]
      congr 1
      have hq : (sc β Q).isEmpty = false := by
        cases hQ : sc β Q with
        | nil => rw [hQ] at q1; simp at q1
        | cons _ _ => rfl
      show (if (sc β Q).isEmpty = true then [sc α P] else sc α P :: sturm m (sc β Q) (negs (leftOf 8 (sc α P) (sc β Q)))) = _
      rw [hq, if_neg (by simp), e2, negs_sc]
      rfl
    · rw [hpl]
      exact h.bq z hz
    · rw [hpl]
      unfold negI at hz
      obtain ⟨y, hy, rfl⟩ := List.mem_map.mp hz
      have := hb y hy
      rw [ba_next (by lia)] at this
      rw [Int.natAbs_neg]
      exact this
theorem MInv.done {c : List Int} {pre : List (List Int)} {P Q : List Int} (h : MInv c pre P Q) (h1 : ¬ 1 < Q.length) : RelAll (rowOf c) (pre ++ [P, Q]) := by
  obtain ⟨S, α, β, n, ha, hb, e, hr, hg, hn⟩ := h.row
  have hp := hg.pos
  have hs := (rest_short hg).1
  rw [sc_length] at hp hs
  have hnil : leftOf 8 (sc α P) (sc β Q) = [] := List.length_eq_zero_iff.mp (by lia)
  obtain ⟨m, rfl⟩ : ∃ m, n = m + 2 := ⟨n - 2, by lia⟩
  have hq : (sc β Q).isEmpty = false := by
    cases hQ : sc β Q with
    | nil =>
      have := sc_length β Q
      rw [hQ] at this
      simp at this
      lia
    | cons _ _ => rfl
  have e2 : sturm (m + 2) (sc α P) (sc β Q) = [sc α P, sc β Q] := by
    show (if (sc β Q).isEmpty = true then [sc α P] else sc α P :: sturm (m + 1) (sc β Q) (negs (leftOf 8 (sc α P) (sc β Q)))) = _
    rw [hq, if_neg (by simp), hnil]
    rfl
  rw [e, e2]
  have := (hr.snoc (P := P) ha).snoc (P := Q) hb
  rw [List.append_assoc, List.append_assoc] at this
  exact this
end Rr

end
section
set_option linter.all false
namespace Rr
open Root
noncomputable def Cg (c : List Int) (u v : Rat → Rat) : Prop := ∃ Q : List Rat, ∀ x, u x - v x = polyAt Q x * polyAt (polyOf c) x
theorem Cg.symm {c : List Int} {u v : Rat → Rat} (h : Cg c u v) : Cg c v u := by
  obtain ⟨Q, h⟩ := h
  exact ⟨negs Q, fun x => by rw [negs_at]; have := h x; grind⟩
theorem Cg.trans {c : List Int} {u v w : Rat → Rat} (h : Cg c u v) (k : Cg c v w) : Cg c u w := by
  obtain ⟨Q, h⟩ := h
  obtain ⟨R, k⟩ := k
  exact ⟨addP Q R, fun x => by rw [addP_at]; have := h x; have := k x; grind⟩
theorem Cg.mul {c : List Int} {u v : Rat → Rat} (h : Cg c u v) (p : List Rat) : Cg c (fun x => u x * polyAt p x) (fun x => v x * polyAt p x) := by
  obtain ⟨Q, h⟩ := h
  exact ⟨mulP Q p, fun x => by rw [mulP_at]; have := h x; grind⟩
theorem Cg.of_eq {c : List Int} {u v : Rat → Rat} (h : ∀ x, u x = v x) : Cg c u v := ⟨[], fun x => by rw [polyAt_nil, h]; grind⟩
theorem polyOf_ne (c : List Int) : polyOf c ≠ [] := by
  intro z
  have := polyOf_length c
  rw [z] at this
  simp at this
theorem Cg.unique {c : List Int} {a b : List Rat} (ha : a.length = c.length) (hb : b.length = c.length) (h : Cg c (polyAt a) (polyAt b)) : a = b := by
  obtain ⟨Q, h⟩ := h
  have hz := mult_short (q := polyOf c) (Q := Q) (r := List.zipWith (fun (u v : Rat) => u - 1 * v) a b) (polyOf_ne c) (by rw [polyOf_last]; decide) (by rw [List.length_zipWith, polyOf_length]; lia) (fun x => by
    rw [← h x, polyAt_zipWith _ _ _ _ (by lia)]
    grind)
  refine poly_ext (by lia) fun x => ?_
  have := h x
  rw [hz x] at this
  grind
theorem plus_length {a b : Num} : (Root.plus a b).length = min a.length b.length := by unfold Root.plus; rw [List.length_map, List.length_zip]
theorem scaled_length (r : Rat) (a : Num) : (scaled r a).length = a.length := by unfold scaled; rw [List.length_map]
theorem plus_cons (a b : Rat) (p q : Num) : Root.plus (a :: p) (b :: q) = (a + b) :: Root.plus p q := rfl
theorem plus_at (x : Rat) : ∀ a b : Num, a.length = b.length → polyAt (Root.plus a b) x = polyAt a x + polyAt b x
  | [], [], _ => by show (0 : Rat) = 0 + 0; grind
  | a :: p, b :: q, h => by
    rw [plus_cons, polyAt_cons, polyAt_cons, polyAt_cons, plus_at x p q (by simpa using h)]
    grind
theorem scaled_at (r x : Rat) (a : Num) : polyAt (scaled r a) x = r * polyAt a x := mulC_at r x a
theorem zeroIn_at (d : Nat) (x : Rat) : polyAt (zeroIn d) x = 0 := polyAt_zeros d x
theorem zeroIn_length (d : Nat) : (zeroIn d).length = d := List.length_replicate
theorem oneIn_succ (d : Nat) : oneIn (d + 1) = 1 :: List.replicate d 0 := by
  unfold oneIn
  rw [List.range_succ_eq_map, List.map_cons, List.map_map]
  congr 1
  refine List.ext_getElem (by simp) fun i h1 h2 => ?_
  simp
theorem oneIn_length (d : Nat) : (oneIn d).length = d := by unfold oneIn; rw [List.length_map, List.length_range]
theorem oneIn_at {d : Nat} (h : 1 ≤ d) (x : Rat) : polyAt (oneIn d) x = 1 := by
  obtain ⟨e, rfl⟩ : ∃ e, d = e + 1 := ⟨d - 1, by lia⟩
  rw [oneIn_succ, polyAt_cons, polyAt_zeros]
  grind
theorem timesX_length (c : List Int) (a : Num) : (timesX c a).length = c.length := by
  unfold timesX
  rw [List.length_map, List.length_range]
theorem timesX_eq {c : List Int} {n : Num} {h : Rat} (hl : n.length + 1 = c.length) : timesX c (n ++ [h]) = List.zipWith (fun (u v : Rat) => u - h * v) (0 :: n) (c.map fun (z : Int) => (z : Rat)) := by
  refine List.ext_getElem (by rw [timesX_length, List.length_zipWith, List.length_map, List.length_cons]; lia) fun i h1 h2 => ?_
  rw [timesX_length] at h1
  unfold timesX
  have e : (n ++ [h]).getLastD 0 = h := by simp
  simp only [List.getElem_map, List.getElem_range, List.getElem_zipWith, e]
  have e2 : c.getD i 0 = c[i] := by rw [List.getD_eq_getElem?_getD, List.getElem?_eq_getElem h1]; rfl
  rw [e2]
  cases i with
  | zero => rfl
  | succ i =>
    have hi : i < n.length := by lia
    rw [if_neg (by lia)]
    show at_ (n ++ [h]) (i + 1 - 1) - _ = n[i] - _
    have : at_ (n ++ [h]) (i + 1 - 1) = n[i] := by
      unfold at_
      rw [List.getD_eq_getElem?_getD, Nat.add_sub_cancel, List.getElem?_append_left hi, List.getElem?_eq_getElem hi]
      rfl
    rw [this]
theorem timesX_at {c : List Int} {a : Num} (hc : 1 ≤ c.length) (hl : a.length = c.length) (x : Rat) : polyAt (timesX c a) x = x * polyAt a x - a.getLastD 0 * polyAt (polyOf c) x := by
  obtain ⟨n, h, rfl⟩ := snoc_of (show a ≠ [] from ne_of_len (by lia))
  have hn : n.length + 1 = c.length := by rw [← hl, List.length_append]; rfl
  have e : (n ++ [h]).getLastD 0 = h := by simp
  rw [timesX_eq hn, polyAt_zipWith _ _ _ _ (by rw [List.length_cons, List.length_map]; omega), e, polyAt_append, polyAt_cons]
  unfold polyOf
  rw [polyAt_append, List.length_map, ← hn, Rat.pow_succ]
  simp only [polyAt_cons, polyAt_nil]
  generalize polyAt (c.map fun (z : Int) => (z : Rat)) x = C
  generalize polyAt n x = N
  generalize x ^ n.length = X
  clear e hl hn
  grind
theorem fold_times {c : List Int} (hc : 1 ≤ c.length) : ∀ (b : List Rat) (a s : Num), a.length = c.length → s.length = c.length →
    (((shifts c a b.length).zip b).foldl (fun (s : Num) (x : Num × Rat) => Root.plus s (scaled x.2 x.1)) s).length = c.length ∧
    Cg c (polyAt (((shifts c a b.length).zip b).foldl (fun (s : Num) (x : Num × Rat) => Root.plus s (scaled x.2 x.1)) s)) (fun x => polyAt s x + polyAt a x * polyAt b x)
  | [], a, s, ha, hs => by
    refine ⟨hs, Cg.of_eq fun x => ?_⟩
    show polyAt s x = polyAt s x + polyAt a x * 0
    grind
  | t :: b, a, s, ha, hs => by
    have e : ((shifts c a (t :: b).length).zip (t :: b)).foldl (fun (s : Num) (x : Num × Rat) => Root.plus s (scaled x.2 x.1)) s = ((shifts c (timesX c a) b.length).zip b).foldl (fun (s : Num) (x : Num × Rat) => Root.plus s (scaled x.2 x.1)) (Root.plus s (scaled t a)) := rfl
    rw [e]
    have hsl : s.length = (scaled t a).length := by rw [scaled_length]; lia
    obtain ⟨h1, h2⟩ := fold_times hc b (timesX c a) (Root.plus s (scaled t a)) (timesX_length c a) (by rw [plus_length, scaled_length]; lia)
    refine ⟨h1, h2.trans ⟨mulC (-a.getLastD 0) b, fun x => ?_⟩⟩
    show polyAt (Root.plus s (scaled t a)) x + polyAt (timesX c a) x * polyAt b x - (polyAt s x + polyAt a x * polyAt (t :: b) x) = _
    rw [plus_at x _ _ hsl, scaled_at, timesX_at hc ha, mulC_at, polyAt_cons]
    generalize a.getLastD 0 = h0
    clear h1 h2 e hsl hs ha
    grind
theorem times_length {c : List Int} (hc : 1 ≤ c.length) {a b : Num} (ha : a.length = c.length) (hb : b.length = c.length) : (Root.times c a b).length = c.length := by
  unfold Root.times
  rw [← hb]
  have := (fold_times hc b a (zeroIn b.length) ha (by rw [zeroIn_length, hb])).1
  rw [hb] at *
  exact this
theorem times_cg {c : List Int} (hc : 1 ≤ c.length) {a b : Num} (ha : a.length = c.length) (hb : b.length = c.length) : Cg c (polyAt (Root.times c a b)) (fun x => polyAt a x * polyAt b x) := by
  unfold Root.times
  have := (fold_times hc b a (zeroIn b.length) ha (by rw [zeroIn_length, hb])).2
  rw [hb] at this
  refine this.trans (Cg.of_eq fun x => ?_)
  rw [zeroIn_at]
  grind
end Rr

end
section
set_option linter.all false
namespace Rr
open Root
theorem inv_poly {c : List Int} (h : refusal c = 0) : ∀ (n : Nat) (a : List Rat), a.length ≤ n → a.length ≤ c.length → a.getLastD 0 ≠ 0 → ∃ U : List Rat, Cg c (fun x => polyAt U x * polyAt a x) (fun _ => 1)
  | 0, a, hn, _, h0 => by
    have : a = [] := List.length_eq_zero_iff.mp (by lia)
    rw [this] at h0
    exact absurd rfl h0
  | n + 1, a, hn, hc, h0 => by
    obtain ⟨l1, l4, _⟩ := ok_field h
    have hne : a ≠ [] := by rintro rfl; exact h0 rfl
    by_cases h1 : a.length = 1
    · match a, h1 with
      | [t], _ =>
        have ht : t ≠ 0 := h0
        refine ⟨[1 / t], Cg.of_eq fun x => ?_⟩
        rw [polyAt_cons, polyAt_nil, polyAt_cons, polyAt_nil]
        have := Rat.div_mul_cancel (a := 1) ht
        grind
    · have hl : 2 ≤ a.length := by
        have : a.length ≠ 0 := fun z => hne (List.length_eq_zero_iff.mp z)
        lia
      obtain ⟨Q, _, e, hs, ht⟩ := leftOf_div hne h0 8 (polyOf c) (by rw [polyOf_length]; lia) (.inr (by rw [polyOf_last]; decide))
      rcases ht with z | z
      · exfalso
        refine irr h hl hc h0 (Q := Q) fun x => ?_
        rw [e x, z, polyAt_nil]
        grind
      · obtain ⟨U, R, hU⟩ := inv_poly h n (leftOf 8 (polyOf c) a) (by lia) (by lia) z
        refine ⟨negs (mulP U Q), addP R (negs U), fun x => ?_⟩
        have h1 : polyAt U x * polyAt (leftOf 8 (polyOf c) a) x - 1 = polyAt R x * polyAt (polyOf c) x := hU x
        have h2 := e x
        show polyAt (negs (mulP U Q)) x * polyAt a x - 1 = polyAt (addP R (negs U)) x * polyAt (polyOf c) x
        rw [negs_at, mulP_at, addP_at, negs_at]
        clear hU e
        grind
theorem row_of {c : List Int} (p : List Rat) : ∃ r : List Rat, r.length = c.length ∧ Cg c (polyAt p) (polyAt r) := by
  obtain ⟨Q, _, e, hs, ht⟩ := leftOf_div (polyOf_ne c) (by rw [polyOf_last]; decide) p.length (trimmed p) (by have := trimmed_length p; rw [polyOf_length]; lia) (tr_trimmed p)
  generalize leftOf p.length (trimmed p) (polyOf c) = r at *
  rw [polyOf_length] at hs
  refine ⟨r ++ List.replicate (c.length - r.length) 0, ?_, Q, fun x => ?_⟩
  · rw [List.length_append, List.length_replicate]
    lia
  · rw [polyAt_append, polyAt_zeros, ← polyAt_trimmed, e x]
    grind
theorem isZero_of {a : Num} : isZero a = true ↔ ∀ x, polyAt a x = 0 := by
  unfold isZero
  rw [List.all_eq_true]
  constructor
  · intro h x
    induction a with
    | nil => rfl
    | cons t a ih =>
      have h1 : t = 0 := by simpa using h t (by simp)
      rw [polyAt_cons, ih fun z hz => h z (by simp [hz]), h1]
      grind
  · intro h z hz
    simpa using poly_zero h z hz
theorem inv_row {c : List Int} (h : refusal c = 0) {a : Num} (ha : a.length = c.length) (h0 : isZero a = false) : ∃ w : Num, w.length = c.length ∧ Cg c (fun x => polyAt w x * polyAt a x) (fun _ => 1) := by
  have hz : (trimmed a).getLastD 0 ≠ 0 := by
    rcases tr_trimmed a with k | k
    · exfalso
      have : isZero a = true := isZero_of.mpr fun x => by rw [← polyAt_trimmed, k]; rfl
      rw [this] at h0
      cases h0
    · exact k
  obtain ⟨U, hU⟩ := inv_poly h _ (trimmed a) (Nat.le_refl _) (by have := trimmed_length a; lia) hz
  obtain ⟨w, hw, e⟩ := row_of (c := c) U
  refine ⟨w, hw, ?_⟩
  have h1 := (e.mul a).symm
  refine h1.trans ((Cg.of_eq fun x => ?_).trans hU)
  rw [polyAt_trimmed]
theorem cancel {c : List Int} (h : refusal c = 0) {a u v : Num} (ha : a.length = c.length) (h0 : isZero a = false) (hu : u.length = c.length) (hv : v.length = c.length) (e : Cg c (fun x => polyAt a x * polyAt u x) (fun x => polyAt a x * polyAt v x)) : u = v := by
  obtain ⟨w, hw, k⟩ := inv_row h ha h0
  refine Cg.unique hu hv ?_
  have k1 := (k.mul u).symm
  have k2 := k.mul v
  have k3 := e.mul w
  refine Cg.trans (Cg.of_eq fun x => ?_) (k1.trans (Cg.trans (Cg.of_eq fun x => ?_) (k3.trans (Cg.trans (Cg.of_eq fun x => ?_) (k2.trans (Cg.of_eq fun x => ?_))))))
  all_goals grind
end Rr

end
section
set_option linter.all false
namespace Rr
open Root
theorem at_nil (i : Nat) : at_ [] i = 0 := by
  unfold at_
  rfl
theorem at_zero (t : Rat) (a : Num) : at_ (t :: a) 0 = t := rfl
theorem at_succ (t : Rat) (a : Num) (i : Nat) : at_ (t :: a) (i + 1) = at_ a i := rfl
theorem at_out {a : Num} {i : Nat} (h : a.length ≤ i) : at_ a i = 0 := by
  unfold at_
  rw [List.getD_eq_getElem?_getD, List.getElem?_eq_none h]
  rfl
theorem at_plus : ∀ (a b : Num), a.length = b.length → ∀ i, at_ (Root.plus a b) i = at_ a i + at_ b i
  | [], [], _, i => by rw [at_nil]; show (0 : Rat) = 0 + 0; grind
  | s :: a, t :: b, h, i => by
    rw [plus_cons]
    cases i with
    | zero => rfl
    | succ i => rw [at_succ, at_succ, at_succ, at_plus a b (by simpa using h)]
theorem at_scaled (r : Rat) : ∀ (a : Num) (i : Nat), at_ (scaled r a) i = r * at_ a i
  | [], i => by show at_ [] i = _; rw [at_nil]; grind
  | t :: a, i => by
    cases i with
    | zero => rfl
    | succ i =>
      show at_ (scaled r a) i = _
      rw [at_scaled r a i, at_succ]
theorem at_zeroIn (d i : Nat) : at_ (zeroIn d) i = 0 := by
  unfold at_ zeroIn
  rw [List.getD_eq_getElem?_getD, List.getElem?_replicate]
  split <;> rfl
theorem num_ext {a b : Num} (hl : a.length = b.length) (h : ∀ i, at_ a i = at_ b i) : a = b := by
  refine List.ext_getElem hl fun i h1 h2 => ?_
  have := h i
  unfold at_ at this
  rw [List.getD_eq_getElem?_getD, List.getD_eq_getElem?_getD, List.getElem?_eq_getElem h1, List.getElem?_eq_getElem h2] at this
  exact this
theorem isZero_at {a : Num} : isZero a = true ↔ ∀ i, at_ a i = 0 := by
  unfold isZero
  rw [List.all_eq_true]
  constructor
  · intro h i
    by_cases hi : i < a.length
    · unfold at_
      rw [List.getD_eq_getElem?_getD, List.getElem?_eq_getElem hi]
      simpa using h _ (List.getElem_mem hi)
    · exact at_out (by lia)
  · intro h z hz
    obtain ⟨i, hi, rfl⟩ := List.mem_iff_getElem.mp hz
    have := h i
    unfold at_ at this
    rw [List.getD_eq_getElem?_getD, List.getElem?_eq_getElem hi] at this
    simpa using this
noncomputable def csum : List Rat → List Num → Nat → Rat
  | t :: w, v :: l, i => t * at_ v i + csum w l i
  | _, _, _ => 0
theorem csum_nil (l : List Num) (i : Nat) : csum [] l i = 0 := by
  cases l <;> rfl
theorem csum_nil' (w : List Rat) (i : Nat) : csum w [] i = 0 := by
  cases w <;> rfl
end Rr

end
section
set_option linter.all false
namespace Rr
open Root
theorem shifts_mem {c : List Int} : ∀ (n : Nat) (a : Num), a.length = c.length → ∀ v ∈ shifts c a n, v.length = c.length
  | 0, _, _, v, hv => absurd hv (by show ¬ v ∈ []; simp)
  | n + 1, a, ha, v, hv => by
    have hv' : v ∈ a :: shifts c (timesX c a) n := hv
    rcases List.mem_cons.mp hv' with rfl | hv'
    · exact ha
    · exact shifts_mem n (timesX c a) (timesX_length c a) v hv'
theorem fold_csum {m : Nat} : ∀ (l : List Num) (b : List Rat) (s : Num), (∀ v ∈ l, v.length = m) → s.length = m → ∀ i, at_ ((l.zip b).foldl (fun (s : Num) (x : Num × Rat) => Root.plus s (scaled x.2 x.1)) s) i = at_ s i + csum b l i
  | [], b, s, _, _, i => by
    rw [csum_nil']
    show at_ s i = at_ s i + 0
    grind
  | v :: l, [], s, _, _, i => by
    rw [csum_nil]
    show at_ s i = at_ s i + 0
    grind
  | v :: l, t :: b, s, hl, hs, i => by
    have hv := hl v (by simp)
    show at_ ((l.zip b).foldl (fun (s : Num) (x : Num × Rat) => Root.plus s (scaled x.2 x.1)) (Root.plus s (scaled t v))) i = at_ s i + (t * at_ v i + csum b l i)
    rw [fold_csum l b _ (fun u hu => hl u (by simp [hu])) (by rw [plus_length, scaled_length]; lia) i, at_plus _ _ (by rw [scaled_length]; lia), at_scaled]
    grind
theorem times_csum {c : List Int} {a b : Num} (ha : a.length = c.length) (i : Nat) : at_ (Root.times c a b) i = csum b (shifts c a c.length) i := by
  unfold Root.times
  rw [fold_csum (m := c.length) _ _ _ (shifts_mem _ a ha) (zeroIn_length _), at_zeroIn]
  grind
end Rr

end
section
set_option linter.all false
namespace Rr
open Root
theorem Like.trans {a b d : Rat} (h : Like a b) (k : Like b d) : Like a d := by unfold Like at *; grind
theorem Like.un {a b d : Rat} (h : Like a b) (k : Unlike b d) : Unlike a d := by unfold Like Unlike at *; grind
theorem Unlike.like {a b d : Rat} (h : Unlike a b) (k : Like b d) : Unlike a d := by unfold Like Unlike at *; grind
theorem Unlike.un {a b d : Rat} (h : Unlike a b) (k : Unlike b d) : Like a d := by unfold Like Unlike at *; grind
theorem Like.not {a b : Rat} (h : Like a b) (k : Unlike a b) : False := by unfold Like Unlike at *; grind
theorem ch_par {M : Rat} (hM : 0 ≤ M) {l : List (List Rat)} {p q : List Rat} (h : Ch (p :: q :: l)) (hd : ∀ x, polyAt q x = diffAt p x) (hz : ∀ x, polyAt p x ≠ 0) :
    ∀ x y, -M ≤ x → x ≤ y → y ≤ M → ((Like (polyAt p x) (polyAt p y) ∧ ∃ j, turns (p :: q :: l) x = turns (p :: q :: l) y + 2 * j) ∨ (Unlike (polyAt p x) (polyAt p y) ∧ ∃ j, turns (p :: q :: l) x = turns (p :: q :: l) y + 2 * j + 1)) ∧
      ∀ v, turns (p :: q :: l) y ≤ v → v ≤ turns (p :: q :: l) x → ∃ z, x ≤ z ∧ z ≤ y ∧ turns (p :: q :: l) z = v := by
  obtain ⟨h1, k1, s1⟩ := ch_keep hM (q :: l) p h
  obtain ⟨h2, k2, s2⟩ := ch_fall hM h hd
  obtain ⟨t, kt, t1, t2⟩ := min2 k1 k2
  have step : ∀ x y, -M ≤ x → x ≤ y → y ≤ M → y - x ≤ t → (Like (polyAt p x) (polyAt p y) ∧ turns (p :: q :: l) x = turns (p :: q :: l) y) ∨ (Unlike (polyAt p x) (polyAt p y) ∧ turns (p :: q :: l) x = turns (p :: q :: l) y + 1) := fun x y a b c d => by
    rcases like_or (hz x) (hz y) with e | e
    · exact .inl ⟨e, s1 x y a b c (Rat.le_trans d t1) e⟩
    · exact .inr ⟨e, s2 x y a b c (Rat.le_trans d t2) e⟩
  have fin : ∀ x y, -M ≤ x → x ≤ y → y ≤ M → y - x ≤ t → ((Like (polyAt p x) (polyAt p y) ∧ ∃ j, turns (p :: q :: l) x = turns (p :: q :: l) y + 2 * j) ∨ (Unlike (polyAt p x) (polyAt p y) ∧ ∃ j, turns (p :: q :: l) x = turns (p :: q :: l) y + 2 * j + 1)) ∧
      ∀ v, turns (p :: q :: l) y ≤ v → v ≤ turns (p :: q :: l) x → ∃ z, x ≤ z ∧ z ≤ y ∧ turns (p :: q :: l) z = v := fun x y a b c d => by
    rcases step x y a b c d with ⟨e1, e2⟩ | ⟨e1, e2⟩
    · exact ⟨.inl ⟨e1, 0, by lia⟩, fun v v1 v2 => ⟨x, Rat.le_refl, b, by lia⟩⟩
    · refine ⟨.inr ⟨e1, 0, by omega⟩, fun v v1 v2 => ?_⟩
      by_cases hv : v = turns (p :: q :: l) x
      · exact ⟨x, Rat.le_refl, b, hv.symm⟩
      · exact ⟨y, b, Rat.le_refl, by lia⟩
  have many : ∀ (n : Nat) (x y : Rat), -M ≤ x → x ≤ y → y ≤ M → y - x ≤ (n : Rat) * t → ((Like (polyAt p x) (polyAt p y) ∧ ∃ j, turns (p :: q :: l) x = turns (p :: q :: l) y + 2 * j) ∨ (Unlike (polyAt p x) (polyAt p y) ∧ ∃ j, turns (p :: q :: l) x = turns (p :: q :: l) y + 2 * j + 1)) ∧
      ∀ v, turns (p :: q :: l) y ≤ v → v ≤ turns (p :: q :: l) x → ∃ z, x ≤ z ∧ z ≤ y ∧ turns (p :: q :: l) z = v := by
    intro n
    induction n with
    | zero =>
      intro x y a b c d
      have e0 : ((0 : Nat) : Rat) = 0 := rfl
      rw [e0, Rat.zero_mul] at d
      exact fin x y a b c (by grind)
    | succ n ih =>
      intro x y a b c d
      rw [cast_succ] at d
      by_cases g : y - x ≤ t
      · exact fin x y a b c g
      · obtain ⟨i1, i2⟩ := ih (x + t) y (by grind) (by grind) c (by grind)
        obtain ⟨f1, f2⟩ := fin x (x + t) a (by grind) (by grind) (by grind)
        refine ⟨?_, fun v v1 v2 => ?_⟩
        · rcases f1 with ⟨e1, j1, e2⟩ | ⟨e1, j1, e2⟩ <;> rcases i1 with ⟨e3, j2, e4⟩ | ⟨e3, j2, e4⟩
          · exact .inl ⟨e1.trans e3, j1 + j2, by lia⟩
          · exact .inr ⟨e1.un e3, j1 + j2, by lia⟩
          · exact .inr ⟨e1.like e3, j1 + j2, by lia⟩
          · exact .inl ⟨e1.un e3, j1 + j2 + 1, by lia⟩
        · by_cases hv : v ≤ turns (p :: q :: l) (x + t)
          · obtain ⟨z, z1, z2, z3⟩ := i2 v v1 hv
            exact ⟨z, by grind, z2, z3⟩
          · obtain ⟨z, z1, z2, z3⟩ := f2 v (by lia) v2
            exact ⟨z, z1, by grind, z3⟩
  intro x y a b c
  obtain ⟨n, hn⟩ := arch (y - x) kt
  exact many n x y a b c hn
structure Fd (c : List Int) : Prop where
  ok : refusal c = 0
  two : 2 ≤ c.length
theorem Fd.four {c : List Int} (h : Fd c) : c.length ≤ 4 := (ok_field h.ok).2.1
theorem Fd.nz {c : List Int} (h : Fd c) (x : Rat) : polyAt (polyOf c) x ≠ 0 := no_root (by have := h.two; lia) (ne_of_len (by have := h.two; lia)) (is_field h.ok) x
noncomputable abbrev VV (c : List Int) (x : Rat) : Nat := turns (rowOf c) x
noncomputable abbrev ff (c : List Int) (x : Rat) : Rat := polyAt (polyOf c) x
theorem rat_abs (x y : Rat) : ∃ M : Rat, 0 ≤ M ∧ -M ≤ x ∧ y ≤ M := by
  obtain ⟨A, hA, a1, a2⟩ := bnum x
  obtain ⟨B, hB, b1, b2⟩ := bnum y
  exact ⟨A + B, by grind, by grind, by grind⟩
theorem Fd.par {c : List Int} (h : Fd c) {x y : Rat} (hxy : x ≤ y) : ((Like (ff c x) (ff c y) ∧ ∃ j, VV c x = VV c y + 2 * j) ∨ (Unlike (ff c x) (ff c y) ∧ ∃ j, VV c x = VV c y + 2 * j + 1)) ∧
    ∀ v, VV c y ≤ v → v ≤ VV c x → ∃ z, x ≤ z ∧ z ≤ y ∧ VV c z = v := by
  obtain ⟨l, e1, e2, _⟩ := row_go h.ok
  obtain ⟨M, hM, m1, m2⟩ := rat_abs x y
  have := ch_par hM e2 (fun x => derived_at _ x) h.nz x y m1 hxy m2
  unfold VV
  rw [e1]
  exact this
theorem Fd.mono {c : List Int} (h : Fd c) {x y : Rat} (hxy : x ≤ y) : VV c y ≤ VV c x := by
  rcases (h.par hxy).1 with ⟨_, j, e⟩ | ⟨_, j, e⟩ <;> lia
noncomputable def Lo (c : List Int) (k : Nat) (x : Rat) : Prop := VV c (-bound c) ≤ VV c x + k
theorem Fd.lo_lt {c : List Int} (h : Fd c) {k : Nat} {x y : Rat} (hx : Lo c k x) (hy : ¬ Lo c k y) : x < y := by
  rcases Rat.le_total (a := y) (b := x) with z | z
  · have := h.mono z
    unfold Lo at *
    lia
  · by_cases w : x = y
    · rw [w] at hx
      exact absurd hx hy
    · grind
structure Iso (c : List Int) (k : Nat) (x y : Rat) : Prop where
  lo : Lo c k x
  hi : ¬ Lo c k y
  one : VV c x = VV c y + 1
theorem Iso.lt {c : List Int} (h : Fd c) {k : Nat} {x y : Rat} (i : Iso c k x y) : x < y := h.lo_lt i.lo i.hi
theorem Iso.unlike {c : List Int} (h : Fd c) {k : Nat} {x y : Rat} (i : Iso c k x y) : Unlike (ff c x) (ff c y) := by
  have hl := i.lt h
  rcases (h.par (Rat.le_of_lt hl)).1 with ⟨_, j, e⟩ | ⟨e, _⟩
  · have := i.one
    lia
  · exact e
theorem Iso.half {c : List Int} (h : Fd c) {k : Nat} {x y m : Rat} (i : Iso c k x y) (h1 : x ≤ m) (h2 : m ≤ y) : (Like (ff c m) (ff c y) → Iso c k x m) ∧ (¬ Like (ff c m) (ff c y) → Iso c k m y) := by
  have m1 := h.mono h1
  have m2 := h.mono h2
  have hone := i.one
  have hlo := i.lo
  have hhi := i.hi
  unfold Lo at hlo hhi
  constructor
  · intro hl
    rcases (h.par h2).1 with ⟨_, j, e⟩ | ⟨e, _⟩
    · refine ⟨i.lo, ?_, by lia⟩
      unfold Lo
      lia
    · exact absurd e (fun z => hl.not z)
  · intro hl
    rcases (h.par h2).1 with ⟨e, _⟩ | ⟨_, j, e⟩
    · exact absurd e hl
    · refine ⟨?_, i.hi, by lia⟩
      unfold Lo
      lia
end Rr

end
section
set_option linter.all false
namespace Rr
open Root
noncomputable def d3 (x1 x2 x3 y1 y2 y3 z1 z2 z3 : Int) : Int := x1 * (y2 * z3 - y3 * z2) - x2 * (y1 * z3 - y3 * z1) + x3 * (y1 * z2 - y2 * z1)
theorem abs_mul_le {a b : Int} {X Y : Nat} (ha : a.natAbs ≤ X) (hb : b.natAbs ≤ Y) : (a * b).natAbs ≤ X * Y := by
  rw [Int.natAbs_mul]
  exact Nat.mul_le_mul ha hb
theorem d2_le {a b x y : Int} {X : Nat} (h1 : a.natAbs ≤ X) (h2 : b.natAbs ≤ X) (h3 : x.natAbs ≤ X) (h4 : y.natAbs ≤ X) : (a * b - x * y).natAbs ≤ 2 * (X * X) := by
  have := abs_mul_le h1 h2
  have := abs_mul_le h3 h4
  omega
theorem d3_le {x1 x2 x3 y1 y2 y3 z1 z2 z3 : Int} {X : Nat} (a1 : x1.natAbs ≤ X) (a2 : x2.natAbs ≤ X) (a3 : x3.natAbs ≤ X) (b1 : y1.natAbs ≤ X) (b2 : y2.natAbs ≤ X) (b3 : y3.natAbs ≤ X) (c1 : z1.natAbs ≤ X) (c2 : z2.natAbs ≤ X) (c3 : z3.natAbs ≤ X) : (d3 x1 x2 x3 y1 y2 y3 z1 z2 z3).natAbs ≤ 6 * (X * X * X) := by
  unfold d3
  have e1 := abs_mul_le a1 (d2_le b2 c3 b3 c2)
  have e2 := abs_mul_le a2 (d2_le b1 c3 b3 c1)
  have e3 := abs_mul_le a3 (d2_le b1 c2 b2 c1)
  have e : X * (2 * (X * X)) = 2 * (X * X * X) := by grind
  rw [e] at e1 e2 e3
  generalize X * X * X = T at *
  omega
theorem adj4 {a0 a1 a2 a3 b0 b1 b2 b3 e0 e1 e2 e3 g0 g1 g2 g3 : Int} {X : Nat}
    (inj : ∀ w0 w1 w2 w3 : Int, w0 * a0 + w1 * b0 + w2 * e0 + w3 * g0 = 0 → w0 * a1 + w1 * b1 + w2 * e1 + w3 * g1 = 0 → w0 * a2 + w1 * b2 + w2 * e2 + w3 * g2 = 0 → w0 * a3 + w1 * b3 + w2 * e3 + w3 * g3 = 0 → w0 = 0 ∧ w1 = 0 ∧ w2 = 0 ∧ w3 = 0)
    (ha : a0.natAbs ≤ X ∧ a1.natAbs ≤ X ∧ a2.natAbs ≤ X ∧ a3.natAbs ≤ X) (hb : b0.natAbs ≤ X ∧ b1.natAbs ≤ X ∧ b2.natAbs ≤ X ∧ b3.natAbs ≤ X) (he : e0.natAbs ≤ X ∧ e1.natAbs ≤ X ∧ e2.natAbs ≤ X ∧ e3.natAbs ≤ X) (hg : g0.natAbs ≤ X ∧ g1.natAbs ≤ X ∧ g2.natAbs ≤ X ∧ g3.natAbs ≤ X)
    (hnz : ¬ (a0 = 0 ∧ a1 = 0 ∧ a2 = 0 ∧ a3 = 0)) :
    ∃ u0 u1 u2 u3 D : Int, D ≠ 0 ∧ u0 * a0 + u1 * b0 + u2 * e0 + u3 * g0 = D ∧ u0 * a1 + u1 * b1 + u2 * e1 + u3 * g1 = 0 ∧ u0 * a2 + u1 * b2 + u2 * e2 + u3 * g2 = 0 ∧ u0 * a3 + u1 * b3 + u2 * e3 + u3 * g3 = 0 ∧
      u0.natAbs ≤ 6 * (X * X * X) ∧ u1.natAbs ≤ 6 * (X * X * X) ∧ u2.natAbs ≤ 6 * (X * X * X) ∧ u3.natAbs ≤ 6 * (X * X * X) := by
  obtain ⟨ha0, ha1, ha2, ha3⟩ := ha
  obtain ⟨hb0, hb1, hb2, hb3⟩ := hb
  obtain ⟨he0, he1, he2, he3⟩ := he
  obtain ⟨hg0, hg1, hg2, hg3⟩ := hg
  refine ⟨d3 b1 b2 b3 e1 e2 e3 g1 g2 g3, -d3 a1 a2 a3 e1 e2 e3 g1 g2 g3, d3 a1 a2 a3 b1 b2 b3 g1 g2 g3, -d3 a1 a2 a3 b1 b2 b3 e1 e2 e3, _, ?_, rfl, by unfold d3; grind, by unfold d3; grind, by unfold d3; grind, d3_le hb1 hb2 hb3 he1 he2 he3 hg1 hg2 hg3, by rw [Int.natAbs_neg]; exact d3_le ha1 ha2 ha3 he1 he2 he3 hg1 hg2 hg3, d3_le ha1 ha2 ha3 hb1 hb2 hb3 hg1 hg2 hg3, by rw [Int.natAbs_neg]; exact d3_le ha1 ha2 ha3 hb1 hb2 hb3 he1 he2 he3⟩
  intro hD
  have m0 := (inj (d3 b1 b2 b3 e1 e2 e3 g1 g2 g3) (-d3 a1 a2 a3 e1 e2 e3 g1 g2 g3) (d3 a1 a2 a3 b1 b2 b3 g1 g2 g3) (-d3 a1 a2 a3 b1 b2 b3 e1 e2 e3) hD (by unfold d3; grind) (by unfold d3; grind) (by unfold d3; grind)).2.2.2
  have m1 := (inj (d3 b0 b2 b3 e0 e2 e3 g0 g2 g3) (-d3 a0 a2 a3 e0 e2 e3 g0 g2 g3) (d3 a0 a2 a3 b0 b2 b3 g0 g2 g3) (-d3 a0 a2 a3 b0 b2 b3 e0 e2 e3) (by unfold d3; grind) (by unfold d3 at *; grind) (by unfold d3; grind) (by unfold d3; grind)).2.2.2
  have m2 := (inj (d3 b0 b1 b3 e0 e1 e3 g0 g1 g3) (-d3 a0 a1 a3 e0 e1 e3 g0 g1 g3) (d3 a0 a1 a3 b0 b1 b3 g0 g1 g3) (-d3 a0 a1 a3 b0 b1 b3 e0 e1 e3) (by unfold d3; grind) (by unfold d3; grind) (by unfold d3 at *; grind) (by unfold d3; grind)).2.2.2
  have m3 := (inj (d3 b0 b1 b2 e0 e1 e2 g0 g1 g2) (-d3 a0 a1 a2 e0 e1 e2 g0 g1 g2) (d3 a0 a1 a2 b0 b1 b2 g0 g1 g2) (-d3 a0 a1 a2 b0 b1 b2 e0 e1 e2) (by unfold d3; grind) (by unfold d3; grind) (by unfold d3; grind) (by unfold d3 at *; grind)).2.2.2
  clear hD ha0 ha1 ha2 ha3 hb0 hb1 hb2 hb3 he0 he1 he2 he3 hg0 hg1 hg2 hg3
  unfold d3 at m0 m1 m2 m3
  have n01 := (inj (b0 * e1 - b1 * e0) (-(a0 * e1 - a1 * e0)) (a0 * b1 - a1 * b0) 0 (by grind) (by grind) (by grind) (by grind)).2.2.1
  have n02 := (inj (b0 * e2 - b2 * e0) (-(a0 * e2 - a2 * e0)) (a0 * b2 - a2 * b0) 0 (by grind) (by grind) (by grind) (by grind)).2.2.1
  have n03 := (inj (b0 * e3 - b3 * e0) (-(a0 * e3 - a3 * e0)) (a0 * b3 - a3 * b0) 0 (by grind) (by grind) (by grind) (by grind)).2.2.1
  have n12 := (inj (b1 * e2 - b2 * e1) (-(a1 * e2 - a2 * e1)) (a1 * b2 - a2 * b1) 0 (by grind) (by grind) (by grind) (by grind)).2.2.1
  have n13 := (inj (b1 * e3 - b3 * e1) (-(a1 * e3 - a3 * e1)) (a1 * b3 - a3 * b1) 0 (by grind) (by grind) (by grind) (by grind)).2.2.1
  have n23 := (inj (b2 * e3 - b3 * e2) (-(a2 * e3 - a3 * e2)) (a2 * b3 - a3 * b2) 0 (by grind) (by grind) (by grind) (by grind)).2.2.1
  clear m0 m1 m2 m3
  have z0 := (inj b0 (-a0) 0 0 (by grind) (by grind) (by grind) (by grind)).2.1
  have z1 := (inj b1 (-a1) 0 0 (by grind) (by grind) (by grind) (by grind)).2.1
  have z2 := (inj b2 (-a2) 0 0 (by grind) (by grind) (by grind) (by grind)).2.1
  have z3 := (inj b3 (-a3) 0 0 (by grind) (by grind) (by grind) (by grind)).2.1
  exact hnz ⟨by omega, by omega, by omega, by omega⟩
theorem adj3 {a0 a1 a2 b0 b1 b2 e0 e1 e2 : Int} {X : Nat}
    (inj : ∀ w0 w1 w2 : Int, w0 * a0 + w1 * b0 + w2 * e0 = 0 → w0 * a1 + w1 * b1 + w2 * e1 = 0 → w0 * a2 + w1 * b2 + w2 * e2 = 0 → w0 = 0 ∧ w1 = 0 ∧ w2 = 0)
    (ha : a0.natAbs ≤ X ∧ a1.natAbs ≤ X ∧ a2.natAbs ≤ X) (hb : b0.natAbs ≤ X ∧ b1.natAbs ≤ X ∧ b2.natAbs ≤ X) (he : e0.natAbs ≤ X ∧ e1.natAbs ≤ X ∧ e2.natAbs ≤ X)
    (hnz : ¬ (a0 = 0 ∧ a1 = 0 ∧ a2 = 0)) :
    ∃ u0 u1 u2 D : Int, D ≠ 0 ∧ u0 * a0 + u1 * b0 + u2 * e0 = D ∧ u0 * a1 + u1 * b1 + u2 * e1 = 0 ∧ u0 * a2 + u1 * b2 + u2 * e2 = 0 ∧
      u0.natAbs ≤ 2 * (X * X) ∧ u1.natAbs ≤ 2 * (X * X) ∧ u2.natAbs ≤ 2 * (X * X) := by
  obtain ⟨ha0, ha1, ha2⟩ := ha
  obtain ⟨hb0, hb1, hb2⟩ := hb
  obtain ⟨he0, he1, he2⟩ := he
  refine ⟨b1 * e2 - b2 * e1, -(a1 * e2 - a2 * e1), a1 * b2 - a2 * b1, _, ?_, rfl, by grind, by grind, d2_le hb1 he2 hb2 he1, by rw [Int.natAbs_neg]; exact d2_le ha1 he2 ha2 he1, d2_le ha1 hb2 ha2 hb1⟩
  intro hD
  have n12 := (inj (b1 * e2 - b2 * e1) (-(a1 * e2 - a2 * e1)) (a1 * b2 - a2 * b1) hD (by grind) (by grind)).2.2
  have n02 := (inj (b0 * e2 - b2 * e0) (-(a0 * e2 - a2 * e0)) (a0 * b2 - a2 * b0) (by grind) (by grind) (by grind)).2.2
  have n01 := (inj (b0 * e1 - b1 * e0) (-(a0 * e1 - a1 * e0)) (a0 * b1 - a1 * b0) (by grind) (by grind) (by grind)).2.2
  clear hD
  have z0 := (inj b0 (-a0) 0 (by grind) (by grind) (by grind)).2.1
  have z1 := (inj b1 (-a1) 0 (by grind) (by grind) (by grind)).2.1
  have z2 := (inj b2 (-a2) 0 (by grind) (by grind) (by grind)).2.1
  exact hnz ⟨by lia, by lia, by lia⟩
theorem adj2 {a0 a1 b0 b1 : Int} {X : Nat} (inj : ∀ w0 w1 : Int, w0 * a0 + w1 * b0 = 0 → w0 * a1 + w1 * b1 = 0 → w0 = 0 ∧ w1 = 0)
    (ha : a0.natAbs ≤ X ∧ a1.natAbs ≤ X) (hb : b0.natAbs ≤ X ∧ b1.natAbs ≤ X) (hnz : ¬ (a0 = 0 ∧ a1 = 0)) :
    ∃ u0 u1 D : Int, D ≠ 0 ∧ u0 * a0 + u1 * b0 = D ∧ u0 * a1 + u1 * b1 = 0 ∧ u0.natAbs ≤ X ∧ u1.natAbs ≤ X := by
  refine ⟨b1, -a1, _, ?_, rfl, by grind, hb.2, by rw [Int.natAbs_neg]; exact ha.2⟩
  intro hD
  have z1 := (inj b1 (-a1) hD (by grind)).2
  have z0 := (inj b0 (-a0) (by grind) (by grind)).2
  exact hnz ⟨by lia, by lia⟩
end Rr

end
section
set_option linter.all false
namespace Rr
open Root
noncomputable def p2 (n : Nat) : Rat := (2 : Rat) ^ n
theorem p2_zero : p2 0 = 1 := Rat.pow_zero 2
theorem p2_succ (n : Nat) : p2 (n + 1) = p2 n + p2 n := by
  unfold p2
  rw [Rat.pow_succ]
  grind
theorem p2_step {m n : Nat} (h : m = n + 1) : p2 m = p2 n + p2 n := h ▸ p2_succ n
theorem p2_pos (n : Nat) : 0 < p2 n := by
  induction n with
  | zero => rw [p2_zero]; decide
  | succ n ih => rw [p2_succ]; grind
theorem p2_add (m n : Nat) : p2 (m + n) = p2 m * p2 n := by
  induction n with
  | zero => rw [Nat.add_zero, p2_zero]; grind
  | succ n ih => rw [← Nat.add_assoc, p2_succ, p2_succ, ih]; grind
theorem p2_mono {m n : Nat} (h : m ≤ n) : p2 m ≤ p2 n := by
  obtain ⟨k, rfl⟩ : ∃ k, n = m + k := ⟨n - m, by lia⟩
  rw [p2_add]
  have h1 : 1 ≤ p2 k := by
    induction k with
    | zero => rw [p2_zero]; exact Rat.le_refl
    | succ k ih =>
      have := ih (by lia)
      rw [p2_succ]
      grind
  have := Rat.mul_nonneg (Rat.le_of_lt (p2_pos m)) (show 0 ≤ p2 k - 1 by grind)
  grind
theorem p2_nat (n : Nat) : p2 n = ((2 ^ n : Nat) : Rat) := by
  unfold p2
  rw [Rat.natCast_pow]
  rfl
noncomputable def Few (s : Nat) (p : List Rat) : Prop := ∀ z ∈ p, -p2 s ≤ z ∧ z ≤ p2 s
theorem Few.tail {s : Nat} {a : Rat} {p : List Rat} (h : Few s (a :: p)) : Few s p := fun z hz => h z (by simp [hz])
theorem poly_bd2 {s : Nat} : ∀ p : List Rat, Few s p → Bd (p2 12) (polyAt p) (p2 (s + 13 * p.length))
  | [], _ => fun x _ _ => by
    rw [polyAt_nil]
    have := p2_pos (s + 13 * ([] : List Rat).length)
    constructor <;> grind
  | a :: p, h => fun x h1 h2 => by
    obtain ⟨k1, k2⟩ := poly_bd2 p h.tail x h1 h2
    obtain ⟨a1, a2⟩ := h a (by simp)
    obtain ⟨r1, r2⟩ := bmul k1 k2 h1 h2
    rw [← p2_add] at r1 r2
    rw [polyAt_cons, List.length_cons]
    have e : p2 (s + 13 * (p.length + 1)) = p2 (s + 13 * p.length + 12) + p2 (s + 13 * p.length + 12) := p2_step (by lia)
    rw [e]
    have := p2_mono (show s ≤ s + 13 * p.length + 12 by lia)
    generalize p2 (s + 13 * p.length + 12) = T at *
    generalize p2 s = S at *
    constructor <;> grind
theorem poly_lip2 {s : Nat} : ∀ p : List Rat, Few s p → Lip (p2 12) (polyAt p) (p2 (s + 14 * p.length))
  | [], _ => fun x y h1 h2 h3 => by
    rw [polyAt_nil, polyAt_nil]
    have := Rat.mul_nonneg (Rat.le_of_lt (p2_pos (s + 14 * ([] : List Rat).length))) (show 0 ≤ y - x by grind)
    constructor <;> grind
  | a :: p, h => fun x y h1 h2 h3 => by
    obtain ⟨q1, q2⟩ := poly_lip2 p h.tail x y h1 h2 h3
    obtain ⟨k1, k2⟩ := poly_bd2 p h.tail x h1 (by grind)
    obtain ⟨r1, r2⟩ := bmul q1 q2 (show -p2 12 ≤ y by grind) h3
    obtain ⟨s1, s2⟩ := bmul k1 k2 (show -(y - x) ≤ y - x by grind) (show y - x ≤ y - x by grind)
    rw [polyAt_cons, polyAt_cons, List.length_cons]
    have m1 := p2_mono (show s + 14 * p.length + 12 ≤ s + 14 * p.length + 13 by lia)
    have m2 := p2_mono (show s + 13 * p.length ≤ s + 14 * p.length + 12 by lia)
    have e : p2 (s + 14 * (p.length + 1)) = p2 (s + 14 * p.length + 13) + p2 (s + 14 * p.length + 13) := p2_step (by lia)
    have e2 : p2 (s + 14 * p.length + 13) = p2 (s + 14 * p.length + 12) + p2 (s + 14 * p.length + 12) := p2_step (by lia)
    have e3 : p2 (s + 14 * p.length) * (y - x) * p2 12 = p2 (s + 14 * p.length + 12) * (y - x) := by rw [p2_add (s + 14 * p.length) 12]; grind
    have hyx : 0 ≤ y - x := by grind
    have f1 := Rat.mul_nonneg (Rat.le_of_lt (p2_pos (s + 14 * p.length + 12))) hyx
    have f2 := Rat.mul_nonneg (show 0 ≤ p2 (s + 14 * p.length + 12) - p2 (s + 13 * p.length) by grind) hyx
    rw [e3] at r1 r2
    have e4 : p2 (s + 14 * (p.length + 1)) * (y - x) = 4 * (p2 (s + 14 * p.length + 12) * (y - x)) := by rw [e, e2]; grind
    rw [e4]
    have g1 : polyAt p y * y + a - (polyAt p x * x + a) = (polyAt p y - polyAt p x) * y + polyAt p x * (y - x) := by grind
    rw [g1]
    have g2 : (p2 (s + 14 * p.length + 12) - p2 (s + 13 * p.length)) * (y - x) = p2 (s + 14 * p.length + 12) * (y - x) - p2 (s + 13 * p.length) * (y - x) := by grind
    rw [g2] at f2
    generalize p2 (s + 14 * p.length + 12) * (y - x) = T at *
    generalize p2 (s + 13 * p.length) * (y - x) = S at *
    generalize (polyAt p y - polyAt p x) * y = A at *
    generalize polyAt p x * (y - x) = B at *
    constructor <;> grind
theorem taylor2 {s : Nat} : ∀ p : List Rat, Few s p → Bd (p2 12) (diffAt p) (p2 (s + 14 * p.length)) ∧ ∀ x y, -p2 12 ≤ x → x ≤ y → y ≤ p2 12 →
    -(p2 (s + 15 * p.length) * ((y - x) * (y - x))) ≤ polyAt p y - polyAt p x - (y - x) * diffAt p x ∧ polyAt p y - polyAt p x - (y - x) * diffAt p x ≤ p2 (s + 15 * p.length) * ((y - x) * (y - x))
  | [], _ => by
    refine ⟨fun x _ _ => ?_, fun x y _ h _ => ?_⟩
    · show -p2 _ ≤ (0 : Rat) ∧ (0 : Rat) ≤ p2 _
      have := p2_pos (s + 14 * ([] : List Rat).length)
      constructor <;> grind
    · rw [polyAt_nil, polyAt_nil]
      have := Rat.mul_nonneg (Rat.le_of_lt (p2_pos (s + 15 * ([] : List Rat).length))) (Rat.mul_nonneg (show 0 ≤ y - x by grind) (show 0 ≤ y - x by grind))
      show _ ≤ 0 - 0 - (y - x) * 0 ∧ 0 - 0 - (y - x) * 0 ≤ _
      constructor <;> grind
  | a :: p, h => by
    obtain ⟨hd, ht⟩ := taylor2 p h.tail
    have hk := poly_bd2 p h.tail
    refine ⟨fun x h1 h2 => ?_, fun x y h1 h2 h3 => ?_⟩
    · obtain ⟨q1, q2⟩ := hd x h1 h2
      obtain ⟨k1, k2⟩ := hk x h1 h2
      obtain ⟨r1, r2⟩ := bmul q1 q2 h1 h2
      rw [← p2_add] at r1 r2
      show -p2 _ ≤ diffAt p x * x + polyAt p x ∧ diffAt p x * x + polyAt p x ≤ p2 _
      rw [List.length_cons]
      have e : p2 (s + 14 * (p.length + 1)) = p2 (s + 14 * p.length + 13) + p2 (s + 14 * p.length + 13) := p2_step (by lia)
      have m1 := p2_mono (show s + 14 * p.length + 12 ≤ s + 14 * p.length + 13 by lia)
      have m2 := p2_mono (show s + 13 * p.length ≤ s + 14 * p.length + 13 by lia)
      rw [e]
      constructor <;> grind
    · obtain ⟨q1, q2⟩ := ht x y h1 h2 h3
      obtain ⟨d1, d2⟩ := hd x h1 (by grind)
      have sq : 0 ≤ (y - x) * (y - x) := Rat.mul_nonneg (by grind) (by grind)
      obtain ⟨r1, r2⟩ := bmul q1 q2 (show -p2 12 ≤ y by grind) h3
      obtain ⟨s1, s2⟩ := bmul d1 d2 (show -((y - x) * (y - x)) ≤ (y - x) * (y - x) by grind) (show (y - x) * (y - x) ≤ (y - x) * (y - x) by grind)
      have e3 : p2 (s + 15 * p.length) * ((y - x) * (y - x)) * p2 12 = p2 (s + 15 * p.length + 12) * ((y - x) * (y - x)) := by rw [p2_add (s + 15 * p.length) 12]; grind
      rw [e3] at r1 r2
      rw [polyAt_cons, polyAt_cons, List.length_cons]
      have e : polyAt p y * y + a - (polyAt p x * x + a) - (y - x) * (diffAt p x * x + polyAt p x) = (polyAt p y - polyAt p x - (y - x) * diffAt p x) * y + diffAt p x * ((y - x) * (y - x)) := by grind
      show _ ≤ polyAt p y * y + a - (polyAt p x * x + a) - (y - x) * (diffAt p x * x + polyAt p x) ∧ polyAt p y * y + a - (polyAt p x * x + a) - (y - x) * (diffAt p x * x + polyAt p x) ≤ _
      rw [e]
      have f2 := Rat.mul_nonneg (show 0 ≤ p2 (s + 15 * p.length + 12) - p2 (s + 14 * p.length) by have := p2_mono (show s + 14 * p.length ≤ s + 15 * p.length + 12 by lia); grind) sq
      have f1 := Rat.mul_nonneg (Rat.le_of_lt (p2_pos (s + 15 * p.length + 12))) sq
      have e1 : p2 (s + 15 * (p.length + 1)) = p2 (s + 15 * p.length + 14) + p2 (s + 15 * p.length + 14) := p2_step (by lia)
      have e2 : p2 (s + 15 * p.length + 14) = p2 (s + 15 * p.length + 13) + p2 (s + 15 * p.length + 13) := p2_step (by lia)
      have e4 : p2 (s + 15 * p.length + 13) = p2 (s + 15 * p.length + 12) + p2 (s + 15 * p.length + 12) := p2_step (by lia)
      have e5 : p2 (s + 15 * (p.length + 1)) * ((y - x) * (y - x)) = 8 * (p2 (s + 15 * p.length + 12) * ((y - x) * (y - x))) := by rw [e1, e2, e4]; grind
      rw [e5]
      have g2 : (p2 (s + 15 * p.length + 12) - p2 (s + 14 * p.length)) * ((y - x) * (y - x)) = p2 (s + 15 * p.length + 12) * ((y - x) * (y - x)) - p2 (s + 14 * p.length) * ((y - x) * (y - x)) := by grind
      rw [g2] at f2
      generalize p2 (s + 15 * p.length + 12) * ((y - x) * (y - x)) = T at *
      generalize p2 (s + 14 * p.length) * ((y - x) * (y - x)) = S at *
      generalize (polyAt p y - polyAt p x - (y - x) * diffAt p x) * y = A at *
      generalize diffAt p x * ((y - x) * (y - x)) = B at *
      constructor <;> grind
noncomputable def rI (l : List Int) : List Rat := l.map fun (z : Int) => (z : Rat)
theorem rI_length (l : List Int) : (rI l).length = l.length := by unfold rI; rw [List.length_map]
theorem few_rI {s : Nat} {l : List Int} (h : ∀ z ∈ l, z.natAbs ≤ 2 ^ s) : Few s (rI l) := fun z hz => by
  unfold rI at hz
  obtain ⟨y, hy, rfl⟩ := List.mem_map.mp hz
  have := h y hy
  rw [p2_nat, ← Rat.intCast_natCast]
  constructor
  · rw [← Rat.intCast_neg, Rat.intCast_le_intCast]
    lia
  · rw [Rat.intCast_le_intCast]
    lia
noncomputable def tXI (c a : List Int) : List Int := List.zipWith (fun (u v : Int) => u - a.getLastD 0 * v) (0 :: a.dropLast) c
theorem tXI_length {c a : List Int} (h : a.length = c.length) (h1 : 1 ≤ c.length) : (tXI c a).length = c.length := by
  unfold tXI
  rw [List.length_zipWith, List.length_cons, List.length_dropLast]
  lia
theorem zipWith_rI (h : Int) : ∀ (u v : List Int), List.zipWith (fun (a b : Rat) => a - (h : Rat) * b) (rI u) (rI v) = rI (List.zipWith (fun (a b : Int) => a - h * b) u v)
  | [], _ => by unfold rI; simp
  | _ :: _, [] => by unfold rI; simp
  | a :: u, b :: v => by
    have ih := zipWith_rI h u v
    unfold rI at *
    rw [List.map_cons, List.map_cons, List.zipWith_cons_cons, List.zipWith_cons_cons, List.map_cons, ih]
    congr 1
    rw [Rat.intCast_sub, Rat.intCast_mul]
theorem timesX_rI {c a : List Int} (h : a.length = c.length) (h1 : 1 ≤ c.length) : timesX c (rI a) = rI (tXI c a) := by
  obtain ⟨n, z, rfl⟩ := snoc_of (show a ≠ [] from ne_of_len (by lia))
  have e : rI (n ++ [z]) = rI n ++ [(z : Rat)] := by unfold rI; rw [List.map_append]; rfl
  rw [e, timesX_eq (by rw [rI_length, ← h, List.length_append]; rfl)]
  have e2 : (0 : Rat) :: rI n = rI (0 :: n) := by unfold rI; rw [List.map_cons, Rat.intCast_zero]
  rw [e2]
  have e3 := zipWith_rI z (0 :: n) c
  unfold tXI
  rw [List.dropLast_concat, show (n ++ [z]).getLastD 0 = z by simp]
  exact e3
theorem tXI_few {c a : List Int} {X : Nat} (hc : ∀ z ∈ c, z.natAbs ≤ 1000) (ha : ∀ z ∈ a, z.natAbs ≤ X) : ∀ z ∈ tXI c a, z.natAbs ≤ 1001 * X := by
  intro z hz
  unfold tXI at hz
  obtain ⟨x, hx, y, hy, rfl⟩ := mem_zw hz
  have hl : (a.getLastD 0).natAbs ≤ X := by
    by_cases hne : a = []
    · rw [hne]; simp
    · obtain ⟨m, t, rfl⟩ := snoc_of hne
      rw [show (m ++ [t]).getLastD 0 = t by simp]
      exact ha t (by simp)
  have h1 := abs_mul_le hl (hc y hy)
  have h2 : x.natAbs ≤ X := by
    rcases List.mem_cons.mp hx with rfl | hx
    · simp
    · exact ha x (List.dropLast_subset _ hx)
  omega
where
  mem_zw {α β γ : Type} {f : α → β → γ} {z : γ} : ∀ {l : List α} {m : List β}, z ∈ List.zipWith f l m → ∃ x ∈ l, ∃ y ∈ m, z = f x y
  | [], _, h => by simp at h
  | _ :: _, [], h => by simp at h
  | a :: l, b :: m, h => by
    rw [List.zipWith_cons_cons] at h
    rcases List.mem_cons.mp h with h | h
    · exact ⟨a, by simp, b, by simp, h⟩
    · obtain ⟨x, hx, y, hy, e⟩ := mem_zw h
      exact ⟨x, by simp [hx], y, by simp [hy], e⟩
end Rr

end
section
set_option linter.all false
namespace Rr
open Root
theorem fold_bd {c : List Int} (hc : 1 ≤ c.length) {X : Rat} (hX : 0 ≤ X) {s0 : Nat} : ∀ (b : List Rat) (a s : Num), a.length = c.length → s.length = c.length → Few s0 b → b.length ≤ 4 → (∀ v ∈ shifts c a b.length, -X ≤ v.getLastD 0 ∧ v.getLastD 0 ≤ X) →
    ∃ Q : List Rat, (∀ x, polyAt (((shifts c a b.length).zip b).foldl (fun (s : Num) (x : Num × Rat) => Root.plus s (scaled x.2 x.1)) s) x - (polyAt s x + polyAt a x * polyAt b x) = polyAt Q x * polyAt (polyOf c) x) ∧ Bd (p2 12) (polyAt Q) ((b.length : Rat) * (X * p2 (s0 + 52)))
  | [], a, s, ha, hs, _, _, _ => by
    refine ⟨[], fun x => ?_, fun x _ _ => ?_⟩
    · show polyAt s x - (polyAt s x + polyAt a x * 0) = 0 * _
      grind
    · rw [polyAt_nil]
      show -(0 * _) ≤ (0 : Rat) ∧ (0 : Rat) ≤ 0 * _
      constructor <;> grind
  | t :: b, a, s, ha, hs, hf, hl, hv => by
    have e : ((shifts c a (t :: b).length).zip (t :: b)).foldl (fun (s : Num) (x : Num × Rat) => Root.plus s (scaled x.2 x.1)) s = ((shifts c (timesX c a) b.length).zip b).foldl (fun (s : Num) (x : Num × Rat) => Root.plus s (scaled x.2 x.1)) (Root.plus s (scaled t a)) := rfl
    rw [e]
    have hsl : s.length = (scaled t a).length := by rw [scaled_length]; lia
    rw [List.length_cons] at hl
    have hv' : ∀ v ∈ a :: shifts c (timesX c a) b.length, -X ≤ v.getLastD 0 ∧ v.getLastD 0 ≤ X := hv
    obtain ⟨Q, h1, h2⟩ := fold_bd hc hX b (timesX c a) (Root.plus s (scaled t a)) (timesX_length c a) (by rw [plus_length, scaled_length]; lia) hf.tail (by lia) (fun v hv2 => hv' v (by simp [hv2]))
    refine ⟨addP Q (mulC (-a.getLastD 0) b), fun x => ?_, fun x x1 x2 => ?_⟩
    · have h3 := h1 x
      rw [plus_at x _ _ hsl, scaled_at, timesX_at hc ha] at h3
      rw [addP_at, mulC_at, polyAt_cons]
      generalize polyAt (((shifts c (timesX c a) b.length).zip b).foldl (fun (s : Num) (x : Num × Rat) => Root.plus s (scaled x.2 x.1)) (Root.plus s (scaled t a))) x = F at *
      clear h1 h2 hv hv' e hsl
      grind
    · obtain ⟨q1, q2⟩ := h2 x x1 x2
      obtain ⟨k1, k2⟩ := poly_bd2 b hf.tail x x1 x2
      have km := p2_mono (show s0 + 13 * b.length ≤ s0 + 52 by lia)
      obtain ⟨l1, l2⟩ := hv' a (by simp)
      obtain ⟨r1, r2⟩ := bmul (a := -a.getLastD 0) (K := X) (by grind) (by grind) (show -p2 (s0 + 52) ≤ polyAt b x by grind) (show polyAt b x ≤ p2 (s0 + 52) by grind)
      rw [addP_at, mulC_at, List.length_cons, cast_succ]
      generalize (b.length : Rat) * (X * p2 (s0 + 52)) = T at *
      generalize X * p2 (s0 + 52) = S at *
      constructor <;> grind
theorem shifts_rI {c : List Int} (h1 : 1 ≤ c.length) : ∀ (n : Nat) (a : List Int), a.length = c.length → ∃ l : List (List Int), shifts c (rI a) n = l.map rI ∧ l.length = n ∧ ∀ X : Nat, (∀ z ∈ c, z.natAbs ≤ 1000) → (∀ z ∈ a, z.natAbs ≤ X) → ∀ v ∈ l, v.length = c.length ∧ ∀ z ∈ v, z.natAbs ≤ 1001 ^ (n - 1) * X
  | 0, a, _ => ⟨[], rfl, rfl, fun _ _ _ v hv => absurd hv (by simp)⟩
  | n + 1, a, ha => by
    obtain ⟨l, e1, e2, e3⟩ := shifts_rI h1 n (tXI c a) (tXI_length ha h1)
    refine ⟨a :: l, ?_, by rw [List.length_cons, e2], fun X hc hX v hv => ?_⟩
    · show rI a :: shifts c (timesX c (rI a)) n = _
      rw [timesX_rI ha h1, e1, List.map_cons]
    · rcases List.mem_cons.mp hv with rfl | hv
      · refine ⟨ha, fun z hz => Nat.le_trans (hX z hz) ?_⟩
        show X ≤ 1001 ^ n * X
        exact Nat.le_mul_of_pos_left _ (Nat.pow_pos (by decide))
      · obtain ⟨f1, f2⟩ := e3 (1001 * X) hc (tXI_few hc hX) v hv
        refine ⟨f1, fun z hz => Nat.le_trans (f2 z hz) ?_⟩
        show 1001 ^ (n - 1) * (1001 * X) ≤ 1001 ^ n * X
        cases n with
        | zero => simp at e2; rw [e2] at hv; exact absurd hv (by simp)
        | succ n => rw [Nat.add_sub_cancel, Nat.pow_succ, Nat.mul_assoc]; exact Nat.le_refl _
theorem rI_zero {w : List Int} (h : ∀ z ∈ rI w, z = 0) : ∀ z ∈ w, z = 0 := fun z hz => Rat.intCast_eq_zero_iff.mp (h (z : Rat) (List.mem_map.mpr ⟨z, hz, rfl⟩))
theorem inj_rows {c : List Int} (h : refusal c = 0) {a : Num} (ha : a.length = c.length) (h0 : isZero a = false) {w : List Rat} (hw : w.length = c.length) (e : ∀ i, i < c.length → csum w (shifts c a c.length) i = 0) : ∀ z ∈ w, z = 0 := by
  obtain ⟨l1, _, _⟩ := ok_field h
  have ht : Root.times c a w = zeroIn c.length := num_ext (by rw [times_length l1 ha hw, zeroIn_length]) fun i => by
    rw [at_zeroIn]
    by_cases hi : i < c.length
    · rw [times_csum ha, e i hi]
    · exact at_out (by rw [times_length l1 ha hw]; lia)
  have hcg := times_cg l1 ha hw
  rw [ht] at hcg
  have hz : w = zeroIn c.length := cancel h ha h0 hw (zeroIn_length _) (hcg.symm.trans (Cg.of_eq fun x => by rw [zeroIn_at]; grind))
  intro z hz'
  rw [hz] at hz'
  exact (List.mem_replicate.mp hz').2
theorem cast4 (u0 u1 u2 u3 a b e g : Int) : (u0 : Rat) * (a : Rat) + ((u1 : Rat) * (b : Rat) + ((u2 : Rat) * (e : Rat) + ((u3 : Rat) * (g : Rat) + 0))) = ((u0 * a + u1 * b + u2 * e + u3 * g : Int) : Rat) := by
  rw [Rat.intCast_add, Rat.intCast_add, Rat.intCast_add, Rat.intCast_mul, Rat.intCast_mul, Rat.intCast_mul, Rat.intCast_mul]
  grind
theorem cast3 (u0 u1 u2 a b e : Int) : (u0 : Rat) * (a : Rat) + ((u1 : Rat) * (b : Rat) + ((u2 : Rat) * (e : Rat) + 0)) = ((u0 * a + u1 * b + u2 * e : Int) : Rat) := by
  rw [Rat.intCast_add, Rat.intCast_add, Rat.intCast_mul, Rat.intCast_mul, Rat.intCast_mul]
  grind
theorem cast2 (u0 u1 a b : Int) : (u0 : Rat) * (a : Rat) + ((u1 : Rat) * (b : Rat) + 0) = ((u0 * a + u1 * b : Int) : Rat) := by
  rw [Rat.intCast_add, Rat.intCast_mul, Rat.intCast_mul]
  grind
theorem of_two {α : Type} {l : List α} (h : l.length = 2) : ∃ a b, l = [a, b] := match l, h with | [a, b], _ => ⟨a, b, rfl⟩
theorem of_three {α : Type} {l : List α} (h : l.length = 3) : ∃ a b c, l = [a, b, c] := match l, h with | [a, b, c], _ => ⟨a, b, c, rfl⟩
theorem of_four {α : Type} {l : List α} (h : l.length = 4) : ∃ a b c d, l = [a, b, c, d] := match l, h with | [a, b, c, d], _ => ⟨a, b, c, d, rfl⟩
theorem below2 {i : Nat} (h : i < 2) : i = 0 ∨ i = 1 := by lia
theorem below3 {i : Nat} (h : i < 3) : i = 0 ∨ i = 1 ∨ i = 2 := by lia
theorem below4 {i : Nat} (h : i < 4) : i = 0 ∨ i = 1 ∨ i = 2 ∨ i = 3 := by lia
theorem whole_row {c : List Int} (h : Fd c) {A : List Int} (hA : A.length = c.length) (hnz : ∃ z ∈ A, z ≠ 0) {X : Nat} (hX : 1 ≤ X) (hb : ∀ z ∈ A, z.natAbs ≤ X) :
    ∃ (U : List Int) (D : Int), U.length = c.length ∧ D ≠ 0 ∧ (∀ z ∈ U, z.natAbs ≤ 6 * (1001 ^ 3 * X * (1001 ^ 3 * X) * (1001 ^ 3 * X))) ∧ ∀ i, csum (rI U) (shifts c (rI A) c.length) i = at_ (rI (D :: List.replicate (c.length - 1) 0)) i := by
  obtain ⟨l1, l4, lc⟩ := ok_field h.ok
  have l2 := h.two
  have h0 : isZero (rI A) = false := by
    cases hz : isZero (rI A) with
    | false => rfl
    | true =>
      obtain ⟨z, hz1, hz2⟩ := hnz
      unfold isZero at hz
      rw [List.all_eq_true] at hz
      have := rI_zero (w := A) (fun y hy => by simpa using hz y hy) z hz1
      exact absurd this hz2
  have hAl : (rI A).length = c.length := by rw [rI_length]; exact hA
  obtain ⟨l, e1, e2, e3⟩ := shifts_rI l1 c.length A hA
  have e4 := e3 X lc hb
  have hinj := fun (w : List Int) (hw : w.length = c.length) (e : ∀ i, i < c.length → csum (rI w) (shifts c (rI A) c.length) i = 0) => rI_zero (inj_rows h.ok hAl h0 (by rw [rI_length]; exact hw) e)
  have Y1 : 1001 ^ (c.length - 1) * X ≤ 1001 ^ 3 * X := Nat.mul_le_mul_right _ (Nat.pow_le_pow_right (by decide) (by lia))
  have e5 : ∀ v ∈ l, v.length = c.length ∧ ∀ z ∈ v, z.natAbs ≤ 1001 ^ 3 * X := fun v hv => ⟨(e4 v hv).1, fun z hz => Nat.le_trans ((e4 v hv).2 z hz) Y1⟩
  clear e4 e3 Y1
  have hY : 1 ≤ 1001 ^ 3 * X := Nat.le_trans hX (Nat.le_mul_of_pos_left _ (by decide))
  generalize 1001 ^ 3 * X = Y at *
  have hY2 : Y ≤ Y * Y := Nat.le_mul_of_pos_left _ hY
  have hY3 : Y * Y ≤ Y * Y * Y := Nat.le_mul_of_pos_right _ hY
  have hfirst : l.head? = some A := by
    cases l with
    | nil => simp at e2; lia
    | cons v l =>
      obtain ⟨n, hn⟩ : ∃ n, c.length = n + 1 := ⟨c.length - 1, by lia⟩
      rw [hn] at e1
      have e6 : rI A :: shifts c (timesX c (rI A)) n = rI v :: l.map rI := e1
      have e7 := (List.cons.inj e6).1
      have : A = v := by
        have hinj2 : ∀ (p q : List Int), rI p = rI q → p = q := fun p q hpq => by
          unfold rI at hpq
          exact (List.map_inj_right (fun a b hab => Rat.intCast_inj.mp hab)).mp hpq
        exact hinj2 _ _ e7
      rw [this]
      rfl
  rw [e1] at hinj ⊢
  have hd : c.length = 2 ∨ c.length = 3 ∨ c.length = 4 := by lia
  rcases hd with hd | hd | hd
  · rw [hd] at e2 hinj e5 hA ⊢
    obtain ⟨a, b, rfl⟩ := of_two e2
    · have : a = A := by simpa using hfirst
      subst this
      obtain ⟨ha1, ha2⟩ := e5 a (by simp)
      obtain ⟨hb1, hb2⟩ := e5 b (by simp)
      obtain ⟨a0, a1, rfl⟩ := of_two ha1
      obtain ⟨b0, b1, rfl⟩ := of_two hb1
      · obtain ⟨u0, u1, D, q1, q2, q3, q4, q5⟩ := adj2 (a0 := a0) (a1 := a1) (b0 := b0) (b1 := b1) (X := Y) (fun w0 w1 z0 z1 => by
          have := hinj [w0, w1] rfl (fun i hi => by
            rcases below2 hi with rfl | rfl
            · show (w0 : Rat) * (a0 : Rat) + ((w1 : Rat) * (b0 : Rat) + 0) = 0; rw [cast2, z0]; rfl
            · show (w0 : Rat) * (a1 : Rat) + ((w1 : Rat) * (b1 : Rat) + 0) = 0; rw [cast2, z1]; rfl)
          exact ⟨this w0 (by simp), this w1 (by simp)⟩) ⟨ha2 a0 (by simp), ha2 a1 (by simp)⟩ ⟨hb2 b0 (by simp), hb2 b1 (by simp)⟩ (fun z => by
          obtain ⟨y, hy1, hy2⟩ := hnz
          have : y = a0 ∨ y = a1 := by simpa using hy1
          lia)
        refine ⟨[u0, u1], D, rfl, q1, fun z hz => ?_, fun i => ?_⟩
        · have : z = u0 ∨ z = u1 := by simpa using hz
          rcases this with rfl | rfl <;> lia
        · match i with
          | 0 => show (u0 : Rat) * (a0 : Rat) + ((u1 : Rat) * (b0 : Rat) + 0) = (D : Rat); rw [cast2, q2]
          | 1 => show (u0 : Rat) * (a1 : Rat) + ((u1 : Rat) * (b1 : Rat) + 0) = ((0 : Int) : Rat); rw [cast2, q3]
          | i + 2 =>
            show (u0 : Rat) * 0 + ((u1 : Rat) * 0 + 0) = 0
            grind
  · rw [hd] at e2 hinj e5 hA ⊢
    obtain ⟨a, b, e, rfl⟩ := of_three e2
    · have : a = A := by simpa using hfirst
      subst this
      obtain ⟨ha1, ha2⟩ := e5 a (by simp)
      obtain ⟨hb1, hb2⟩ := e5 b (by simp)
      obtain ⟨he1, he2⟩ := e5 e (by simp)
      obtain ⟨a0, a1, a2, rfl⟩ := of_three ha1
      obtain ⟨b0, b1, b2, rfl⟩ := of_three hb1
      obtain ⟨f0, f1, f2, rfl⟩ := of_three he1
      · obtain ⟨u0, u1, u2, D, q1, q2, q3, q4, q5, q6, q7⟩ := adj3 (a0 := a0) (a1 := a1) (a2 := a2) (b0 := b0) (b1 := b1) (b2 := b2) (e0 := f0) (e1 := f1) (e2 := f2) (X := Y) (fun w0 w1 w2 z0 z1 z2 => by
          have := hinj [w0, w1, w2] rfl (fun i hi => by
            rcases below3 hi with rfl | rfl | rfl
            · show (w0 : Rat) * (a0 : Rat) + ((w1 : Rat) * (b0 : Rat) + ((w2 : Rat) * (f0 : Rat) + 0)) = 0; rw [cast3, z0]; rfl
            · show (w0 : Rat) * (a1 : Rat) + ((w1 : Rat) * (b1 : Rat) + ((w2 : Rat) * (f1 : Rat) + 0)) = 0; rw [cast3, z1]; rfl
            · show (w0 : Rat) * (a2 : Rat) + ((w1 : Rat) * (b2 : Rat) + ((w2 : Rat) * (f2 : Rat) + 0)) = 0; rw [cast3, z2]; rfl)
          exact ⟨this w0 (by simp), this w1 (by simp), this w2 (by simp)⟩) ⟨ha2 a0 (by simp), ha2 a1 (by simp), ha2 a2 (by simp)⟩ ⟨hb2 b0 (by simp), hb2 b1 (by simp), hb2 b2 (by simp)⟩ ⟨he2 f0 (by simp), he2 f1 (by simp), he2 f2 (by simp)⟩ (fun z => by
          obtain ⟨y, hy1, hy2⟩ := hnz
          have : y = a0 ∨ y = a1 ∨ y = a2 := by simpa using hy1
          lia)
        refine ⟨[u0, u1, u2], D, rfl, q1, fun z hz => ?_, fun i => ?_⟩
        · have : z = u0 ∨ z = u1 ∨ z = u2 := by simpa using hz
          rcases this with rfl | rfl | rfl <;> lia
        · match i with
          | 0 => show (u0 : Rat) * (a0 : Rat) + ((u1 : Rat) * (b0 : Rat) + ((u2 : Rat) * (f0 : Rat) + 0)) = (D : Rat); rw [cast3, q2]
          | 1 => show (u0 : Rat) * (a1 : Rat) + ((u1 : Rat) * (b1 : Rat) + ((u2 : Rat) * (f1 : Rat) + 0)) = ((0 : Int) : Rat); rw [cast3, q3]
          | 2 => show (u0 : Rat) * (a2 : Rat) + ((u1 : Rat) * (b2 : Rat) + ((u2 : Rat) * (f2 : Rat) + 0)) = ((0 : Int) : Rat); rw [cast3, q4]
          | i + 3 =>
            show (u0 : Rat) * 0 + ((u1 : Rat) * 0 + ((u2 : Rat) * 0 + 0)) = 0
            grind
  · rw [hd] at e2 hinj e5 hA ⊢
    obtain ⟨a, b, e, g, rfl⟩ := of_four e2
    · have : a = A := by simpa using hfirst
      subst this
      obtain ⟨ha1, ha2⟩ := e5 a (by simp)
      obtain ⟨hb1, hb2⟩ := e5 b (by simp)
      obtain ⟨he1, he2⟩ := e5 e (by simp)
      obtain ⟨hg1, hg2⟩ := e5 g (by simp)
      obtain ⟨a0, a1, a2, a3, rfl⟩ := of_four ha1
      obtain ⟨b0, b1, b2, b3, rfl⟩ := of_four hb1
      obtain ⟨f0, f1, f2, f3, rfl⟩ := of_four he1
      obtain ⟨g0, g1, g2, g3, rfl⟩ := of_four hg1
      · obtain ⟨u0, u1, u2, u3, D, q1, q2, q3, q4, q5, q6, q7, q8, q9⟩ := adj4 (a0 := a0) (a1 := a1) (a2 := a2) (a3 := a3) (b0 := b0) (b1 := b1) (b2 := b2) (b3 := b3) (e0 := f0) (e1 := f1) (e2 := f2) (e3 := f3) (g0 := g0) (g1 := g1) (g2 := g2) (g3 := g3) (X := Y) (fun w0 w1 w2 w3 z0 z1 z2 z3 => by
          have := hinj [w0, w1, w2, w3] rfl (fun i hi => by
            rcases below4 hi with rfl | rfl | rfl | rfl
            · show (w0 : Rat) * (a0 : Rat) + ((w1 : Rat) * (b0 : Rat) + ((w2 : Rat) * (f0 : Rat) + ((w3 : Rat) * (g0 : Rat) + 0))) = 0; rw [cast4, z0]; rfl
            · show (w0 : Rat) * (a1 : Rat) + ((w1 : Rat) * (b1 : Rat) + ((w2 : Rat) * (f1 : Rat) + ((w3 : Rat) * (g1 : Rat) + 0))) = 0; rw [cast4, z1]; rfl
            · show (w0 : Rat) * (a2 : Rat) + ((w1 : Rat) * (b2 : Rat) + ((w2 : Rat) * (f2 : Rat) + ((w3 : Rat) * (g2 : Rat) + 0))) = 0; rw [cast4, z2]; rfl
            · show (w0 : Rat) * (a3 : Rat) + ((w1 : Rat) * (b3 : Rat) + ((w2 : Rat) * (f3 : Rat) + ((w3 : Rat) * (g3 : Rat) + 0))) = 0; rw [cast4, z3]; rfl)
          exact ⟨this w0 (by simp), this w1 (by simp), this w2 (by simp), this w3 (by simp)⟩) ⟨ha2 a0 (by simp), ha2 a1 (by simp), ha2 a2 (by simp), ha2 a3 (by simp)⟩ ⟨hb2 b0 (by simp), hb2 b1 (by simp), hb2 b2 (by simp), hb2 b3 (by simp)⟩ ⟨he2 f0 (by simp), he2 f1 (by simp), he2 f2 (by simp), he2 f3 (by simp)⟩ ⟨hg2 g0 (by simp), hg2 g1 (by simp), hg2 g2 (by simp), hg2 g3 (by simp)⟩ (fun z => by
          obtain ⟨y, hy1, hy2⟩ := hnz
          have : y = a0 ∨ y = a1 ∨ y = a2 ∨ y = a3 := by simpa using hy1
          lia)
        refine ⟨[u0, u1, u2, u3], D, rfl, q1, fun z hz => ?_, fun i => ?_⟩
        · have : z = u0 ∨ z = u1 ∨ z = u2 ∨ z = u3 := by simpa using hz
          rcases this with rfl | rfl | rfl | rfl <;> assumption
        · match i with
          | 0 => show (u0 : Rat) * (a0 : Rat) + ((u1 : Rat) * (b0 : Rat) + ((u2 : Rat) * (f0 : Rat) + ((u3 : Rat) * (g0 : Rat) + 0))) = (D : Rat); rw [cast4, q2]
          | 1 => show (u0 : Rat) * (a1 : Rat) + ((u1 : Rat) * (b1 : Rat) + ((u2 : Rat) * (f1 : Rat) + ((u3 : Rat) * (g1 : Rat) + 0))) = ((0 : Int) : Rat); rw [cast4, q3]
          | 2 => show (u0 : Rat) * (a2 : Rat) + ((u1 : Rat) * (b2 : Rat) + ((u2 : Rat) * (f2 : Rat) + ((u3 : Rat) * (g2 : Rat) + 0))) = ((0 : Int) : Rat); rw [cast4, q4]
          | 3 => show (u0 : Rat) * (a3 : Rat) + ((u1 : Rat) * (b3 : Rat) + ((u2 : Rat) * (f3 : Rat) + ((u3 : Rat) * (g3 : Rat) + 0))) = ((0 : Int) : Rat); rw [cast4, q5]
          | i + 4 =>
            show (u0 : Rat) * 0 + ((u1 : Rat) * 0 + ((u2 : Rat) * 0 + ((u3 : Rat) * 0 + 0))) = 0
            grind
end Rr

end
section
set_option linter.all false
namespace Rr
open Root
theorem pow1001 (s : Nat) : 1001 ^ 3 * 2 ^ s ≤ 2 ^ (s + 30) := by
  rw [Nat.add_comm, Nat.pow_add]
  exact Nat.mul_le_mul_right _ (by decide)
theorem rI_single (D : Int) (n : Nat) (x : Rat) : polyAt (rI (D :: List.replicate n 0)) x = (D : Rat) := by
  have e : rI (D :: List.replicate n 0) = (D : Rat) :: List.replicate n 0 := by
    unfold rI
    rw [List.map_cons, List.map_replicate, Rat.intCast_zero]
  rw [e, polyAt_cons, polyAt_zeros]
  grind
theorem whole_inv {c : List Int} (h : Fd c) {A : List Int} (hA : A.length = c.length) (hnz : ∃ z ∈ A, z ≠ 0) {s : Nat} (hb : ∀ z ∈ A, z.natAbs ≤ 2 ^ s) :
    ∃ (U W : List Rat) (D : Rat), (1 ≤ D ∨ D ≤ -1) ∧ (∀ x, polyAt U x * polyAt (rI A) x - D = polyAt W x * ff c x) ∧ Bd (p2 12) (polyAt U) (p2 (3 * s + 150)) ∧ Bd (p2 12) (polyAt W) (p2 (4 * s + 190)) := by
  obtain ⟨l1, l4, lc⟩ := ok_field h.ok
  have l2 := h.two
  obtain ⟨U, D, u1, u2, u3, u4⟩ := whole_row h hA hnz (X := 2 ^ s) (Nat.pow_pos (by decide)) hb
  have hAl : (rI A).length = c.length := by rw [rI_length]; exact hA
  have hUl : (rI U).length = c.length := by rw [rI_length]; exact u1
  have hUf : Few (3 * s + 93) (rI U) := few_rI fun z hz => by
    refine Nat.le_trans (u3 z hz) ?_
    have h1 := pow1001 s
    have h2 : 1001 ^ 3 * 2 ^ s * (1001 ^ 3 * 2 ^ s) * (1001 ^ 3 * 2 ^ s) ≤ 2 ^ (s + 30) * 2 ^ (s + 30) * 2 ^ (s + 30) := Nat.mul_le_mul (Nat.mul_le_mul h1 h1) h1
    have h3 : 6 * (2 ^ (s + 30) * 2 ^ (s + 30) * 2 ^ (s + 30)) ≤ 2 ^ 3 * (2 ^ (s + 30) * 2 ^ (s + 30) * 2 ^ (s + 30)) := Nat.mul_le_mul_right _ (by decide)
    have h4 : 2 ^ 3 * (2 ^ (s + 30) * 2 ^ (s + 30) * 2 ^ (s + 30)) = 2 ^ (3 * s + 93) := by
      rw [← Nat.pow_add, ← Nat.pow_add, ← Nat.pow_add]
      congr 1
      lia
    rw [← h4]
    exact Nat.le_trans (Nat.mul_le_mul_left _ h2) h3
  have ht : Root.times c (rI A) (rI U) = rI (D :: List.replicate (c.length - 1) 0) := num_ext (by rw [times_length l1 hAl hUl, rI_length, List.length_cons, List.length_replicate]; lia) fun i => by
    rw [times_csum hAl, u4 i]
  obtain ⟨l, s1, s2, s3⟩ := shifts_rI l1 c.length A hA
  have hlast : ∀ v ∈ shifts c (rI A) (rI U).length, -p2 (s + 30) ≤ v.getLastD 0 ∧ v.getLastD 0 ≤ p2 (s + 30) := fun v hv => by
    rw [hUl, s1] at hv
    obtain ⟨w, hw, rfl⟩ := List.mem_map.mp hv
    obtain ⟨w1, w2⟩ := s3 (2 ^ s) lc hb w hw
    have hfew : Few (s + 30) (rI w) := few_rI fun z hz => Nat.le_trans (w2 z hz) (Nat.le_trans (Nat.mul_le_mul_right _ (Nat.pow_le_pow_right (by decide) (by lia))) (pow1001 s))
    obtain ⟨m, z, hm⟩ := snoc_of (show rI w ≠ [] from ne_of_len (by rw [rI_length]; lia))
    rw [hm, show (m ++ [z]).getLastD 0 = z by simp]
    exact hfew z (by rw [hm]; simp)
  obtain ⟨Q, q1, q2⟩ := fold_bd l1 (X := p2 (s + 30)) (Rat.le_of_lt (p2_pos _)) (rI U) (rI A) (zeroIn c.length) hAl (zeroIn_length _) hUf (by lia) hlast
  refine ⟨rI U, negs Q, (D : Rat), ?_, fun x => ?_, fun x x1 x2 => ?_, fun x x1 x2 => ?_⟩
  · rcases Int.lt_or_gt_of_ne u2 with z | z
    · right
      have : ((D : Int) : Rat) ≤ ((-1 : Int) : Rat) := Rat.intCast_le_intCast.mpr (by lia)
      exact this
    · left
      have : ((1 : Int) : Rat) ≤ ((D : Int) : Rat) := Rat.intCast_le_intCast.mpr (by lia)
      exact this
  · have k := q1 x
    have e : ((shifts c (rI A) (rI U).length).zip (rI U)).foldl (fun (s : Num) (x : Num × Rat) => Root.plus s (scaled x.2 x.1)) (zeroIn c.length) = Root.times c (rI A) (rI U) := by
      rw [hUl]
      rfl
    rw [e, ht, rI_single, zeroIn_at] at k
    rw [negs_at]
    show _ = -polyAt Q x * polyAt (polyOf c) x
    clear q1 q2 hlast s3
    grind
  · have k := poly_bd2 _ hUf x x1 x2
    have m := p2_mono (show 3 * s + 93 + 13 * (rI U).length ≤ 3 * s + 150 by lia)
    constructor <;> grind
  · have k := q2 x x1 x2
    rw [negs_at]
    have hle : ((rI U).length : Rat) * (p2 (s + 30) * p2 (3 * s + 93 + 52)) ≤ p2 (4 * s + 190) := by
      rw [← p2_add]
      have e1 : ((rI U).length : Rat) ≤ p2 2 := by
        rw [p2_nat, Rat.natCast_le_natCast]
        lia
      have e2 := Rat.mul_nonneg (show 0 ≤ p2 2 - ((rI U).length : Rat) by grind) (Rat.le_of_lt (p2_pos (s + 30 + (3 * s + 93 + 52))))
      have e3 : p2 2 * p2 (s + 30 + (3 * s + 93 + 52)) = p2 (2 + (s + 30 + (3 * s + 93 + 52))) := (p2_add _ _).symm
      have e4 := p2_mono (show 2 + (s + 30 + (3 * s + 93 + 52)) ≤ 4 * s + 190 by lia)
      generalize p2 (s + 30 + (3 * s + 93 + 52)) = T at *
      generalize ((rI U).length : Rat) = N at *
      grind
    generalize ((rI U).length : Rat) * (p2 (s + 30) * p2 (3 * s + 93 + 52)) = T at *
    constructor <;> grind
theorem not_small {U A D W F P Q : Rat} (hD : 1 ≤ D ∨ D ≤ -1) (e : U * A - D = W * F) (u1 : -P ≤ U) (u2 : U ≤ P) (w1 : -Q ≤ W) (w2 : W ≤ Q) (hP : 0 < P) (a1 : -1 < (P + P) * A) (a2 : (P + P) * A < 1) {E : Rat} (f1 : -E ≤ F) (f2 : F ≤ E) (hE : (Q + Q) * E ≤ 1) : False := by
  have hPA : -(1 / 2) < P * A ∧ P * A < 1 / 2 := by
    have : (P + P) * A = 2 * (P * A) := by grind
    rw [this] at a1 a2
    constructor <;> grind
  obtain ⟨r1, r2⟩ := bmul w1 w2 f1 f2
  have hQE : Q * E ≤ 1 / 2 := by
    have : (Q + Q) * E = 2 * (Q * E) := by grind
    rw [this] at hE
    grind
  have hUA : -(1 / 2) < U * A ∧ U * A < 1 / 2 := by
    rcases Rat.le_total (a := 0) (b := A) with h | h
    · have m1 := Rat.mul_nonneg (show 0 ≤ P - U by grind) h
      have m2 := Rat.mul_nonneg (show 0 ≤ P + U by grind) h
      constructor <;> grind
    · have m1 := Rat.mul_nonneg (show 0 ≤ P - U by grind) (show 0 ≤ -A by grind)
      have m2 := Rat.mul_nonneg (show 0 ≤ P + U by grind) (show 0 ≤ -A by grind)
      constructor <;> grind
  generalize U * A = X at *
  generalize W * F = Y at *
  generalize Q * E = Z at *
  rcases hD with hD | hD <;> grind
theorem low {c : List Int} (h : Fd c) {A : List Int} (hA : A.length = c.length) (hnz : ∃ z ∈ A, z ≠ 0) {s : Nat} (hb : ∀ z ∈ A, z.natAbs ≤ 2 ^ s) {x E : Rat} (x1 : -p2 12 ≤ x) (x2 : x ≤ p2 12) (f1 : -E ≤ ff c x) (f2 : ff c x ≤ E) (hE : p2 (4 * s + 191) * E ≤ 1) :
    1 ≤ p2 (3 * s + 151) * polyAt (rI A) x ∨ p2 (3 * s + 151) * polyAt (rI A) x ≤ -1 := by
  obtain ⟨U, W, D, hD, e, hU, hW⟩ := whole_inv h hA hnz hb
  obtain ⟨u1, u2⟩ := hU x x1 x2
  obtain ⟨w1, w2⟩ := hW x x1 x2
  false_or_by_contra
  rename_i hn
  rw [p2_step (show 3 * s + 151 = 3 * s + 150 + 1 by lia)] at hn
  rw [p2_step (show 4 * s + 191 = 4 * s + 190 + 1 by lia)] at hE
  refine not_small hD (e x) u1 u2 w1 w2 (p2_pos _) ?_ ?_ f1 f2 hE
  · false_or_by_contra
    rename_i z
    exact hn (.inr (by grind))
  · false_or_by_contra
    rename_i z
    exact hn (.inl (by grind))
theorem few_polyOf {c : List Int} (h : Fd c) : Few 10 (polyOf c) := by
  obtain ⟨_, _, lc⟩ := ok_field h.ok
  have e : polyOf c = rI (c ++ [1]) := by
    unfold polyOf rI
    rw [List.map_append]
    rfl
  rw [e]
  refine few_rI fun z hz => ?_
  rcases List.mem_append.mp hz with hz | hz
  · have := lc z hz
    lia
  · have : z = 1 := by simpa using hz
    lia
theorem ff_lip {c : List Int} (h : Fd c) {x y : Rat} (x1 : -p2 12 ≤ x) (hxy : x ≤ y) (y2 : y ≤ p2 12) : -(p2 80 * (y - x)) ≤ ff c y - ff c x ∧ ff c y - ff c x ≤ p2 80 * (y - x) := by
  obtain ⟨a, b⟩ := poly_lip2 _ (few_polyOf h) x y x1 hxy y2
  have l4 := h.four
  have hl := polyOf_length c
  have m := p2_mono (show 10 + 14 * (polyOf c).length ≤ 80 by lia)
  have k := Rat.mul_nonneg (show 0 ≤ p2 80 - p2 (10 + 14 * (polyOf c).length) by grind) (show 0 ≤ y - x by grind)
  have e : (p2 80 - p2 (10 + 14 * (polyOf c).length)) * (y - x) = p2 80 * (y - x) - p2 (10 + 14 * (polyOf c).length) * (y - x) := by grind
  rw [e] at k
  generalize p2 80 * (y - x) = S at *
  generalize p2 (10 + 14 * (polyOf c).length) * (y - x) = T at *
  show -S ≤ polyAt (polyOf c) y - polyAt (polyOf c) x ∧ polyAt (polyOf c) y - polyAt (polyOf c) x ≤ S
  constructor <;> grind
theorem ff_small {c : List Int} (h : Fd c) {x y z : Rat} (x1 : -p2 12 ≤ x) (y2 : y ≤ p2 12) (hu : Unlike (ff c x) (ff c y)) (z1 : x ≤ z) (z2 : z ≤ y) : -(p2 80 * (y - x)) ≤ ff c z ∧ ff c z ≤ p2 80 * (y - x) := by
  obtain ⟨a1, a2⟩ := ff_lip h x1 z1 (by grind)
  obtain ⟨b1, b2⟩ := ff_lip h (show -p2 12 ≤ z by grind) z2 y2
  have m1 := Rat.mul_nonneg (Rat.le_of_lt (p2_pos 80)) (show 0 ≤ z - x by grind)
  have m2 := Rat.mul_nonneg (Rat.le_of_lt (p2_pos 80)) (show 0 ≤ y - z by grind)
  have e : p2 80 * (y - x) = p2 80 * (z - x) + p2 80 * (y - z) := by grind
  rw [e]
  generalize p2 80 * (z - x) = S at *
  generalize p2 80 * (y - z) = T at *
  unfold Unlike at hu
  generalize ff c x = X at *
  generalize ff c y = Y at *
  generalize ff c z = Z at *
  rcases hu with ⟨k1, k2⟩ | ⟨k1, k2⟩ <;> constructor <;> grind
theorem rI_sc (l : List Int) : rI l = sc 1 l := by
  unfold rI sc
  refine List.map_congr_left fun z _ => ?_
  grind
theorem apart_arith {fx fq fr dx dq C L a b h : Rat} (ha : 0 < a) (hb : 0 < b) (hab : a + b ≤ h) (hC : 0 < C) (hL : 0 < L)
    (t1 : fq - fx - a * dx ≥ -(C * (a * a))) (t2 : fr - fq - b * dq ≤ C * (b * b)) (l1 : dq - dx ≤ L * a) (k1 : 0 < fx) (k2 : fq < 0) (k3 : 0 < fr) : -((C + L) * h) ≤ dq ∧ dq ≤ (C + L) * h := by
  have e1 : a * dx < a * (C * a) := by grind
  have e2 : dx < C * a := (Rat.mul_lt_mul_left ha).mp e1
  have e3 : b * (-(C * b)) < b * dq := by grind
  have e4 : -(C * b) < dq := (Rat.mul_lt_mul_left hb).mp e3
  have m1 := Rat.mul_nonneg (Rat.le_of_lt hC) (show 0 ≤ h - a by grind)
  have m2 := Rat.mul_nonneg (Rat.le_of_lt hL) (show 0 ≤ h - a by grind)
  have m3 := Rat.mul_nonneg (Rat.le_of_lt hC) (show 0 ≤ h - b by grind)
  have m4 := Rat.mul_nonneg (Rat.le_of_lt hL) (show 0 ≤ h by grind)
  have g : (C + L) * h = C * h + L * h := by grind
  rw [g]
  constructor <;> grind
theorem apart {c : List Int} (h : Fd c) {x y : Rat} (x1 : -p2 12 ≤ x) (hxy : x ≤ y) (y2 : y ≤ p2 12) (hv : VV c y + 2 ≤ VV c x) : 1 ≤ p2 400 * (y - x) := by
  obtain ⟨l1, l4, lc⟩ := ok_field h.ok
  have l2 := h.two
  obtain ⟨q, q1, q2, q3⟩ := (h.par hxy).2 (VV c x - 1) (by lia) (by lia)
  obtain ⟨r, r1, r2, r3⟩ := (h.par q2).2 (VV c x - 2) (by lia) (by lia)
  have un1 : Unlike (ff c x) (ff c q) := by
    rcases (h.par q1).1 with ⟨_, j, e⟩ | ⟨e, _⟩
    · lia
    · exact e
  have un2 : Unlike (ff c q) (ff c r) := by
    rcases (h.par r1).1 with ⟨_, j, e⟩ | ⟨e, _⟩
    · lia
    · exact e
  have hxq : x < q := by
    by_cases z : x = q
    · subst z; unfold Unlike at un1; grind
    · grind
  have hqr : q < r := by
    by_cases z : q = r
    · subst z; unfold Unlike at un2; grind
    · grind
  have hml := minv_start h.ok
  have hder : ∀ z, polyAt (rI (derI (c ++ [1]))) z = diffAt (polyOf c) z := fun z => by
    rw [rI_sc, ← derived_sc, ← polyOf_sc, derived_at]
  have hdl : (derI (c ++ [1])).length = c.length := by
    rw [derI_length, List.length_append]
    rfl
  have hdb : ∀ z ∈ derI (c ++ [1]), z.natAbs ≤ 2 ^ 12 := fun z hz => Nat.le_of_lt (hml.bq z hz)
  have hdn : ∃ z ∈ derI (c ++ [1]), z ≠ 0 := by
    obtain ⟨f1, f2, _⟩ := hml.facts
    obtain ⟨m, t, hm⟩ := snoc_of f1
    refine ⟨t, by rw [hm]; simp, ?_⟩
    rw [hm] at f2
    simpa using f2
  obtain ⟨U, W, D, hD, e, hU, hW⟩ := whole_inv h hdl hdn hdb
  have hT := (taylor2 _ (few_polyOf h)).2
  have hl := polyOf_length c
  have hC := p2_mono (show 10 + 15 * (polyOf c).length ≤ 85 by lia)
  obtain ⟨t1, t2⟩ := hT x q x1 q1 (by grind)
  obtain ⟨t3, t4⟩ := hT q r (by grind) r1 (by grind)
  obtain ⟨g1, g2⟩ := poly_lip2 _ (few_rI hdb) x q x1 q1 (by grind)
  rw [hder, hder] at g1 g2
  have hL := p2_mono (show 12 + 14 * (rI (derI (c ++ [1]))).length ≤ 68 by rw [rI_length]; lia)
  have fq := ff_small h x1 (show q ≤ p2 12 by grind) un1 q1 Rat.le_refl
  have sq1 : 0 ≤ (q - x) * (q - x) := Rat.mul_nonneg (by grind) (by grind)
  have sq2 : 0 ≤ (r - q) * (r - q) := Rat.mul_nonneg (by grind) (by grind)
  have c1 := Rat.mul_nonneg (show 0 ≤ p2 85 - p2 (10 + 15 * (polyOf c).length) by grind) sq1
  have c2 := Rat.mul_nonneg (show 0 ≤ p2 85 - p2 (10 + 15 * (polyOf c).length) by grind) sq2
  have c3 := Rat.mul_nonneg (show 0 ≤ p2 68 - p2 (12 + 14 * (rI (derI (c ++ [1]))).length) by grind) (show 0 ≤ q - x by grind)
  have b1 : -(p2 85 * ((q - x) * (q - x))) ≤ ff c q - ff c x - (q - x) * diffAt (polyOf c) x ∧ ff c q - ff c x - (q - x) * diffAt (polyOf c) x ≤ p2 85 * ((q - x) * (q - x)) := by
    have ee : (p2 85 - p2 (10 + 15 * (polyOf c).length)) * ((q - x) * (q - x)) = p2 85 * ((q - x) * (q - x)) - p2 (10 + 15 * (polyOf c).length) * ((q - x) * (q - x)) := by grind
    rw [ee] at c1
    clear hT hU hW e hder
    constructor <;> grind
  have b2 : -(p2 85 * ((r - q) * (r - q))) ≤ ff c r - ff c q - (r - q) * diffAt (polyOf c) q ∧ ff c r - ff c q - (r - q) * diffAt (polyOf c) q ≤ p2 85 * ((r - q) * (r - q)) := by
    have ee : (p2 85 - p2 (10 + 15 * (polyOf c).length)) * ((r - q) * (r - q)) = p2 85 * ((r - q) * (r - q)) - p2 (10 + 15 * (polyOf c).length) * ((r - q) * (r - q)) := by grind
    rw [ee] at c2
    clear hT hU hW e hder
    constructor <;> grind
  have b3 : -(p2 68 * (q - x)) ≤ diffAt (polyOf c) q - diffAt (polyOf c) x ∧ diffAt (polyOf c) q - diffAt (polyOf c) x ≤ p2 68 * (q - x) := by
    have ee : (p2 68 - p2 (12 + 14 * (rI (derI (c ++ [1]))).length)) * (q - x) = p2 68 * (q - x) - p2 (12 + 14 * (rI (derI (c ++ [1]))).length) * (q - x) := by grind
    rw [ee] at c3
    clear hT hU hW e hder
    constructor <;> grind
  have hdq : -((p2 85 + p2 68) * (y - x)) ≤ diffAt (polyOf c) q ∧ diffAt (polyOf c) q ≤ (p2 85 + p2 68) * (y - x) := by
    unfold Unlike at un1 un2
    clear hT hU hW e hder
    generalize ff c x = X at *
    generalize ff c q = Y at *
    generalize ff c r = Z at *
    generalize diffAt (polyOf c) x = dx at *
    generalize diffAt (polyOf c) q = dq at *
    rcases un1 with ⟨k1, k2⟩ | ⟨k1, k2⟩
    · exact apart_arith (fx := X) (fq := Y) (fr := Z) (dx := dx) (dq := dq) (a := q - x) (b := r - q) (by grind) (by grind) (by grind) (p2_pos 85) (p2_pos 68) b1.1 b2.2 b3.2 k1 k2 (by grind)
    · have := apart_arith (fx := -X) (fq := -Y) (fr := -Z) (dx := -dx) (dq := -dq) (a := q - x) (b := r - q) (h := y - x) (C := p2 85) (L := p2 68) (by grind) (by grind) (by grind) (p2_pos 85) (p2_pos 68) (by grind) (by grind) (by grind) (by grind) (by grind) (by grind)
      constructor <;> grind
  have eq1 := e q
  rw [hder] at eq1
  obtain ⟨u1, u2⟩ := hU q (by grind) (by grind)
  obtain ⟨w1, w2⟩ := hW q (by grind) (by grind)
  have hyx : 0 ≤ y - x := by grind
  have k80 : p2 80 * (q - x) ≤ p2 80 * (y - x) := by
    have := Rat.mul_nonneg (Rat.le_of_lt (p2_pos 80)) (show 0 ≤ y - q by grind)
    grind
  obtain ⟨r5, r6⟩ := bmul u1 u2 hdq.1 hdq.2
  obtain ⟨r7, r8⟩ := bmul w1 w2 (show -(p2 80 * (y - x)) ≤ ff c q by grind) (show ff c q ≤ p2 80 * (y - x) by grind)
  have n1 : p2 (3 * 12 + 150) * ((p2 85 + p2 68) * (y - x)) ≤ p2 398 * (y - x) := by
    have e1 : p2 (3 * 12 + 150) * ((p2 85 + p2 68) * (y - x)) = (p2 271 + p2 254) * (y - x) := by
      rw [show p2 271 = p2 (3 * 12 + 150) * p2 85 from p2_add 186 85, show p2 254 = p2 (3 * 12 + 150) * p2 68 from p2_add 186 68]
      grind
    rw [e1]
    have m1 := p2_mono (show 271 ≤ 397 by lia)
    have m2 := p2_mono (show 254 ≤ 397 by lia)
    have := Rat.mul_nonneg (show 0 ≤ p2 398 - (p2 271 + p2 254) by rw [p2_step (show 398 = 397 + 1 by rfl)]; grind) hyx
    grind
  have n2 : p2 (4 * 12 + 190) * (p2 80 * (y - x)) ≤ p2 398 * (y - x) := by
    have e1 : p2 (4 * 12 + 190) * (p2 80 * (y - x)) = p2 318 * (y - x) := by
      rw [show p2 318 = p2 (4 * 12 + 190) * p2 80 from p2_add 238 80]
      grind
    rw [e1]
    have m1 := p2_mono (show 318 ≤ 398 by lia)
    have := Rat.mul_nonneg (show 0 ≤ p2 398 - p2 318 by grind) hyx
    grind
  have n3 : p2 400 * (y - x) = 4 * (p2 398 * (y - x)) := by
    rw [p2_step (show 400 = 399 + 1 by rfl), p2_step (show 399 = 398 + 1 by rfl)]
    grind
  have n4 := Rat.mul_nonneg (Rat.le_of_lt (p2_pos 398)) hyx
  rw [n3]
  clear hT hU hW e hder
  generalize p2 398 * (y - x) = N at *
  generalize polyAt U q * diffAt (polyOf c) q = S at *
  generalize polyAt W q * ff c q = T at *
  generalize p2 (3 * 12 + 150) * ((p2 85 + p2 68) * (y - x)) = S1 at *
  generalize p2 (4 * 12 + 190) * (p2 80 * (y - x)) = T1 at *
  clear b1 b2 b3 hdq c1 c2 c3 sq1 sq2 t1 t2 t3 t4 g1 g2 fq k80 n3 u1 u2 w1 w2
  rcases hD with hD | hD <;> grind
end Rr

end
section
set_option linter.all false
namespace Rr
open Root
noncomputable def Sg (c : List Int) (k : Nat) (a : Num) (r : Int) : Prop := ∃ lo hi : Rat, Lo c k lo ∧ ¬ Lo c k hi ∧ ∀ z, lo ≤ z → z ≤ hi → signOf (polyAt a z) = r
noncomputable def Fl (c : List Int) (k : Nat) (a : Num) (t : Int) : Prop := ∃ lo hi : Rat, Lo c k lo ∧ ¬ Lo c k hi ∧ ∀ z, lo ≤ z → z ≤ hi → (t : Rat) ≤ polyAt a z ∧ polyAt a z < (t : Rat) + 1
theorem meet {c : List Int} (h : Fd c) {k : Nat} {l1 h1 l2 h2 : Rat} (a1 : Lo c k l1) (b1 : ¬ Lo c k h1) (a2 : Lo c k l2) (b2 : ¬ Lo c k h2) : ∃ z, l1 ≤ z ∧ z ≤ h1 ∧ l2 ≤ z ∧ z ≤ h2 := by
  have e1 := h.lo_lt a1 b1
  have e2 := h.lo_lt a1 b2
  have e3 := h.lo_lt a2 b1
  have e4 := h.lo_lt a2 b2
  rcases Rat.le_total (a := l1) (b := l2) with z | z
  · exact ⟨l2, z, by grind, by grind, by grind⟩
  · exact ⟨l1, by grind, by grind, z, by grind⟩
theorem Sg.unique {c : List Int} (h : Fd c) {k : Nat} {a : Num} {r s : Int} (x : Sg c k a r) (y : Sg c k a s) : r = s := by
  obtain ⟨l1, h1, a1, b1, e1⟩ := x
  obtain ⟨l2, h2, a2, b2, e2⟩ := y
  obtain ⟨z, z1, z2, z3, z4⟩ := meet h a1 b1 a2 b2
  rw [← e1 z z1 z2, e2 z z3 z4]
theorem Fl.unique {c : List Int} (h : Fd c) {k : Nat} {a : Num} {r s : Int} (x : Fl c k a r) (y : Fl c k a s) : r = s := by
  obtain ⟨l1, h1, a1, b1, e1⟩ := x
  obtain ⟨l2, h2, a2, b2, e2⟩ := y
  obtain ⟨z, z1, z2, z3, z4⟩ := meet h a1 b1 a2 b2
  obtain ⟨p1, p2'⟩ := e1 z z1 z2
  obtain ⟨q1, q2⟩ := e2 z z3 z4
  have k1 : (r : Rat) < (s : Rat) + 1 := by grind
  have k2 : (s : Rat) < (r : Rat) + 1 := by grind
  have one : ((1 : Int) : Rat) = 1 := rfl
  rw [← one, ← Rat.intCast_add, Rat.intCast_lt_intCast] at k1 k2
  lia
theorem bound_few {c : List Int} (h : Fd c) : bound c ≤ p2 12 := by
  obtain ⟨_, l4, lc⟩ := ok_field h.ok
  have hsum : ∀ l : List Int, (∀ z ∈ l, z.natAbs ≤ 1000) → sumAbs (l.map fun (z : Int) => (z : Rat)) ≤ ((1000 * l.length : Nat) : Rat) := by
    intro l
    induction l with
    | nil => intro _; exact Rat.le_refl
    | cons a l ih =>
      intro hl
      rw [List.map_cons, sumAbs_cons]
      have i1 := ih fun z hz => hl z (by simp [hz])
      have i2 := hl a (by simp)
      have e : (if (a : Rat) < 0 then -(a : Rat) else (a : Rat)) ≤ ((1000 : Nat) : Rat) := by
        rw [← Rat.intCast_natCast]
        split
        · rw [← Rat.intCast_neg, Rat.intCast_le_intCast]; lia
        · rw [Rat.intCast_le_intCast]; lia
      have e2 : ((1000 * (a :: l).length : Nat) : Rat) = ((1000 : Nat) : Rat) + ((1000 * l.length : Nat) : Rat) := by
        rw [← Rat.natCast_add, Rat.natCast_inj, List.length_cons]
        lia
      rw [e2]
      grind
  rw [bound_is]
  have h1 := hsum c lc
  have h2 : ((1000 * c.length : Nat) : Rat) ≤ ((4000 : Nat) : Rat) := Rat.natCast_le_natCast.mpr (by lia)
  have h3 : (1 : Rat) + ((4000 : Nat) : Rat) ≤ p2 12 := by
    rw [p2_nat]
    have : (1 : Rat) + ((4000 : Nat) : Rat) = ((4001 : Nat) : Rat) := by
      have : (1 : Rat) = ((1 : Nat) : Rat) := rfl
      rw [this, ← Rat.natCast_add]
    rw [this]
    exact Rat.natCast_le_natCast.mpr (by decide)
  grind
theorem alone_ok {c : List Int} (h : Fd c) {k : Nat} : ∀ (f K : Nat) (lo hi : Rat), -p2 12 ≤ lo → lo ≤ hi → hi ≤ p2 12 → VV c hi + K < VV c lo → VV c (-bound c) + K = VV c lo + k → p2 400 * (hi - lo) < p2 f →
    Iso c k (alone (rowOf c) f K lo hi).1 (alone (rowOf c) f K lo hi).2 ∧ lo ≤ (alone (rowOf c) f K lo hi).1 ∧ (alone (rowOf c) f K lo hi).2 ≤ hi
  | 0, K, lo, hi, h1, h2, h3, h4, h5, h6 => by
    have hsep : ¬ VV c hi + 2 ≤ VV c lo := fun z => by
      have := apart h h1 h2 h3 z
      rw [p2_zero] at h6
      grind
    refine ⟨⟨?_, ?_, ?_⟩, Rat.le_refl, Rat.le_refl⟩
    · show VV c (-bound c) ≤ VV c lo + k
      lia
    · show ¬ VV c (-bound c) ≤ VV c hi + k
      lia
    · show VV c lo = VV c hi + 1
      lia
  | f + 1, K, lo, hi, h1, h2, h3, h4, h5, h6 => by
    have e : alone (rowOf c) (f + 1) K lo hi = if VV c lo = VV c hi + 1 then (lo, hi) else if K < VV c lo - VV c ((lo + hi) / 2) then alone (rowOf c) f K lo ((lo + hi) / 2) else alone (rowOf c) f (K - (VV c lo - VV c ((lo + hi) / 2))) ((lo + hi) / 2) hi := rfl
    rw [e]
    by_cases ho : VV c lo = VV c hi + 1
    · rw [if_pos ho]
      refine ⟨⟨?_, ?_, ho⟩, Rat.le_refl, Rat.le_refl⟩
      · show VV c (-bound c) ≤ VV c lo + k
        lia
      · show ¬ VV c (-bound c) ≤ VV c hi + k
        lia
    · rw [if_neg ho]
      have m1 : lo ≤ (lo + hi) / 2 := by grind
      have m2 : (lo + hi) / 2 ≤ hi := by grind
      have v1 := h.mono m1
      have v2 := h.mono m2
      rw [p2_succ f] at h6
      have w1 : p2 400 * ((lo + hi) / 2 - lo) < p2 f := by
        have : p2 400 * (hi - lo) = 2 * (p2 400 * ((lo + hi) / 2 - lo)) := by grind
        grind
      have w2 : p2 400 * (hi - (lo + hi) / 2) < p2 f := by
        have : p2 400 * (hi - lo) = 2 * (p2 400 * (hi - (lo + hi) / 2)) := by grind
        grind
      generalize (lo + hi) / 2 = m at *
      by_cases hk : K < VV c lo - VV c m
      · rw [if_pos hk]
        obtain ⟨i1, i2, i3⟩ := alone_ok h f K lo m h1 m1 (by grind) (by lia) h5 w1
        exact ⟨i1, i2, by grind⟩
      · rw [if_neg hk]
        obtain ⟨i1, i2, i3⟩ := alone_ok h (k := k) f (K - (VV c lo - VV c m)) m hi (by grind) m2 h3 (by lia) (by lia) w2
        exact ⟨i1, by grind, i3⟩
theorem place_ok {c : List Int} (h : Fd c) {k : Nat} (hk : k < places c) : Iso c k (placeOf c k).1 (placeOf c k).2 ∧ -p2 12 ≤ (placeOf c k).1 ∧ (placeOf c k).2 ≤ p2 12 := by
  have hb := bound_few h
  have hb1 := bound_one c
  have hp : places c = VV c (-bound c) - VV c (bound c) := rfl
  obtain ⟨i1, i2, i3⟩ := alone_ok h 2000 k (-bound c) (bound c) (by grind) (by grind) hb (by lia) rfl (by
    have e1 : p2 400 * (bound c - -bound c) ≤ p2 400 * p2 13 := by
      have := Rat.mul_nonneg (Rat.le_of_lt (p2_pos 400)) (show 0 ≤ p2 13 - (bound c - -bound c) by rw [p2_step (show 13 = 12 + 1 by rfl)]; grind)
      grind
    rw [← p2_add] at e1
    have e2 : p2 (400 + 13) < p2 2000 := by
      have := p2_mono (show 414 ≤ 2000 by lia)
      rw [p2_step (show 414 = (400 + 13) + 1 by rfl)] at this
      have := p2_pos (400 + 13)
      grind
    grind)
  exact ⟨i1, by unfold placeOf; grind, by unfold placeOf; grind⟩
theorem closer_ok {c : List Int} (h : Fd c) {k : Nat} {x : Rat × Rat} (i : Iso c k x.1 x.2) : Iso c k (closer c x).1 (closer c x).2 ∧ x.1 ≤ (closer c x).1 ∧ (closer c x).2 ≤ x.2 ∧ 2 * ((closer c x).2 - (closer c x).1) = x.2 - x.1 := by
  have hlt := i.lt h
  have e : closer c x = if ff c ((x.1 + x.2) / 2) = 0 then ((x.1 + x.2) / 2, (x.1 + x.2) / 2) else if x.1 = x.2 then x else if signOf (ff c ((x.1 + x.2) / 2)) = signOf (ff c x.2) then (x.1, (x.1 + x.2) / 2) else if ff c x.2 = 0 then (x.2, x.2) else ((x.1 + x.2) / 2, x.2) := rfl
  rw [e, if_neg (h.nz _), if_neg (by grind)]
  have m1 : x.1 ≤ (x.1 + x.2) / 2 := by grind
  have m2 : (x.1 + x.2) / 2 ≤ x.2 := by grind
  obtain ⟨k1, k2⟩ := i.half h m1 m2
  by_cases hs : signOf (ff c ((x.1 + x.2) / 2)) = signOf (ff c x.2)
  · rw [if_pos hs]
    refine ⟨k1 ?_, by grind, m2, by grind⟩
    rcases like_or (h.nz ((x.1 + x.2) / 2)) (h.nz x.2) with z | z
    · exact z
    · obtain ⟨z1, z2⟩ := z.sign
      unfold ff at hs
      rw [z1] at hs
      lia
  · rw [if_neg hs, if_neg (h.nz _)]
    refine ⟨k2 ?_, m1, by grind, by grind⟩
    intro z
    exact hs z.sign.1
theorem span2_cons (a : Rat) (p : List Rat) (lo hi : Rat) : span2 (a :: p) lo hi = (([(span2 p lo hi).1 * lo, (span2 p lo hi).1 * hi, (span2 p lo hi).2 * lo, (span2 p lo hi).2 * hi].foldl min ((span2 p lo hi).1 * lo)) + a, ([(span2 p lo hi).1 * lo, (span2 p lo hi).1 * hi, (span2 p lo hi).2 * lo, (span2 p lo hi).2 * hi].foldl max ((span2 p lo hi).1 * lo)) + a) := rfl
theorem min_or (a b : Rat) : (min a b = a ∧ a ≤ b) ∨ (min a b = b ∧ b ≤ a) := by
  rw [Rat.min_def]
  by_cases h : a ≤ b
  · rw [if_pos h]; exact .inl ⟨rfl, h⟩
  · rw [if_neg h]; exact .inr ⟨rfl, by grind⟩
theorem max_or (a b : Rat) : (max a b = b ∧ a ≤ b) ∨ (max a b = a ∧ b ≤ a) := by
  rw [Rat.max_def]
  by_cases h : a ≤ b
  · rw [if_pos h]; exact .inl ⟨rfl, h⟩
  · rw [if_neg h]; exact .inr ⟨rfl, by grind⟩
theorem min4 (a b d e : Rat) : ∃ m, [a, b, d, e].foldl min a = m ∧ m ≤ a ∧ m ≤ b ∧ m ≤ d ∧ m ≤ e ∧ (m = a ∨ m = b ∨ m = d ∨ m = e) := by
  refine ⟨_, rfl, ?_⟩
  show min (min (min (min a a) b) d) e ≤ a ∧ _ ∧ _ ∧ _ ∧ _
  show min (min (min (min a a) b) d) e ≤ a ∧ min (min (min (min a a) b) d) e ≤ b ∧ min (min (min (min a a) b) d) e ≤ d ∧ min (min (min (min a a) b) d) e ≤ e ∧ (min (min (min (min a a) b) d) e = a ∨ min (min (min (min a a) b) d) e = b ∨ min (min (min (min a a) b) d) e = d ∨ min (min (min (min a a) b) d) e = e)
  have q1 := min_or a a
  generalize min a a = x1 at *
  have q2 := min_or x1 b
  generalize min x1 b = x2 at *
  have q3 := min_or x2 d
  generalize min x2 d = x3 at *
  have q4 := min_or x3 e
  generalize min x3 e = x4 at *
  refine ⟨by grind, by grind, by grind, by grind, by grind⟩
theorem max4 (a b d e : Rat) : ∃ m, [a, b, d, e].foldl max a = m ∧ a ≤ m ∧ b ≤ m ∧ d ≤ m ∧ e ≤ m ∧ (m = a ∨ m = b ∨ m = d ∨ m = e) := by
  refine ⟨_, rfl, ?_⟩
  show a ≤ max (max (max (max a a) b) d) e ∧ b ≤ max (max (max (max a a) b) d) e ∧ d ≤ max (max (max (max a a) b) d) e ∧ e ≤ max (max (max (max a a) b) d) e ∧ (max (max (max (max a a) b) d) e = a ∨ max (max (max (max a a) b) d) e = b ∨ max (max (max (max a a) b) d) e = d ∨ max (max (max (max a a) b) d) e = e)
  have q1 := max_or a a
  generalize max a a = x1 at *
  have q2 := max_or x1 b
  generalize max x1 b = x2 at *
  have q3 := max_or x2 d
  generalize max x2 d = x3 at *
  have q4 := max_or x3 e
  generalize max x3 e = x4 at *
  refine ⟨by grind, by grind, by grind, by grind, by grind⟩
theorem corner {s1 s2 lo hi v x m M : Rat} (v1 : s1 ≤ v) (v2 : v ≤ s2) (x1 : lo ≤ x) (x2 : x ≤ hi) (a1 : m ≤ s1 * lo) (a2 : m ≤ s1 * hi) (a3 : m ≤ s2 * lo) (a4 : m ≤ s2 * hi) (b1 : s1 * lo ≤ M) (b2 : s1 * hi ≤ M) (b3 : s2 * lo ≤ M) (b4 : s2 * hi ≤ M) : m ≤ v * x ∧ v * x ≤ M := by
  have between : ∀ t, (m ≤ t * lo ∧ m ≤ t * hi) ∧ (t * lo ≤ M ∧ t * hi ≤ M) → m ≤ t * x ∧ t * x ≤ M := by
    rintro t ⟨⟨c1, c2⟩, c3, c4⟩
    rcases Rat.le_total (a := 0) (b := t) with z | z
    · have k1 := Rat.mul_nonneg z (show 0 ≤ x - lo by grind)
      have k2 := Rat.mul_nonneg z (show 0 ≤ hi - x by grind)
      constructor <;> grind
    · have k1 := Rat.mul_nonneg (show 0 ≤ -t by grind) (show 0 ≤ x - lo by grind)
      have k2 := Rat.mul_nonneg (show 0 ≤ -t by grind) (show 0 ≤ hi - x by grind)
      constructor <;> grind
  obtain ⟨d1, d2⟩ := between s1 ⟨⟨a1, a2⟩, b1, b2⟩
  obtain ⟨d3, d4⟩ := between s2 ⟨⟨a3, a4⟩, b3, b4⟩
  rcases Rat.le_total (a := 0) (b := x) with z | z
  · have k1 := Rat.mul_nonneg z (show 0 ≤ v - s1 by grind)
    have k2 := Rat.mul_nonneg z (show 0 ≤ s2 - v by grind)
    clear between
    constructor <;> grind
  · have k1 := Rat.mul_nonneg (show 0 ≤ -x by grind) (show 0 ≤ v - s1 by grind)
    have k2 := Rat.mul_nonneg (show 0 ≤ -x by grind) (show 0 ≤ s2 - v by grind)
    clear between
    constructor <;> grind
theorem pair_wide {si sj a b s1 s2 lo hi K P : Rat} (i1 : -K ≤ si) (i2 : si ≤ K) (d1 : si - sj ≤ s2 - s1) (d2 : -(s2 - s1) ≤ si - sj) (ab1 : a - b ≤ hi - lo) (ab2 : -(hi - lo) ≤ a - b) (b1 : -P ≤ b) (b2 : b ≤ P) : si * a - sj * b ≤ K * (hi - lo) + (s2 - s1) * P := by
  obtain ⟨r1, r2⟩ := bmul i1 i2 ab2 ab1
  obtain ⟨r3, r4⟩ := bmul d2 d1 b1 b2
  grind
theorem span2_ok {s : Nat} {lo hi : Rat} (h1 : -p2 12 ≤ lo) (h2 : lo ≤ hi) (h3 : hi ≤ p2 12) : ∀ p : List Rat, Few s p →
    (∀ x, lo ≤ x → x ≤ hi → (span2 p lo hi).1 ≤ polyAt p x ∧ polyAt p x ≤ (span2 p lo hi).2) ∧ (span2 p lo hi).1 ≤ (span2 p lo hi).2 ∧ -p2 (s + 13 * p.length) ≤ (span2 p lo hi).1 ∧ (span2 p lo hi).2 ≤ p2 (s + 13 * p.length) ∧ (span2 p lo hi).2 - (span2 p lo hi).1 ≤ p2 (s + 14 * p.length) * (hi - lo)
  | [], _ => by
    have e : span2 [] lo hi = (0, 0) := rfl
    rw [e]
    have k1 := p2_pos (s + 13 * ([] : List Rat).length)
    have k2 := Rat.mul_nonneg (Rat.le_of_lt (p2_pos (s + 14 * ([] : List Rat).length))) (show 0 ≤ hi - lo by grind)
    refine ⟨fun x _ _ => ?_, Rat.le_refl, ?_, ?_, ?_⟩
    · rw [polyAt_nil]
      exact ⟨Rat.le_refl, Rat.le_refl⟩
    · show -p2 _ ≤ 0
      grind
    · show 0 ≤ p2 _
      grind
    · show (0 : Rat) - 0 ≤ _
      grind
  | a :: p, hf => by
    obtain ⟨i1, i2, i3, i4, i5⟩ := span2_ok h1 h2 h3 p hf.tail
    obtain ⟨a1, a2⟩ := hf a (by simp)
    rw [span2_cons]
    generalize span2 p lo hi = S at *
    obtain ⟨s1, s2⟩ := S
    dsimp only at *
    obtain ⟨m, e1, m1, m2, m3, m4, m5⟩ := min4 (s1 * lo) (s1 * hi) (s2 * lo) (s2 * hi)
    obtain ⟨n, e2, n1, n2, n3, n4, n5⟩ := max4 (s1 * lo) (s1 * hi) (s2 * lo) (s2 * hi)
    rw [e1, e2]
    have hK : p2 (s + 13 * p.length) * p2 12 = p2 (s + 13 * p.length + 12) := (p2_add _ _).symm
    have cor : ∀ t y, s1 ≤ t → t ≤ s2 → lo ≤ y → y ≤ hi → -p2 (s + 13 * p.length + 12) ≤ t * y ∧ t * y ≤ p2 (s + 13 * p.length + 12) := fun t y t1 t2 y1 y2 => by
      have := bmul (a := t) (b := y) (K := p2 (s + 13 * p.length)) (e := p2 12) (by grind) (by grind) (by grind) (by grind)
      rw [hK] at this
      exact this
    have kS := p2_mono (show s ≤ s + 13 * p.length + 12 by lia)
    rw [List.length_cons]
    have eK : p2 (s + 13 * (p.length + 1)) = p2 (s + 13 * p.length + 12) + p2 (s + 13 * p.length + 12) := p2_step (by lia)
    rw [eK]
    have lolo : lo ≤ lo := Rat.le_refl
    have hihi : hi ≤ hi := Rat.le_refl
    have ss1 : s1 ≤ s1 := Rat.le_refl
    have ss2 : s2 ≤ s2 := Rat.le_refl
    have c1 := cor s1 lo ss1 i2 lolo h2
    have c2 := cor s1 hi ss1 i2 h2 hihi
    have c3 := cor s2 lo i2 ss2 lolo h2
    have c4 := cor s2 hi i2 ss2 h2 hihi
    refine ⟨fun x x1 x2 => ?_, by grind, ?_, ?_, ?_⟩
    · obtain ⟨v1, v2⟩ := i1 x x1 x2
      obtain ⟨r1, r2⟩ := corner v1 v2 x1 x2 m1 m2 m3 m4 n1 n2 n3 n4
      rw [polyAt_cons]
      constructor <;> grind
    · clear cor i1
      generalize p2 (s + 13 * p.length + 12) = T at *
      generalize p2 s = T0 at *
      rcases m5 with z | z | z | z <;> rw [z] <;> grind
    · clear cor i1
      generalize p2 (s + 13 * p.length + 12) = T at *
      generalize p2 s = T0 at *
      rcases n5 with z | z | z | z <;> rw [z] <;> grind
    · -- how wide
      have wide : n - m ≤ p2 (s + 13 * p.length) * (hi - lo) + (s2 - s1) * p2 12 := by
        have key : ∀ si sj y z, s1 ≤ si → si ≤ s2 → s1 ≤ sj → sj ≤ s2 → lo ≤ y → y ≤ hi → lo ≤ z → z ≤ hi → si * y - sj * z ≤ p2 (s + 13 * p.length) * (hi - lo) + (s2 - s1) * p2 12 := fun si sj y z p1 p2' p3 p4 p5 p6 p7 p8 =>
          pair_wide (by grind) (by grind) (by grind) (by grind) (by grind) (by grind) (by grind) (by grind)
        rcases n5 with z | z | z | z <;> rcases m5 with w | w | w | w <;> rw [z, w]
        all_goals first
          | exact key _ _ _ _ ss1 i2 ss1 i2 lolo h2 lolo h2
          | exact key _ _ _ _ ss1 i2 ss1 i2 lolo h2 h2 hihi
          | exact key _ _ _ _ ss1 i2 i2 ss2 lolo h2 lolo h2
          | exact key _ _ _ _ ss1 i2 i2 ss2 lolo h2 h2 hihi
          | exact key _ _ _ _ ss1 i2 ss1 i2 h2 hihi lolo h2
          | exact key _ _ _ _ ss1 i2 ss1 i2 h2 hihi h2 hihi
          | exact key _ _ _ _ ss1 i2 i2 ss2 h2 hihi lolo h2
          | exact key _ _ _ _ ss1 i2 i2 ss2 h2 hihi h2 hihi
          | exact key _ _ _ _ i2 ss2 ss1 i2 lolo h2 lolo h2
          | exact key _ _ _ _ i2 ss2 ss1 i2 lolo h2 h2 hihi
          | exact key _ _ _ _ i2 ss2 i2 ss2 lolo h2 lolo h2
          | exact key _ _ _ _ i2 ss2 i2 ss2 lolo h2 h2 hihi
          | exact key _ _ _ _ i2 ss2 ss1 i2 h2 hihi lolo h2
          | exact key _ _ _ _ i2 ss2 ss1 i2 h2 hihi h2 hihi
          | exact key _ _ _ _ i2 ss2 i2 ss2 h2 hihi lolo h2
          | exact key _ _ _ _ i2 ss2 i2 ss2 h2 hihi h2 hihi
      have hhl : 0 ≤ hi - lo := by grind
      have e4 : p2 (s + 14 * (p.length + 1)) * (hi - lo) = 4 * (p2 (s + 14 * p.length + 12) * (hi - lo)) := by
        rw [p2_step (show s + 14 * (p.length + 1) = s + 14 * p.length + 13 + 1 by lia), p2_step (show s + 14 * p.length + 13 = s + 14 * p.length + 12 + 1 by lia)]
        grind
      have w1 : (s2 - s1) * p2 12 ≤ p2 (s + 14 * p.length + 12) * (hi - lo) := by
        have := Rat.mul_nonneg (show 0 ≤ p2 (s + 14 * p.length) * (hi - lo) - (s2 - s1) by grind) (Rat.le_of_lt (p2_pos 12))
        rw [p2_add (s + 14 * p.length) 12]
        grind
      have w2 : p2 (s + 13 * p.length) * (hi - lo) ≤ p2 (s + 14 * p.length + 12) * (hi - lo) := by
        have := Rat.mul_nonneg (show 0 ≤ p2 (s + 14 * p.length + 12) - p2 (s + 13 * p.length) by have := p2_mono (show s + 13 * p.length ≤ s + 14 * p.length + 12 by lia); grind) hhl
        grind
      have w3 := Rat.mul_nonneg (Rat.le_of_lt (p2_pos (s + 14 * p.length + 12))) hhl
      rw [e4]
      show n + a - (m + a) ≤ _
      clear cor i1
      generalize p2 (s + 14 * p.length + 12) * (hi - lo) = T at *
      generalize p2 (s + 13 * p.length) * (hi - lo) = T1 at *
      generalize (s2 - s1) * p2 12 = T2 at *
      grind
end Rr

end
section
set_option linter.all false
namespace Rr
open Root
noncomputable def lgS (x : Rat) : Nat := Nat.log2 (x.num.natAbs + 1) + Nat.log2 x.den + 2
noncomputable def lgSum (a : Num) : Nat := (a.map lgS).foldr (fun (p q : Nat) => p + q) 0
theorem fuel_is (a : Num) : fuelOf a = 12 * lgSum a + 1000 := rfl
theorem lgSum_cons (x : Rat) (a : Num) : lgSum (x :: a) = lgS x + lgSum a := rfl
theorem log_lt (n : Nat) : n < 2 ^ (Nat.log2 n + 1) := Nat.lt_log2_self
theorem whole_over : ∀ a : Num, ∃ (n : Nat) (A : List Int), 1 ≤ n ∧ n ≤ 2 ^ lgSum a ∧ A.length = a.length ∧ (∀ z ∈ A, z.natAbs ≤ 2 ^ lgSum a) ∧ rI A = scaled (n : Rat) a
  | [] => ⟨1, [], Nat.le_refl _, Nat.le_refl _, rfl, fun z hz => absurd hz (by simp), rfl⟩
  | x :: a => by
    obtain ⟨n, A, h1, h2, h3, h4, h5⟩ := whole_over a
    have hd := x.den_pos
    have k1 := log_lt (x.num.natAbs + 1)
    have k2 := log_lt x.den
    have e : 2 ^ lgSum (x :: a) = 2 ^ (Nat.log2 (x.num.natAbs + 1) + 1) * (2 ^ (Nat.log2 x.den + 1) * 2 ^ lgSum a) := by
      rw [← Nat.pow_add, ← Nat.pow_add, lgSum_cons]
      congr 1
      unfold lgS
      lia
    have hP : 0 < 2 ^ (Nat.log2 (x.num.natAbs + 1) + 1) := Nat.pow_pos (by decide)
    have hQ : 0 < 2 ^ (Nat.log2 x.den + 1) := Nat.pow_pos (by decide)
    have hR : 0 < 2 ^ lgSum a := Nat.pow_pos (by decide)
    refine ⟨x.den * n, x.num * (n : Int) :: A.map (fun (z : Int) => z * (x.den : Int)), Nat.mul_pos hd h1, ?_, by rw [List.length_cons, List.length_map, h3, List.length_cons], fun z hz => ?_, ?_⟩
    · rw [e]
      have a1 : x.den * n ≤ 2 ^ (Nat.log2 x.den + 1) * 2 ^ lgSum a := Nat.mul_le_mul (Nat.le_of_lt k2) h2
      exact Nat.le_trans a1 (Nat.le_mul_of_pos_left _ hP)
    · rw [e]
      rcases List.mem_cons.mp hz with rfl | hz
      · rw [Int.natAbs_mul, Int.natAbs_natCast]
        have a1 : x.num.natAbs * n ≤ 2 ^ (Nat.log2 (x.num.natAbs + 1) + 1) * 2 ^ lgSum a := Nat.mul_le_mul (by lia) h2
        refine Nat.le_trans a1 (Nat.mul_le_mul_left _ (Nat.le_mul_of_pos_left _ hQ))
      · obtain ⟨y, hy, rfl⟩ := List.mem_map.mp hz
        rw [Int.natAbs_mul, Int.natAbs_natCast, Nat.mul_comm]
        have a1 : x.den * y.natAbs ≤ 2 ^ (Nat.log2 x.den + 1) * 2 ^ lgSum a := Nat.mul_le_mul (Nat.le_of_lt k2) (h4 y hy)
        exact Nat.le_trans a1 (Nat.le_mul_of_pos_left _ hP)
    · have ex : x * ((x.den : Int) : Rat) = (x.num : Rat) := by
        have hd0 : ((x.den : Int) : Rat) ≠ 0 := by
          intro z
          have := Rat.intCast_eq_zero_iff.mp z
          lia
        have := Rat.num_divInt_den x
        rw [Rat.divInt_eq_div] at this
        have e := Rat.div_mul_cancel (a := (x.num : Rat)) hd0
        rw [this] at e
        exact e
      have ed : ((x.den * n : Nat) : Rat) = ((x.den : Int) : Rat) * ((n : Int) : Rat) := by
        rw [Rat.natCast_mul, Rat.intCast_natCast, Rat.intCast_natCast]
      show (((x.num * (n : Int) : Int)) : Rat) :: rI (A.map fun (z : Int) => z * (x.den : Int)) = ((x.den * n : Nat) : Rat) * x :: scaled ((x.den * n : Nat) : Rat) a
      congr 1
      · rw [Rat.intCast_mul, ed, ← ex]
        grind
      · have e1 : rI (A.map fun (z : Int) => z * (x.den : Int)) = scaled ((x.den : Int) : Rat) (rI A) := by
          unfold rI scaled
          rw [List.map_map, List.map_map]
          refine List.map_congr_left fun z _ => ?_
          show ((z * (x.den : Int) : Int) : Rat) = ((x.den : Int) : Rat) * (z : Rat)
          rw [Rat.intCast_mul]
          grind
        rw [e1, h5]
        unfold scaled
        rw [List.map_map]
        refine List.map_congr_left fun z _ => ?_
        show ((x.den : Int) : Rat) * ((n : Rat) * z) = ((x.den * n : Nat) : Rat) * z
        rw [Rat.natCast_mul, Rat.intCast_natCast]
        grind
theorem few_num (a : Num) : Few (lgSum a) a := by
  obtain ⟨n, A, h1, h2, h3, h4, h5⟩ := whole_over a
  have hf := few_rI h4
  intro z hz
  have hz2 : (n : Rat) * z ∈ rI A := by
    rw [h5]
    exact List.mem_map.mpr ⟨z, hz, rfl⟩
  obtain ⟨q1, q2⟩ := hf _ hz2
  have hn : (1 : Rat) ≤ (n : Rat) := by
    have : ((1 : Nat) : Rat) ≤ (n : Rat) := Rat.natCast_le_natCast.mpr h1
    exact this
  have hp := p2_pos (lgSum a)
  constructor
  · rcases Rat.le_total (a := 0) (b := z) with w | w
    · grind
    · have := Rat.mul_nonneg (show 0 ≤ (n : Rat) - 1 by grind) (show 0 ≤ -z by grind)
      grind
  · rcases Rat.le_total (a := 0) (b := z) with w | w
    · have := Rat.mul_nonneg (show 0 ≤ (n : Rat) - 1 by grind) w
      grind
    · grind
theorem isFraction_no {a : Num} (h : isFraction a = false) : ∃ i, 1 ≤ i ∧ at_ a i ≠ 0 := by
  unfold isFraction at h
  rw [List.all_eq_false] at h
  obtain ⟨x, hx, hx0⟩ := h
  obtain ⟨i, hi, rfl⟩ := List.mem_iff_getElem.mp hx
  rw [List.length_drop] at hi
  refine ⟨1 + i, by lia, ?_⟩
  unfold at_
  rw [List.getD_eq_getElem?_getD, List.getElem?_eq_getElem (by omega)]
  rw [List.getElem_drop] at hx0
  simpa using hx0
theorem at_rI {A : List Int} {i : Nat} (h : at_ (rI A) i ≠ 0) : ∃ z ∈ A, z ≠ 0 := by
  by_cases hi : i < A.length
  · refine ⟨A[i], List.getElem_mem hi, ?_⟩
    intro z
    apply h
    unfold at_ rI
    rw [List.getD_eq_getElem?_getD, List.getElem?_map, List.getElem?_eq_getElem hi, z]
    rfl
  · exact absurd (at_out (by rw [rI_length]; lia)) h
theorem away {c : List Int} (h : Fd c) {k : Nat} {x y : Rat} (i : Iso c k x y) (x1 : -p2 12 ≤ x) (y2 : y ≤ p2 12) {A : List Int} (hA : A.length = c.length) (hnz : ∃ z ∈ A, z ≠ 0) {s T : Nat} (hb : ∀ z ∈ A, z.natAbs ≤ 2 ^ s) (hT : 4 * s + 271 ≤ T) (hxy : p2 T * (y - x) ≤ 1) : 1 ≤ p2 (3 * s + 151) * polyAt (rI A) x ∨ p2 (3 * s + 151) * polyAt (rI A) x ≤ -1 := by
  have hlt := i.lt h
  obtain ⟨f1, f2⟩ := ff_small h x1 y2 (i.unlike h) Rat.le_refl (Rat.le_of_lt hlt)
  refine low h hA hnz hb x1 (by grind) f1 f2 ?_
  have e : p2 (4 * s + 191) * (p2 80 * (y - x)) = p2 (4 * s + 191 + 80) * (y - x) := by rw [p2_add (4 * s + 191) 80]; grind
  rw [e]
  have m := p2_mono (show 4 * s + 191 + 80 ≤ T by omega)
  have := Rat.mul_nonneg (show 0 ≤ p2 T - p2 (4 * s + 191 + 80) by grind) (show 0 ≤ y - x by grind)
  grind
theorem sign_dec {P n a v1 v2 : Rat} (hP : 0 < P) (hn : 0 < n) (a1 : v1 ≤ a) (a2 : a ≤ v2) (hw : (P * n) * (v2 - v1) < 1) (h : 1 ≤ P * (n * a) ∨ P * (n * a) ≤ -1) : 0 < v1 ∨ v2 < 0 := by
  have hPn : 0 < P * n := Rat.mul_pos hP hn
  have e : P * (n * a) = (P * n) * a := by grind
  rw [e] at h
  generalize P * n = R at *
  rcases h with h | h
  · left
    have k : R * (v2 - v1) < R * a := by grind
    have := (Rat.mul_lt_mul_left hPn).mp k
    grind
  · right
    have k : R * a < R * (-(v2 - v1)) := by grind
    have := (Rat.mul_lt_mul_left hPn).mp k
    grind
theorem signAt_ok {c : List Int} (h : Fd c) {k : Nat} {a : Num} (ha : a.length = c.length) (hz : isZero a = false) : ∀ (f : Nat) (x : Rat × Rat), Iso c k x.1 x.2 → -p2 12 ≤ x.1 → x.2 ≤ p2 12 → p2 (5 * lgSum a + 300) * (x.2 - x.1) ≤ p2 f → Sg c k a (signAt c a (f + 1) x)
  | f, x, i, x1, x2, hf => by
    have hlt := i.lt h
    have l4 := h.four
    obtain ⟨s1, s2, s3, s4, s5⟩ := span2_ok x1 (Rat.le_of_lt hlt) x2 a (few_num a)
    have e : signAt c a (f + 1) x = if 0 < (span2 a x.1 x.2).1 then 1 else if (span2 a x.1 x.2).2 < 0 then -1 else if isZero a = true then 0 else signAt c a f (closer c x) := rfl
    rw [e]
    by_cases g1 : 0 < (span2 a x.1 x.2).1
    · rw [if_pos g1]
      refine ⟨x.1, x.2, i.lo, i.hi, fun z z1 z2 => sign_pos ?_⟩
      have := s1 z z1 z2
      grind
    · rw [if_neg g1]
      by_cases g2 : (span2 a x.1 x.2).2 < 0
      · rw [if_pos g2]
        refine ⟨x.1, x.2, i.lo, i.hi, fun z z1 z2 => sign_neg ?_⟩
        have := s1 z z1 z2
        grind
      · rw [if_neg g2, if_neg (by rw [hz]; simp)]
        cases f with
        | zero =>
          exfalso
          rw [p2_zero] at hf
          obtain ⟨n, A, n1, n2, n3, n4, n5⟩ := whole_over a
          have hnz : ∃ z ∈ A, z ≠ 0 := by
            false_or_by_contra
            rename_i hno
            have hall : isZero a = true := isZero_at.mpr fun j => by
              false_or_by_contra
              rename_i hj
              apply hno
              have : at_ (rI A) j ≠ 0 := by
                rw [n5, at_scaled]
                intro w
                rcases Rat.mul_eq_zero.mp w with w | w
                · have := Rat.natCast_eq_zero_iff.mp w
                  lia
                · exact hj w
              exact at_rI this
            rw [hall] at hz
            cases hz
          have haw := away h i x1 x2 (by rw [n3]; exact ha) hnz n4 (T := 5 * lgSum a + 300) (by lia) hf
          rw [n5, scaled_at] at haw
          have hnr : (0 : Rat) < (n : Rat) := Rat.natCast_pos.mpr n1
          have hnp : (n : Rat) ≤ p2 (lgSum a) := by rw [p2_nat]; exact Rat.natCast_le_natCast.mpr n2
          obtain ⟨b1, b2⟩ := s1 x.1 Rat.le_refl (Rat.le_of_lt hlt)
          have hw : (p2 (3 * lgSum a + 151) * (n : Rat)) * ((span2 a x.1 x.2).2 - (span2 a x.1 x.2).1) < 1 := by
            have hwid : (span2 a x.1 x.2).2 - (span2 a x.1 x.2).1 ≤ p2 (lgSum a + 56) * (x.2 - x.1) := by
              have m := p2_mono (show lgSum a + 14 * a.length ≤ lgSum a + 56 by lia)
              have := Rat.mul_nonneg (show 0 ≤ p2 (lgSum a + 56) - p2 (lgSum a + 14 * a.length) by grind) (show 0 ≤ x.2 - x.1 by grind)
              grind
            have q1 : p2 (3 * lgSum a + 151) * (n : Rat) ≤ p2 (4 * lgSum a + 151) := by
              have := Rat.mul_nonneg (Rat.le_of_lt (p2_pos (3 * lgSum a + 151))) (show 0 ≤ p2 (lgSum a) - (n : Rat) by grind)
              have e2 : p2 (4 * lgSum a + 151) = p2 (3 * lgSum a + 151) * p2 (lgSum a) := by
                rw [← p2_add, show 3 * lgSum a + 151 + lgSum a = 4 * lgSum a + 151 by lia]
              rw [e2]
              grind
            have q2 : 0 ≤ (span2 a x.1 x.2).2 - (span2 a x.1 x.2).1 := by grind
            have q3 := Rat.mul_nonneg (show 0 ≤ p2 (4 * lgSum a + 151) - p2 (3 * lgSum a + 151) * (n : Rat) by grind) q2
            have q4 := Rat.mul_nonneg (Rat.le_of_lt (p2_pos (4 * lgSum a + 151))) (show 0 ≤ p2 (lgSum a + 56) * (x.2 - x.1) - ((span2 a x.1 x.2).2 - (span2 a x.1 x.2).1) by grind)
            have q5 : p2 (4 * lgSum a + 151) * (p2 (lgSum a + 56) * (x.2 - x.1)) = p2 (5 * lgSum a + 207) * (x.2 - x.1) := by
              have : p2 (5 * lgSum a + 207) = p2 (4 * lgSum a + 151) * p2 (lgSum a + 56) := by
                rw [← p2_add, show 4 * lgSum a + 151 + (lgSum a + 56) = 5 * lgSum a + 207 by lia]
              rw [this]
              grind
            have q6 : p2 (5 * lgSum a + 207) * (x.2 - x.1) + p2 (5 * lgSum a + 207) * (x.2 - x.1) ≤ p2 (5 * lgSum a + 300) * (x.2 - x.1) := by
              have m := p2_mono (show 5 * lgSum a + 208 ≤ 5 * lgSum a + 300 by lia)
              rw [p2_step (show 5 * lgSum a + 208 = 5 * lgSum a + 207 + 1 by lia)] at m
              have := Rat.mul_nonneg (show 0 ≤ p2 (5 * lgSum a + 300) - (p2 (5 * lgSum a + 207) + p2 (5 * lgSum a + 207)) by grind) (show 0 ≤ x.2 - x.1 by grind)
              grind
            have q7 : 0 < p2 (5 * lgSum a + 207) * (x.2 - x.1) := Rat.mul_pos (p2_pos _) (by grind)
            have q8 : (p2 (4 * lgSum a + 151) - p2 (3 * lgSum a + 151) * (n : Rat)) * ((span2 a x.1 x.2).2 - (span2 a x.1 x.2).1) = p2 (4 * lgSum a + 151) * ((span2 a x.1 x.2).2 - (span2 a x.1 x.2).1) - p2 (3 * lgSum a + 151) * (n : Rat) * ((span2 a x.1 x.2).2 - (span2 a x.1 x.2).1) := by grind
            have q9 : p2 (4 * lgSum a + 151) * (p2 (lgSum a + 56) * (x.2 - x.1) - ((span2 a x.1 x.2).2 - (span2 a x.1 x.2).1)) = p2 (4 * lgSum a + 151) * (p2 (lgSum a + 56) * (x.2 - x.1)) - p2 (4 * lgSum a + 151) * ((span2 a x.1 x.2).2 - (span2 a x.1 x.2).1) := by grind
            rw [q8] at q3
            rw [q9, q5] at q4
            generalize p2 (4 * lgSum a + 151) * ((span2 a x.1 x.2).2 - (span2 a x.1 x.2).1) = Z1 at *
            generalize p2 (3 * lgSum a + 151) * (n : Rat) * ((span2 a x.1 x.2).2 - (span2 a x.1 x.2).1) = Z2 at *
            generalize p2 (5 * lgSum a + 207) * (x.2 - x.1) = Z3 at *
            generalize p2 (5 * lgSum a + 300) * (x.2 - x.1) = Z4 at *
            clear s1 haw q5 q8 q9 q1
            grind
          rcases sign_dec (p2_pos _) hnr b1 b2 hw haw with w | w
          · exact g1 w
          · exact g2 w
        | succ f =>
          obtain ⟨j1, j2, j3, j4⟩ := closer_ok h i
          refine signAt_ok h ha hz f (closer c x) j1 (by grind) (by grind) ?_
          rw [p2_succ f] at hf
          have : p2 (5 * lgSum a + 300) * (x.2 - x.1) = 2 * (p2 (5 * lgSum a + 300) * ((closer c x).2 - (closer c x).1)) := by rw [← j4]; grind
          rw [this] at hf
          grind
theorem frac_at {a : Num} (h : isFraction a = true) (x : Rat) : polyAt a x = at_ a 0 := by
  cases a with
  | nil => rfl
  | cons t a =>
    have hz : ∀ y, polyAt a y = 0 := isZero_of.mp h
    rw [polyAt_cons, hz, at_zero]
    grind
theorem width_few {c : List Int} (h : Fd c) {k : Nat} (hk : k < places c) : (placeOf c k).2 - (placeOf c k).1 ≤ p2 13 := by
  obtain ⟨_, p1, p3⟩ := place_ok h hk
  rw [p2_step (show 13 = 12 + 1 by rfl)]
  grind
theorem sign_ok {c : List Int} (h : Fd c) {k : Nat} (hk : k < places c) {a : Num} (ha : a.length = c.length) : Sg c k a (signIn c a k) := by
  obtain ⟨i, p1, p3⟩ := place_ok h hk
  unfold signIn
  cases hfr : isFraction a with
  | true =>
    rw [if_pos rfl]
    exact ⟨_, _, i.lo, i.hi, fun z _ _ => by rw [frac_at hfr]⟩
  | false =>
    rw [if_neg (by simp)]
    have hz : isZero a = false := by
      cases hz : isZero a with
      | false => rfl
      | true =>
        obtain ⟨j, _, hj⟩ := isFraction_no hfr
        exact absurd (isZero_at.mp hz j) hj
    rw [fuel_is, show 12 * lgSum a + 1000 = (12 * lgSum a + 999) + 1 by lia]
    refine signAt_ok h ha hz _ _ i p1 p3 ?_
    have hw := width_few h hk
    have q1 := Rat.mul_nonneg (Rat.le_of_lt (p2_pos (5 * lgSum a + 300))) (show 0 ≤ p2 13 - ((placeOf c k).2 - (placeOf c k).1) by grind)
    have q2 : p2 (5 * lgSum a + 300) * p2 13 = p2 (5 * lgSum a + 300 + 13) := (p2_add _ _).symm
    have q3 := p2_mono (show 5 * lgSum a + 300 + 13 ≤ 12 * lgSum a + 999 by lia)
    grind
end Rr

end
section
set_option linter.all false
namespace Rr
open Root
theorem wide_small {al s T : Nat} {n v d : Rat} (hn0 : 0 < n) (hn : n ≤ p2 s) (hv0 : 0 ≤ v) (hd : 0 ≤ d) (hv : v ≤ p2 (s + 56) * d) (hT : al + 2 * s + 57 ≤ T) (hTd : p2 T * d ≤ 1) : (p2 al * n) * v < 1 := by
  have q1 := Rat.mul_nonneg (Rat.mul_nonneg (Rat.le_of_lt (p2_pos al)) (show 0 ≤ p2 s - n by grind)) hv0
  have q2 := Rat.mul_nonneg (Rat.mul_nonneg (Rat.le_of_lt (p2_pos al)) (Rat.le_of_lt (p2_pos s))) (show 0 ≤ p2 (s + 56) * d - v by grind)
  have e1 : p2 al * p2 s * (p2 (s + 56) * d) = p2 (al + 2 * s + 56) * d := by
    have : p2 (al + 2 * s + 56) = p2 al * p2 s * p2 (s + 56) := by
      rw [← p2_add, ← p2_add, show al + s + (s + 56) = al + 2 * s + 56 by lia]
    rw [this]
    grind
  have m := p2_mono hT
  rw [p2_step (show al + 2 * s + 57 = al + 2 * s + 56 + 1 by lia)] at m
  have q3 := Rat.mul_nonneg (show 0 ≤ p2 T - (p2 (al + 2 * s + 56) + p2 (al + 2 * s + 56)) by grind) hd
  have q4 := Rat.mul_nonneg (Rat.le_of_lt (p2_pos (al + 2 * s + 56))) hd
  have e2 : p2 al * (p2 s - n) * v = p2 al * p2 s * v - p2 al * n * v := by grind
  have e3 : p2 al * p2 s * (p2 (s + 56) * d - v) = p2 al * p2 s * (p2 (s + 56) * d) - p2 al * p2 s * v := by grind
  have e4 : (p2 T - (p2 (al + 2 * s + 56) + p2 (al + 2 * s + 56))) * d = p2 T * d - 2 * (p2 (al + 2 * s + 56) * d) := by grind
  rw [e2] at q1
  rw [e3, e1] at q2
  rw [e4] at q3
  generalize p2 al * p2 s * v = Z1 at *
  generalize p2 al * n * v = Z2 at *
  generalize p2 (al + 2 * s + 56) * d = Z3 at *
  generalize p2 T * d = Z4 at *
  clear m e1 e2 e3 e4 hv hT
  grind
theorem floor_facts (x : Rat) : (x.floor : Rat) ≤ x ∧ x < (x.floor : Rat) + 1 := by
  refine ⟨Rat.floor_le x, ?_⟩
  have := Rat.lt_floor_add_one x
  have one : ((1 : Int) : Rat) = 1 := rfl
  first
    | exact this
    | (rw [Rat.intCast_add, one] at this; exact this)
theorem int_abs_le {t : Int} {n : Nat} (h1 : -p2 n ≤ (t : Rat)) (h2 : (t : Rat) ≤ p2 n) : t.natAbs ≤ 2 ^ n := by
  rw [p2_nat, ← Rat.intCast_natCast] at h1 h2
  rw [← Rat.intCast_neg, Rat.intCast_le_intCast] at h1
  rw [Rat.intCast_le_intCast] at h2
  omega
theorem floorAt_ok {c : List Int} (h : Fd c) {k : Nat} {a : Num} (ha : a.length = c.length) (hfr : isFraction a = false) : ∀ (f : Nat) (x : Rat × Rat), Iso c k x.1 x.2 → -p2 12 ≤ x.1 → x.2 ≤ p2 12 → p2 (10 * lgSum a + 700) * (x.2 - x.1) ≤ p2 f → Fl c k a (floorAt c a (f + 1) x)
  | f, x, i, x1, x2, hf => by
    have hlt := i.lt h
    have l4 := h.four
    have l2 := h.two
    obtain ⟨s1, s2, s3, s4, s5⟩ := span2_ok x1 (Rat.le_of_lt hlt) x2 a (few_num a)
    have e : floorAt c a (f + 1) x = if (span2 a x.1 x.2).1.floor = (span2 a x.1 x.2).2.floor then (span2 a x.1 x.2).1.floor else floorAt c a f (closer c x) := rfl
    rw [e]
    obtain ⟨t1, t2⟩ := floor_facts (span2 a x.1 x.2).1
    obtain ⟨t3, t4⟩ := floor_facts (span2 a x.1 x.2).2
    by_cases g1 : (span2 a x.1 x.2).1.floor = (span2 a x.1 x.2).2.floor
    · rw [if_pos g1]
      refine ⟨x.1, x.2, i.lo, i.hi, fun z z1 z2 => ?_⟩
      obtain ⟨b1, b2⟩ := s1 z z1 z2
      rw [← g1] at t4
      constructor <;> grind
    · rw [if_neg g1]
      cases f with
      | zero =>
        exfalso
        rw [p2_zero] at hf
        obtain ⟨n, A, n1, n2, n3, n4, n5⟩ := whole_over a
        have hnr : (0 : Rat) < (n : Rat) := Rat.natCast_pos.mpr n1
        have hnp : (n : Rat) ≤ p2 (lgSum a) := by rw [p2_nat]; exact Rat.natCast_le_natCast.mpr n2
        have m52 := p2_mono (show lgSum a + 13 * a.length ≤ lgSum a + 52 by lia)
        have hft : (span2 a x.1 x.2).1.floor < (span2 a x.1 x.2).2.floor := by
          have : ((span2 a x.1 x.2).1.floor : Rat) < ((span2 a x.1 x.2).2.floor : Rat) + 1 := by grind
          have one : ((1 : Int) : Rat) = 1 := rfl
          rw [← one, ← Rat.intCast_add, Rat.intCast_lt_intCast] at this
          lia
        have hv1 : (span2 a x.1 x.2).1 < ((span2 a x.1 x.2).2.floor : Rat) := by
          have : ((span2 a x.1 x.2).1.floor : Rat) + 1 ≤ ((span2 a x.1 x.2).2.floor : Rat) := by
            have one : ((1 : Int) : Rat) = 1 := rfl
            rw [← one, ← Rat.intCast_add, Rat.intCast_le_intCast]
            lia
          grind
        generalize (span2 a x.1 x.2).2.floor = t at *
        have htb : t.natAbs ≤ 2 ^ (lgSum a + 52) := int_abs_le (by grind) (by grind)
        match A, n3 with
        | [], n3 =>
          rw [ha] at n3
          simp at n3
          lia
        | A0 :: A', n3 =>
          have hs' : ∀ z ∈ (A0 - t * (n : Int)) :: A', z.natAbs ≤ 2 ^ (2 * lgSum a + 53) := fun z hz => by
            have e1 : 2 ^ (2 * lgSum a + 53) = 2 ^ (lgSum a + 52) * 2 ^ lgSum a + 2 ^ (lgSum a + 52) * 2 ^ lgSum a := by
              rw [← Nat.pow_add, show 2 * lgSum a + 53 = (lgSum a + 52 + lgSum a) + 1 by lia, Nat.pow_succ]
              lia
            have e2 : 2 ^ lgSum a ≤ 2 ^ (lgSum a + 52) * 2 ^ lgSum a := Nat.le_mul_of_pos_left _ (Nat.pow_pos (by decide))
            have e3 : (t * (n : Int)).natAbs ≤ 2 ^ (lgSum a + 52) * 2 ^ lgSum a := by
              rw [Int.natAbs_mul, Int.natAbs_natCast]
              exact Nat.mul_le_mul htb n2
            rw [e1]
            rcases List.mem_cons.mp hz with rfl | hz
            · have := n4 A0 (by simp)
              omega
            · have := n4 z (by simp [hz])
              lia
          obtain ⟨j, j1, j2⟩ := isFraction_no hfr
          obtain ⟨j', rfl⟩ : ∃ j', j = j' + 1 := ⟨j - 1, by lia⟩
          have hnz : ∃ z ∈ (A0 - t * (n : Int)) :: A', z ≠ 0 := by
            refine at_rI (i := j' + 1) ?_
            have e1 : at_ (rI ((A0 - t * (n : Int)) :: A')) (j' + 1) = at_ (rI (A0 :: A')) (j' + 1) := rfl
            rw [e1, n5, at_scaled]
            intro w
            rcases Rat.mul_eq_zero.mp w with w | w
            · have := Rat.natCast_eq_zero_iff.mp w
              lia
            · exact j2 w
          have haw := away h i x1 x2 (by rw [List.length_cons] at n3 ⊢; rw [n3]; exact ha) hnz hs' (T := 10 * lgSum a + 700) (by lia) hf
          have hval : polyAt (rI ((A0 - t * (n : Int)) :: A')) x.1 = (n : Rat) * (polyAt a x.1 - (t : Rat)) := by
            have e1 : polyAt (rI ((A0 - t * (n : Int)) :: A')) x.1 = polyAt (rI A') x.1 * x.1 + ((A0 - t * (n : Int) : Int) : Rat) := rfl
            have e2 : polyAt (rI (A0 :: A')) x.1 = polyAt (rI A') x.1 * x.1 + (A0 : Rat) := rfl
            rw [n5, scaled_at] at e2
            rw [e1, Rat.intCast_sub, Rat.intCast_mul, Rat.intCast_natCast]
            clear s1 haw
            grind
          rw [hval] at haw
          obtain ⟨b1, b2⟩ := s1 x.1 Rat.le_refl (Rat.le_of_lt hlt)
          have hwid : (span2 a x.1 x.2).2 - (span2 a x.1 x.2).1 ≤ p2 (lgSum a + 56) * (x.2 - x.1) := by
            have m := p2_mono (show lgSum a + 14 * a.length ≤ lgSum a + 56 by lia)
            have := Rat.mul_nonneg (show 0 ≤ p2 (lgSum a + 56) - p2 (lgSum a + 14 * a.length) by grind) (show 0 ≤ x.2 - x.1 by grind)
            clear s1
            grind
          have hw := wide_small (al := 3 * (2 * lgSum a + 53) + 151) (s := lgSum a) (T := 10 * lgSum a + 700) hnr hnp (show 0 ≤ (span2 a x.1 x.2).2 - (span2 a x.1 x.2).1 by grind) (show 0 ≤ x.2 - x.1 by grind) hwid (by lia) hf
          have hw' : (p2 (3 * (2 * lgSum a + 53) + 151) * (n : Rat)) * (((span2 a x.1 x.2).2 - (t : Rat)) - ((span2 a x.1 x.2).1 - (t : Rat))) < 1 := by
            rw [show ((span2 a x.1 x.2).2 - (t : Rat)) - ((span2 a x.1 x.2).1 - (t : Rat)) = (span2 a x.1 x.2).2 - (span2 a x.1 x.2).1 by grind]
            exact hw
          rcases sign_dec (p2_pos _) hnr (show (span2 a x.1 x.2).1 - (t : Rat) ≤ polyAt a x.1 - (t : Rat) by grind) (show polyAt a x.1 - (t : Rat) ≤ (span2 a x.1 x.2).2 - (t : Rat) by grind) hw' haw with w | w
          · grind
          · grind
      | succ f =>
        obtain ⟨j1, j2, j3, j4⟩ := closer_ok h i
        refine floorAt_ok h ha hfr f (closer c x) j1 (by grind) (by grind) ?_
        rw [p2_succ f] at hf
        have : p2 (10 * lgSum a + 700) * (x.2 - x.1) = 2 * (p2 (10 * lgSum a + 700) * ((closer c x).2 - (closer c x).1)) := by rw [← j4]; grind
        rw [this] at hf
        grind
theorem floor_ok {c : List Int} (h : Fd c) {k : Nat} (hk : k < places c) {a : Num} (ha : a.length = c.length) : Fl c k a (floorOf c a k) := by
  obtain ⟨i, p1, p3⟩ := place_ok h hk
  unfold floorOf
  cases hfr : isFraction a with
  | true =>
    rw [if_pos rfl]
    refine ⟨_, _, i.lo, i.hi, fun z _ _ => ?_⟩
    rw [frac_at hfr]
    exact floor_facts _
  | false =>
    rw [if_neg (by simp), fuel_is, show 12 * lgSum a + 1000 = (12 * lgSum a + 999) + 1 by lia]
    refine floorAt_ok h ha hfr _ _ i p1 p3 ?_
    have hw := width_few h hk
    have q1 := Rat.mul_nonneg (Rat.le_of_lt (p2_pos (10 * lgSum a + 700))) (show 0 ≤ p2 13 - ((placeOf c k).2 - (placeOf c k).1) by grind)
    have q2 : p2 (10 * lgSum a + 700) * p2 13 = p2 (10 * lgSum a + 700 + 13) := (p2_add _ _).symm
    have q3 := p2_mono (show 10 * lgSum a + 700 + 13 ≤ 12 * lgSum a + 999 by lia)
    grind
end Rr

end
section
set_option linter.all false
namespace Rr
open Root
noncomputable def dv (p : Int) (A : List Int) : Num := A.map fun (z : Int) => (z : Rat) / (p : Rat)
noncomputable def num (a : List Int) : Num := dv (a.getLastD 0) a.dropLast
theorem dv_length (p : Int) (A : List Int) : (dv p A).length = A.length := by unfold dv; rw [List.length_map]
theorem rows1 {c a : List Int} (h : rowsRefusal c [a] = 0) : refusal c = 0 ∧ isRow a c.length = true := by
  unfold rowsRefusal at h
  by_cases h0 : refusal c = 0
  · rw [if_pos h0] at h
    refine ⟨h0, ?_⟩
    cases z1 : isRow a c.length with
    | false => simp [z1] at h
    | true => rfl
  · rw [if_neg h0] at h
    exact absurd h h0
theorem num_row {a : List Int} {d : Nat} (h : isRow a d = true) : ∃ (A : List Int) (p : Int), a = A ++ [p] ∧ A.length = d ∧ 0 < p ∧ num a = dv p A := by
  obtain ⟨ns, n, rfl, h1, h2⟩ := row_split h
  refine ⟨ns, n, rfl, h1, h2, ?_⟩
  unfold num
  rw [List.dropLast_concat, show (ns ++ [n]).getLastD 0 = n by simp]
theorem numOf_num {c a : List Int} (h : isRow a c.length = true) : numOf c a = some (num a) := by
  obtain ⟨A, p, rfl, h1, h2, e⟩ := num_row h
  rw [e, numOf_row h1 h2]
  rfl
theorem ofRow_is {c a : List Int} (g : Num → Ans) : told_ (ofRow c a g) = if rowsRefusal c [a] = 0 then told_ (g (num a)) else [rowsRefusal c [a]] := by
  rw [refusal_one]
  by_cases h : rowsRefusal c [a] = 0
  · rw [if_pos h, if_pos h, numOf_num (rows1 h).2]
  · rw [if_neg h, if_neg h]
theorem rI_dv {p : Int} (hp : 0 < p) (A : List Int) : rI A = scaled (p : Rat) (dv p A) := by
  have hp0 : (p : Rat) ≠ 0 := fun z => by
    have := Rat.intCast_eq_zero_iff.mp z
    lia
  unfold rI scaled dv
  rw [List.map_map]
  refine List.map_congr_left fun z _ => ?_
  show (z : Rat) = (p : Rat) * ((z : Rat) / (p : Rat))
  have := Rat.div_mul_cancel (a := (z : Rat)) hp0
  grind
theorem rI_at {p : Int} (hp : 0 < p) (A : List Int) (x : Rat) : polyAt (rI A) x = (p : Rat) * polyAt (dv p A) x := by
  rw [rI_dv hp, scaled_at]
theorem isZero_dv {p : Int} (hp : 0 < p) {A : List Int} : isZero (dv p A) = true ↔ ∀ z ∈ A, z = 0 := by
  have hp0 : (p : Rat) ≠ 0 := fun z => by
    have := Rat.intCast_eq_zero_iff.mp z
    lia
  unfold isZero dv
  rw [List.all_map, List.all_eq_true]
  constructor
  · intro h z hz
    have h1 : (z : Rat) / (p : Rat) = 0 := by simpa using h z hz
    have := Rat.div_mul_cancel (a := (z : Rat)) hp0
    rw [h1, Rat.zero_mul] at this
    exact Rat.intCast_eq_zero_iff.mp this.symm
  · intro h z hz
    have : z = 0 := h z hz
    subst this
    show ((((0 : Int) : Rat) / (p : Rat)) == 0) = true
    rw [Rat.intCast_zero, Rat.div_def, Rat.zero_mul]
    rfl
theorem digits_is (k n : Int) (c a : List Int) : PyWqaqaw.digits k n c a = if rowsRefusal c [a] = 0 then (if places c ≤ k.toNat then [-4] else if 20 < n.toNat then [-3] else
    0 :: decimals (decide (signIn c (num a) k.toNat < 0)) (floorOf c (Root.plus (scaled ((signIn c (num a) k.toNat * (10 ^ n.toNat : Nat) : Int) : Rat) (num a)) (scaled (1 / 2) (oneIn c.length))) k.toNat).toNat n.toNat) else [rowsRefusal c [a]] := by
  refine (ofRow_is fun (x : Num) => if places c ≤ k.toNat then says (-4) else if MOST < n.toNat then says (-3) else
    tells (decimals (decide (signIn c x k.toNat < 0)) (floorOf c (Root.plus (scaled ((signIn c x k.toNat * (10 ^ n.toNat : Nat) : Int) : Rat) x) (scaled (1 / 2) (oneIn c.length))) k.toNat).toNat n.toNat)).trans ?_
  by_cases h : rowsRefusal c [a] = 0
  · rw [if_pos h, if_pos h]
    by_cases h1 : places c ≤ k.toNat
    · rw [if_pos h1, if_pos h1]; rfl
    · rw [if_neg h1, if_neg h1]
      by_cases h2 : 20 < n.toNat
      · rw [if_pos h2, if_pos (show MOST < n.toNat from h2)]; rfl
      · rw [if_neg h2, if_neg (show ¬ MOST < n.toNat from h2)]; rfl
  · rw [if_neg h, if_neg h]
end Rr

end
section
set_option linter.all false
set_option maxHeartbeats 4000000
namespace Rr
open Root
theorem num_snoc (A : List Int) (p : Int) : num (A ++ [p]) = dv p A := by
  unfold num
  rw [List.dropLast_concat]
  simp
noncomputable def pI (A : List Int) (x : Rat) : Rat := polyAt (rI A) x
theorem pI_nil (x : Rat) : pI [] x = 0 := polyAt_nil x
theorem pI_cons (a : Int) (l : List Int) (x : Rat) : pI (a :: l) x = (a : Rat) + x * pI l x := by
  unfold pI rI
  rw [List.map_cons, polyAt_cons]
  grind
theorem pI_append (x : Rat) : ∀ l m : List Int, pI (l ++ m) x = pI l x + x ^ l.length * pI m x
  | [], m => by rw [List.nil_append, pI_nil, List.length_nil]; grind
  | a :: l, m => by
    rw [List.cons_append, pI_cons, pI_cons, pI_append x l m, List.length_cons, Rat.pow_succ]
    grind
theorem polyOf_pI (c : List Int) (x : Rat) : polyAt (polyOf c) x = pI c x + x ^ c.length := by
  have e : polyOf c = rI (c ++ [1]) := by
    unfold polyOf rI
    rw [List.map_append]
    rfl
  rw [e]
  show pI (c ++ [1]) x = _
  rw [pI_append, pI_cons, pI_nil]
  grind
end Rr

end
section
set_option linter.all false
set_option maxHeartbeats 4000000
namespace Rr
open Root
end Rr

end
section
set_option linter.all false
set_option maxHeartbeats 4000000
namespace Rr
open Root
end Rr

end
section
set_option linter.all false
set_option maxHeartbeats 4000000
namespace Rr
open Root

end Rr

end
section
set_option linter.all false
set_option maxHeartbeats 4000000
namespace Rr
open Root
end Rr

end
section
set_option linter.all false
set_option maxHeartbeats 4000000
namespace Rr
open Root
theorem plus_dv {p q : Int} (hp : 0 < p) (hq : 0 < q) (A B : List Int) : Root.plus (dv p A) (dv q B) = dv (p * q) (List.zipWith (fun (m n : Int) => m * q + n * p) A B) := by
  unfold Root.plus dv
  rw [List.map_zipWith]
  exact zip_map2 _ _ (fun (x y : Rat) => x + y) (fun (m n : Int) => ((m * q + n * p : Int) : Rat) / ((p * q : Int) : Rat)) (fun x y => rat_add hp hq) _ _
end Rr

end
section
set_option linter.all false
set_option maxHeartbeats 4000000
namespace Rr
open Root
noncomputable def svI : List Int → Int → Int → Int
  | [], _, _ => 0
  | a :: l, t, b => svI l t b * t + a * b ^ l.length
theorem svI_at {b : Int} (hb : 0 < b) (t : Int) : ∀ P : List Int, (b : Rat) * (svI P t b : Rat) = (b : Rat) ^ P.length * pI P ((t : Rat) / (b : Rat))
  | [] => by
    show (b : Rat) * ((0 : Int) : Rat) = _
    rw [pI_nil, Rat.intCast_zero]
    grind
  | a :: l => by
    have ih := svI_at hb t l
    have hb0 : (b : Rat) ≠ 0 := fun z => by
      have := Rat.intCast_eq_zero_iff.mp z
      lia
    have hc : (t : Rat) / (b : Rat) * (b : Rat) = (t : Rat) := Rat.div_mul_cancel hb0
    show (b : Rat) * ((svI l t b * t + a * b ^ l.length : Int) : Rat) = _
    rw [pI_cons, List.length_cons, Rat.pow_succ, Rat.intCast_add, Rat.intCast_mul, Rat.intCast_mul, Rat.intCast_pow]
    generalize (t : Rat) / (b : Rat) = x at *
    generalize pI l x = y at *
    generalize (b : Rat) ^ l.length = w at *
    grind
theorem ratpow_pos {x : Rat} (h : 0 < x) : ∀ n : Nat, 0 < x ^ n
  | 0 => by rw [Rat.pow_zero]; decide
  | n + 1 => by rw [Rat.pow_succ]; exact Rat.mul_pos (ratpow_pos h n) h
theorem pI_sc (α x : Rat) (P : List Int) : polyAt (sc α P) x = α * pI P x := by
  have e : sc α P = scaled α (rI P) := by
    unfold sc scaled rI
    rw [List.map_map]
    rfl
  rw [e, scaled_at]
  rfl
theorem sgI_val {α : Rat} (ha : 0 < α) {b : Int} (hb : 0 < b) (t : Int) (P : List Int) : signOf (polyAt (sc α P) ((t : Rat) / (b : Rat))) = sgI (svI P t b) := by
  have hb' : 0 < (b : Rat) := Rat.intCast_pos.mpr hb
  have hw := ratpow_pos hb' P.length
  have hw0 : (b : Rat) ^ P.length ≠ 0 := fun z => by rw [z] at hw; exact absurd hw (by decide)
  have e := svI_at hb t P
  have e2 : polyAt (sc α P) ((t : Rat) / (b : Rat)) = (α * ((b : Rat) / (b : Rat) ^ P.length)) * (svI P t b : Rat) := by
    rw [pI_sc]
    have h1 : (b : Rat) / (b : Rat) ^ P.length * (b : Rat) ^ P.length = (b : Rat) := Rat.div_mul_cancel hw0
    generalize (b : Rat) / (b : Rat) ^ P.length = u at *
    generalize (b : Rat) ^ P.length = w at *
    generalize pI P ((t : Rat) / (b : Rat)) = y at *
    generalize (svI P t b : Rat) = v at *
    have h2 : w * (y - u * v) = 0 := by grind
    rcases Rat.mul_eq_zero.mp h2 with z | z
    · exact absurd z hw0
    · grind
  rw [e2]
  refine sgI_sc (Rat.mul_pos ha ?_) _
  rw [Rat.div_def]
  exact Rat.mul_pos hb' (Rat.inv_pos.mpr hw)
theorem rel_vals {s : List (List Rat)} {l : List (List Int)} (h : RelAll s l) {b : Int} (hb : 0 < b) (t : Int) : (s.map fun (p : List Rat) => signOf (polyAt p ((t : Rat) / (b : Rat)))) = (l.map fun (P : List Int) => svI P t b).map sgI := by
  induction h with
  | nil => rfl
  | cons ha _ ih => rw [List.map_cons, List.map_cons, List.map_cons, ih, sgI_val ha hb]
theorem sgI_zero {z : Int} : sgI z = 0 ↔ z = 0 := by
  unfold sgI
  split
  · lia
  · split <;> lia
theorem tn_filter (l : List Int) : tn (l.map sgI) = tn ((l.filter fun (z : Int) => z != 0).map sgI) := by
  unfold tn
  congr 1
  induction l with
  | nil => rfl
  | cons a l ih =>
    rw [List.map_cons, List.filter_cons, List.filter_cons]
    by_cases ha : a = 0
    · subst ha
      rw [if_neg (by simp [sgI]), if_neg (by simp)]
      exact ih
    · have h1 : (sgI a != 0) = true := by simpa using fun z => ha (sgI_zero.mp z)
      rw [if_pos h1, if_pos (by simpa using ha), List.map_cons, List.filter_cons, if_pos h1, ih]
theorem vv_chg {c : List Int} {l : List (List Int)} (hr : RelAll (rowOf c) l) {b : Int} (hb : 0 < b) (t : Int) : VV c ((t : Rat) / (b : Rat)) = chg ((l.map fun (P : List Int) => svI P t b).filter fun (z : Int) => z != 0) := by
  unfold VV
  rw [turns_tn, rel_vals hr hb, tn_filter, tn_chR, chg_is]
  intro z hz
  have := (List.mem_filter.mp hz).2
  simpa using this
theorem below_chg {c : List Int} (h : refusal c = 0) {l : List (List Int)} (hr : RelAll (rowOf c) l) : VV c (-bound c) = chg (l.map below) := by
  obtain ⟨s, e1, e2, e3⟩ := row_go h
  have hall : ∀ p ∈ rowOf c, p.getLastD 0 ≠ 0 := by
    rw [e1]
    intro p hp
    rcases List.mem_cons.mp hp with rfl | hp
    · rw [polyOf_last]
      decide
    · exact e3 p hp
  obtain ⟨a1, a2, a3⟩ := rel_above hr
  have hz := a3 hall
  obtain ⟨N, hN⟩ := far_row (rowOf c) hall
  obtain ⟨M, m1, m2⟩ := max2 N (bound c)
  obtain ⟨f1, f2⟩ := hN M m1
  obtain ⟨p1, p2⟩ := places_far e1 e2 m2
  have t2 : turns (rowOf c) (-M) = chg (l.map below) := by
    rw [turns_tn, f2, a2, tn_chR, chg_is]
    intro z hz'
    obtain ⟨P, hP, rfl⟩ := List.mem_map.mp hz'
    have := hz P hP
    unfold below
    split <;> lia
  show turns (rowOf c) (-bound c) = _
  rw [← t2]
  first | exact p1.symm | exact p1 | exact p2.symm | exact p2
theorem pI_far {y : Rat} (hy : 1001 ≤ y) : ∀ c : List Int, (∀ z ∈ c, z.natAbs ≤ 1000) → ∀ x, (x = y ∨ x = -y) → -(y ^ c.length - 1) ≤ pI c x ∧ pI c x ≤ y ^ c.length - 1
  | [], _, x, _ => by
    rw [pI_nil, List.length_nil, Rat.pow_zero]
    exact ⟨by grind, by grind⟩
  | a :: l, h, x, hx => by
    obtain ⟨i1, i2⟩ := pI_far hy l (fun z hz => h z (by simp [hz])) x hx
    have ha := h a (by simp)
    have a1 : (a : Rat) ≤ 1000 := by
      have : a ≤ 1000 := by lia
      exact Rat.intCast_le_intCast.mpr this
    have a2 : -1000 ≤ (a : Rat) := by
      have : -1000 ≤ a := by lia
      exact Rat.intCast_le_intCast.mpr this
    rw [pI_cons, List.length_cons, Rat.pow_succ]
    generalize pI l x = v at *
    generalize y ^ l.length = w at *
    have y0 : 0 ≤ y := by grind
    have m1 : 0 ≤ y * (w - 1 - v) := Rat.mul_nonneg y0 (by grind)
    have m2 : 0 ≤ y * (v + (w - 1)) := Rat.mul_nonneg y0 (by grind)
    rcases hx with rfl | rfl
    · exact ⟨by grind, by grind⟩
    · exact ⟨by grind, by grind⟩
end Rr

end
section
set_option linter.all false
set_option maxHeartbeats 4000000
namespace Rr
open Root
theorem neg_pow (y : Rat) : ∀ n : Nat, (-y) ^ n = if n % 2 = 0 then y ^ n else -(y ^ n)
  | 0 => by simp
  | n + 1 => by
    rw [Rat.pow_succ, neg_pow y n, Rat.pow_succ]
    by_cases h : n % 2 = 0
    · rw [if_pos h, if_neg (by lia)]
      grind
    · rw [if_neg h, if_pos (by lia)]
      grind
theorem ff_far {c : List Int} (hc : ∀ z ∈ c, z.natAbs ≤ 1000) {x : Rat} (hx : 1001 ≤ x) : 0 < ff c x := by
  have := (pI_far hx c hc x (.inl rfl)).1
  show 0 < polyAt (polyOf c) x
  rw [polyOf_pI]
  grind
theorem ff_far_neg {c : List Int} (hc : ∀ z ∈ c, z.natAbs ≤ 1000) {x z : Rat} (hx : x ≤ -1001) (hz : z ≤ -1001) : Like (ff c x) (ff c z) := by
  obtain ⟨a1, a2⟩ := pI_far (y := -x) (by grind) c hc x (.inr (by grind))
  obtain ⟨b1, b2⟩ := pI_far (y := -z) (by grind) c hc z (.inr (by grind))
  have e1 : x ^ c.length = if c.length % 2 = 0 then (-x) ^ c.length else -((-x) ^ c.length) := by
    have := neg_pow (-x) c.length
    rwa [show -(-x) = x by grind] at this
  have e2 : z ^ c.length = if c.length % 2 = 0 then (-z) ^ c.length else -((-z) ^ c.length) := by
    have := neg_pow (-z) c.length
    rwa [show -(-z) = z by grind] at this
  unfold ff
  rw [polyOf_pI, polyOf_pI, e1, e2]
  unfold Like
  split <;> grind
theorem lo_far {c : List Int} (h : Fd c) (k : Nat) : Lo c k (-1001) := by
  have hc := (ok_field h.ok).2.2
  unfold Lo
  rcases Rat.le_total (a := -1001) (b := -bound c) with z | z
  · have := h.mono z
    lia
  · obtain ⟨_, p2⟩ := h.par z
    false_or_by_contra
    rename_i hn
    obtain ⟨w, w1, w2, w3⟩ := p2 (VV c (-1001) + 1) (by lia) (by lia)
    rcases (h.par w2).1 with ⟨_, j, e⟩ | ⟨u, j, e⟩
    · lia
    · exact (ff_far_neg hc w2 Rat.le_refl).not u
theorem hi_far {c : List Int} (h : Fd c) {k : Nat} (hk : k < places c) : ¬ Lo c k 1001 := by
  have hc := (ok_field h.ok).2.2
  have h1 : VV c 1001 ≤ VV c (bound c) := by
    rcases Rat.le_total (a := bound c) (b := 1001) with z | z
    · exact h.mono z
    · obtain ⟨_, p2⟩ := h.par z
      false_or_by_contra
      rename_i hn
      obtain ⟨w, w1, w2, w3⟩ := p2 (VV c (bound c) + 1) (by lia) (by lia)
      rcases (h.par w2).1 with ⟨_, j, e⟩ | ⟨u, j, e⟩
      · lia
      · have hw := ff_far hc w1
        have hb := ff_far hc z
        exact Like.not (by unfold Like; exact .inl ⟨hw, hb⟩) u
  unfold Lo
  have : VV c (-bound c) - VV c (bound c) = places c := rfl
  lia
noncomputable def slI : Nat → List Int → Int
  | _, [] => 0
  | j, a :: l => slI (j + 1) l * 1001 + (j : Int) * (a.natAbs : Int)
theorem slI_nonneg : ∀ (l : List Int) (j : Nat), 0 ≤ slI j l
  | [], _ => Int.le_refl _
  | a :: l, j => by
    have := slI_nonneg l (j + 1)
    show 0 ≤ slI (j + 1) l * 1001 + (j : Int) * (a.natAbs : Int)
    have h2 : 0 ≤ (j : Int) * (a.natAbs : Int) := Int.mul_nonneg (by lia) (by lia)
    lia
theorem pow_lip {x z : Rat} (x1 : -1001 ≤ x) (hxz : x ≤ z) (z2 : z ≤ 1001) : ∀ j : Nat, -((1001 : Rat) ^ (j + 1)) ≤ x ^ (j + 1) ∧ x ^ (j + 1) ≤ 1001 ^ (j + 1) ∧ -(((j : Rat) + 1) * 1001 ^ j * (z - x)) ≤ z ^ (j + 1) - x ^ (j + 1) ∧ z ^ (j + 1) - x ^ (j + 1) ≤ ((j : Rat) + 1) * 1001 ^ j * (z - x)
  | 0 => by
    rw [Rat.pow_succ, Rat.pow_succ, Rat.pow_succ, Rat.pow_zero, Rat.pow_zero, Rat.pow_zero]
    refine ⟨by grind, by grind, ?_, ?_⟩
    · show -((((0 : Nat) : Rat) + 1) * 1 * (z - x)) ≤ 1 * z - 1 * x
      rw [show ((0 : Nat) : Rat) = 0 from rfl]
      grind
    · show 1 * z - 1 * x ≤ (((0 : Nat) : Rat) + 1) * 1 * (z - x)
      rw [show ((0 : Nat) : Rat) = 0 from rfl]
      grind
  | j + 1 => by
    obtain ⟨h1, h2, h3, h4⟩ := pow_lip x1 hxz z2 j
    have e1 : x ^ (j + 1 + 1) = x ^ (j + 1) * x := Rat.pow_succ ..
    have e2 : z ^ (j + 1 + 1) = z ^ (j + 1) * z := Rat.pow_succ ..
    have e3 : (1001 : Rat) ^ (j + 1 + 1) = 1001 ^ (j + 1) * 1001 := Rat.pow_succ ..
    have e4 : (1001 : Rat) ^ (j + 1) = 1001 ^ j * 1001 := Rat.pow_succ ..
    have ej : ((j + 1 : Nat) : Rat) = (j : Rat) + 1 := by simp
    have hP : 0 < (1001 : Rat) ^ j := ratpow_pos (by decide) j
    rw [e1, e2, e3, ej]
    have e5 : z ^ (j + 1) * z - x ^ (j + 1) * x = (z ^ (j + 1) - x ^ (j + 1)) * z + x ^ (j + 1) * (z - x) := by grind
    rw [e5]
    have hN : 0 ≤ ((j : Rat) + 1) := by
      have : (0 : Rat) ≤ (j : Rat) := by exact_mod_cast Nat.zero_le j
      grind
    generalize hD : z ^ (j + 1) - x ^ (j + 1) = D at *
    generalize hX : x ^ (j + 1) = X at *
    generalize hW : (1001 : Rat) ^ (j + 1) = W at *
    generalize hV : (1001 : Rat) ^ j = V at *
    generalize (j : Rat) = n at *
    have d0 : 0 ≤ z - x := by grind
    generalize z - x = d at *
    have hE : 0 ≤ (n + 1) * V * d := Rat.mul_nonneg (Rat.mul_nonneg hN (Rat.le_of_lt hP)) d0
    generalize hEE : (n + 1) * V * d = E at *
    have q1 : 0 ≤ (E - D) * (1001 + z) := Rat.mul_nonneg (by grind) (by grind)
    have q2 : 0 ≤ (E + D) * (1001 - z) := Rat.mul_nonneg (by grind) (by grind)
    have q3 : 0 ≤ (E - D) * (1001 - z) := Rat.mul_nonneg (by grind) (by grind)
    have q4 : 0 ≤ (E + D) * (1001 + z) := Rat.mul_nonneg (by grind) (by grind)
    have r1 : 0 ≤ (W - X) * d := Rat.mul_nonneg (by grind) d0
    have r2 : 0 ≤ (W + X) * d := Rat.mul_nonneg (by grind) d0
    have s1 : 0 ≤ (W - X) * (1001 + x) := Rat.mul_nonneg (by grind) (by grind)
    have s2 : 0 ≤ (W + X) * (1001 - x) := Rat.mul_nonneg (by grind) (by grind)
    have s3 : 0 ≤ (W - X) * (1001 - x) := Rat.mul_nonneg (by grind) (by grind)
    have s4 : 0 ≤ (W + X) * (1001 + x) := Rat.mul_nonneg (by grind) (by grind)
    have goalE : (n + 1 + 1) * W * d = 1001 * E + W * d := by
      rw [← hEE, e4]
      grind
    rw [goalE]
    refine ⟨by grind, by grind, by grind, by grind⟩
end Rr

end
section
set_option linter.all false
set_option maxHeartbeats 4000000
namespace Rr
open Root
theorem sl_lip {x z : Rat} (x1 : -1001 ≤ x) (hxz : x ≤ z) (z2 : z ≤ 1001) : ∀ (l : List Int) (j : Nat), -((slI (j + 1) l : Rat) * 1001 ^ j * (z - x)) ≤ z ^ (j + 1) * pI l z - x ^ (j + 1) * pI l x ∧ z ^ (j + 1) * pI l z - x ^ (j + 1) * pI l x ≤ (slI (j + 1) l : Rat) * 1001 ^ j * (z - x)
  | [], j => by
    rw [pI_nil, pI_nil]
    show -((((0 : Int)) : Rat) * 1001 ^ j * (z - x)) ≤ _ ∧ _ ≤ (((0 : Int)) : Rat) * 1001 ^ j * (z - x)
    rw [Rat.intCast_zero]
    exact ⟨by grind, by grind⟩
  | a :: l, j => by
    obtain ⟨h1, h2⟩ := sl_lip x1 hxz z2 l (j + 1)
    obtain ⟨_, _, h3, h4⟩ := pow_lip x1 hxz z2 j
    have es : (slI (j + 1) (a :: l) : Rat) = (slI (j + 1 + 1) l : Rat) * 1001 + ((j : Rat) + 1) * ((a.natAbs : Int) : Rat) := by
      show ((slI (j + 1 + 1) l * 1001 + ((j + 1 : Nat) : Int) * (a.natAbs : Int) : Int) : Rat) = _
      rw [Rat.intCast_add, Rat.intCast_mul, Rat.intCast_mul]
      have : (((j + 1 : Nat) : Int) : Rat) = (j : Rat) + 1 := by
        rw [show (((j + 1 : Nat) : Int) : Rat) = ((j + 1 : Nat) : Rat) from rfl]
        simp
      rw [this]
      rfl
    have e4 : (1001 : Rat) ^ (j + 1) = 1001 ^ j * 1001 := Rat.pow_succ ..
    have ez : z ^ (j + 1 + 1) = z ^ (j + 1) * z := Rat.pow_succ ..
    have ex : x ^ (j + 1 + 1) = x ^ (j + 1) * x := Rat.pow_succ ..
    rw [es, pI_cons, pI_cons]
    rw [ez, ex, e4] at h1 h2
    have hV : 0 < (1001 : Rat) ^ j := ratpow_pos (by decide) j
    have hN : 0 ≤ ((j : Rat) + 1) := by
      have : (0 : Rat) ≤ (j : Rat) := by exact_mod_cast Nat.zero_le j
      grind
    have d0 : 0 ≤ z - x := by grind
    have hE : 0 ≤ ((j : Rat) + 1) * 1001 ^ j * (z - x) := Rat.mul_nonneg (Rat.mul_nonneg hN (Rat.le_of_lt hV)) d0
    have ha : (a : Rat) = ((a.natAbs : Int) : Rat) ∨ (a : Rat) = -((a.natAbs : Int) : Rat) := by
      rcases Int.natAbs_eq a with h | h
      · left
        exact congrArg _ h
      · right
        rw [← Rat.intCast_neg]
        exact congrArg _ h
    have ha0 : (0 : Rat) ≤ ((a.natAbs : Int) : Rat) := Rat.intCast_nonneg.mpr (by lia)
    generalize ((a.natAbs : Int) : Rat) = m at *
    generalize (slI (j + 1 + 1) l : Rat) = S at *
    generalize pI l z = u at *
    generalize pI l x = v at *
    generalize (1001 : Rat) ^ j = V at *
    generalize z ^ (j + 1) = Z at *
    generalize x ^ (j + 1) = X at *
    generalize hEE : ((j : Rat) + 1) * V * (z - x) = E at *
    have k1 : 0 ≤ m * (E - (Z - X)) := Rat.mul_nonneg ha0 (by grind)
    have k2 : 0 ≤ m * (E + (Z - X)) := Rat.mul_nonneg ha0 (by grind)
    have g : (S * 1001 + ((j : Rat) + 1) * m) * V * (z - x) = S * (V * 1001) * (z - x) + m * E := by
      rw [← hEE]
      grind
    rw [g]
    have g2 : Z * ((a : Rat) + z * u) - X * ((a : Rat) + x * v) = (a : Rat) * (Z - X) + (Z * z * u - X * x * v) := by grind
    rw [g2]
    rcases ha with e | e
    · rw [e]
      exact ⟨by grind, by grind⟩
    · rw [e]
      exact ⟨by grind, by grind⟩
theorem poly_sl {x z : Rat} (x1 : -1001 ≤ x) (hxz : x ≤ z) (z2 : z ≤ 1001) (a : Int) (l : List Int) : -((slI 1 l : Rat) * (z - x)) ≤ pI (a :: l) z - pI (a :: l) x ∧ pI (a :: l) z - pI (a :: l) x ≤ (slI 1 l : Rat) * (z - x) := by
  obtain ⟨h1, h2⟩ := sl_lip x1 hxz z2 l 0
  rw [Rat.pow_zero, Rat.pow_succ, Rat.pow_succ, Rat.pow_zero, Rat.pow_zero] at h1 h2
  rw [pI_cons, pI_cons]
  exact ⟨by grind, by grind⟩
structure At (c : List Int) (k : Nat) (low B : Int) : Prop where
  b0 : 0 < B
  lo : Lo c k ((low : Rat) / (B : Rat))
  hi : ¬ Lo c k (((low + 1 : Int) : Rat) / (B : Rat))
  far : -1001 * B ≤ low
  near : low + 1 ≤ 1001 * B
theorem At.facts {c : List Int} {k : Nat} {low B : Int} (h : At c k low B) : 0 < (B : Rat) ∧ (low : Rat) / (B : Rat) * (B : Rat) = (low : Rat) ∧ ((low + 1 : Int) : Rat) / (B : Rat) * (B : Rat) = (low : Rat) + 1 ∧ -1001 ≤ (low : Rat) / (B : Rat) ∧ ((low + 1 : Int) : Rat) / (B : Rat) ≤ 1001 := by
  have b1 : 0 < (B : Rat) := Rat.intCast_pos.mpr h.b0
  have b2 : (B : Rat) ≠ 0 := fun z => by rw [z] at b1; exact absurd b1 (by decide)
  have e1 : (low : Rat) / (B : Rat) * (B : Rat) = (low : Rat) := Rat.div_mul_cancel b2
  have e2 : ((low + 1 : Int) : Rat) / (B : Rat) * (B : Rat) = (low : Rat) + 1 := by
    rw [Rat.div_mul_cancel b2, Rat.intCast_add]
    rfl
  have f1 : -1001 * (B : Rat) ≤ (low : Rat) := by
    have := Rat.intCast_le_intCast.mpr h.far
    rw [Rat.intCast_mul] at this
    exact this
  have f2 : (low : Rat) + 1 ≤ 1001 * (B : Rat) := by
    have := Rat.intCast_le_intCast.mpr h.near
    rw [Rat.intCast_mul, Rat.intCast_add] at this
    exact this
  refine ⟨b1, e1, e2, ?_, ?_⟩
  · generalize (low : Rat) / (B : Rat) = x at *
    refine Rat.not_lt.mp fun z => ?_
    have : 0 < (-1001 - x) * (B : Rat) := Rat.mul_pos (by grind) b1
    grind
  · generalize ((low + 1 : Int) : Rat) / (B : Rat) = x at *
    refine Rat.not_lt.mp fun z => ?_
    have : 0 < (x - 1001) * (B : Rat) := Rat.mul_pos (by grind) b1
    grind
theorem sv_two {B : Int} (hB : 0 < B) (low a a1 : Int) (l : List Int) : (svI (a :: a1 :: l) low B : Rat) = (B : Rat) ^ l.length * (B : Rat) * pI (a :: a1 :: l) ((low : Rat) / (B : Rat)) := by
  have e := svI_at hB low (a :: a1 :: l)
  have b1 : 0 < (B : Rat) := Rat.intCast_pos.mpr hB
  have b2 : (B : Rat) ≠ 0 := fun z => by rw [z] at b1; exact absurd b1 (by decide)
  rw [List.length_cons, List.length_cons, Rat.pow_succ, Rat.pow_succ] at e
  generalize pI (a :: a1 :: l) ((low : Rat) / (B : Rat)) = y at *
  generalize (svI (a :: a1 :: l) low B : Rat) = v at *
  generalize (B : Rat) ^ l.length = w at *
  have : (B : Rat) * (v - w * (B : Rat) * y) = 0 := by grind
  rcases Rat.mul_eq_zero.mp this with z | z
  · exact absurd z b2
  · grind
theorem fl_of {c : List Int} {k : Nat} {low B : Int} (h : At c k low B) {a a1 : Int} {l : List Int} {p t : Int} (hp : 0 < p)
    (h1 : t * (p * B ^ (l.length + 1)) ≤ svI (a :: a1 :: l) low B - slI 1 (a1 :: l) * B ^ l.length) (h2 : svI (a :: a1 :: l) low B + slI 1 (a1 :: l) * B ^ l.length < (t + 1) * (p * B ^ (l.length + 1))) : Fl c k (dv p (a :: a1 :: l)) t := by
  obtain ⟨b1, e1, e2, f1, f2⟩ := h.facts
  have sv := sv_two h.b0 low a a1 l
  have w0 := ratpow_pos b1 l.length
  have h1' : (t : Rat) * ((p : Rat) * ((B : Rat) ^ l.length * (B : Rat))) ≤ (svI (a :: a1 :: l) low B : Rat) - (slI 1 (a1 :: l) : Rat) * (B : Rat) ^ l.length := by
    have := Rat.intCast_le_intCast.mpr h1
    rw [Rat.intCast_mul, Rat.intCast_mul, Rat.intCast_pow, Rat.intCast_sub, Rat.intCast_mul, Rat.intCast_pow, Rat.pow_succ] at this
    exact this
  have h2' : (svI (a :: a1 :: l) low B : Rat) + (slI 1 (a1 :: l) : Rat) * (B : Rat) ^ l.length < ((t : Rat) + 1) * ((p : Rat) * ((B : Rat) ^ l.length * (B : Rat))) := by
    have := Rat.intCast_lt_intCast.mpr h2
    rw [Rat.intCast_mul, Rat.intCast_mul, Rat.intCast_pow, Rat.intCast_add, Rat.intCast_mul, Rat.intCast_pow, Rat.pow_succ, Rat.intCast_add] at this
    exact this
  refine ⟨_, _, h.lo, h.hi, fun z z1 z2 => ?_⟩
  have hs := poly_sl f1 z1 (by grind) a (a1 :: l)
  have hp' : 0 < (p : Rat) := Rat.intCast_pos.mpr hp
  have dvp : polyAt (dv p (a :: a1 :: l)) z * (p : Rat) = pI (a :: a1 :: l) z := by
    have := rI_at hp (a :: a1 :: l) z
    show _ = polyAt (rI (a :: a1 :: l)) z
    rw [this]
    grind
  rw [sv] at h1' h2'
  generalize pI (a :: a1 :: l) ((low : Rat) / (B : Rat)) = y0 at *
  generalize pI (a :: a1 :: l) z = yz at *
  generalize polyAt (dv p (a :: a1 :: l)) z = q at *
  have hS : (0 : Rat) ≤ (slI 1 (a1 :: l) : Rat) := Rat.intCast_nonneg.mpr (slI_nonneg _ _)
  generalize (slI 1 (a1 :: l) : Rat) = S at *
  generalize (B : Rat) ^ l.length = w at *
  generalize (low : Rat) / (B : Rat) = x at *
  generalize ((low + 1 : Int) : Rat) / (B : Rat) = x' at *
  generalize (B : Rat) = b at *
  generalize (p : Rat) = p' at *
  generalize (t : Rat) = t' at *
  generalize (low : Rat) = lw at *
  have k0 : 0 ≤ b * (x' - z) := Rat.mul_nonneg (Rat.le_of_lt b1) (by grind)
  have k1 : b * (z - x) ≤ 1 := by grind
  have k2 : S * (b * (z - x)) ≤ S := by
    have : 0 ≤ S * (1 - b * (z - x)) := Rat.mul_nonneg hS (by grind)
    grind
  have m1 : 0 ≤ b * (yz - y0 + S * (z - x)) := Rat.mul_nonneg (Rat.le_of_lt b1) (by grind)
  have m2 : 0 ≤ b * (S * (z - x) - (yz - y0)) := Rat.mul_nonneg (Rat.le_of_lt b1) (by grind)
  have c1 : 0 ≤ w * (b * y0 - S - t' * p' * b) := by grind
  have c2 : 0 < w * ((t' + 1) * p' * b - b * y0 - S) := by grind
  have d1 : 0 ≤ b * y0 - S - t' * p' * b := by
    refine Rat.not_lt.mp fun z => ?_
    have : 0 < w * (-(b * y0 - S - t' * p' * b)) := Rat.mul_pos w0 (by grind)
    grind
  have d2 : 0 < (t' + 1) * p' * b - b * y0 - S := by
    refine Rat.not_le.mp fun z => ?_
    have : 0 ≤ w * (-((t' + 1) * p' * b - b * y0 - S)) := Rat.mul_nonneg (Rat.le_of_lt w0) (by grind)
    grind
  have u1 : b * (p' * (q - t')) = b * yz - t' * p' * b := by rw [← dvp]; grind
  have u2 : b * (p' * (t' + 1 - q)) = (t' + 1) * p' * b - b * yz := by rw [← dvp]; grind
  have v1 : b * (yz - y0 + S * (z - x)) = b * yz - b * y0 + S * (b * (z - x)) := by grind
  have v2 : b * (S * (z - x) - (yz - y0)) = S * (b * (z - x)) - (b * yz - b * y0) := by grind
  rw [v1] at m1
  rw [v2] at m2
  have g1 : 0 ≤ b * (p' * (q - t')) := by
    rw [u1]
    clear u1 u2 c1 c2 h1' h2' sv h1 h2 hs dvp k0 e1 e2
    generalize S * (b * (z - x)) = s1 at *
    grind
  have g2 : 0 < b * (p' * (t' + 1 - q)) := by
    rw [u2]
    clear u1 u2 c1 c2 h1' h2' sv h1 h2 hs dvp k0 e1 e2
    generalize S * (b * (z - x)) = s1 at *
    grind
  clear u1 u2 c1 c2 h1' h2' sv h1 h2 hs dvp k0 e1 e2 m1 m2 d1 d2 v1 v2 k1 k2
  constructor
  · refine Rat.not_lt.mp fun z => ?_
    have : 0 < b * (p' * (t' - q)) := Rat.mul_pos b1 (Rat.mul_pos hp' (by grind))
    grind
  · refine Rat.not_le.mp fun z => ?_
    have : 0 ≤ b * (p' * (q - (t' + 1))) := Rat.mul_nonneg (Rat.le_of_lt b1) (Rat.mul_nonneg (Rat.le_of_lt hp') (by grind))
    grind
end Rr

end
section
set_option linter.all false
set_option maxHeartbeats 4000000
namespace Rr
open Root
theorem RelAll.length {s : List (List Rat)} {l : List (List Int)} (h : RelAll s l) : s.length = l.length := by
  induction h with
  | nil => rfl
  | cons _ _ ih => rw [List.length_cons, List.length_cons, ih]
theorem slI_few {b : Nat} {l : List Int} (hl : l.length ≤ 3) (h : ∀ z ∈ l, z.natAbs ≤ 2 ^ b) : slI 1 l ≤ ((2 ^ (b + 22) : Nat) : Int) := by
  have e : 2 ^ (b + 22) = 2 ^ b * 4194304 := Nat.pow_add _ _ _
  rw [e]
  generalize 2 ^ b = M at *
  match l, hl, h with
  | [], _, _ => show (0 : Int) ≤ _; lia
  | [x], _, h =>
    have h1 := h x (by simp)
    show (0 : Int) * 1001 + ((1 : Nat) : Int) * _ ≤ _
    lia
  | [x, y], _, h =>
    have h1 := h x (by simp)
    have h2 := h y (by simp)
    show ((0 : Int) * 1001 + ((2 : Nat) : Int) * _) * 1001 + ((1 : Nat) : Int) * _ ≤ _
    lia
  | [x, y, z], _, h =>
    have h1 := h x (by simp)
    have h2 := h y (by simp)
    have h3 := h z (by simp)
    show (((0 : Int) * 1001 + ((3 : Nat) : Int) * _) * 1001 + ((2 : Nat) : Int) * _) * 1001 + ((1 : Nat) : Int) * _ ≤ _
    lia
theorem At.iso {c : List Int} {k : Nat} {low B : Int} (hF : Fd c) (h : At c k low B) {n : Nat} (hB : B = ((2 ^ n : Nat) : Int)) (hn : 401 ≤ n) : Iso c k ((low : Rat) / (B : Rat)) (((low + 1 : Int) : Rat) / (B : Rat)) ∧ -p2 12 ≤ (low : Rat) / (B : Rat) ∧ ((low + 1 : Int) : Rat) / (B : Rat) ≤ p2 12 ∧ (B : Rat) = p2 n := by
  obtain ⟨b1, e1, e2, f1, f2⟩ := h.facts
  have hp12 : p2 12 = 4096 := by
    rw [p2_nat]
    decide
  have hBr : (B : Rat) = p2 n := by
    rw [p2_nat, hB]
    rfl
  refine ⟨⟨h.lo, h.hi, ?_⟩, by rw [hp12]; grind, by rw [hp12]; grind, hBr⟩
  have l1 := h.lo
  have l2 := h.hi
  have hlt := hF.lo_lt l1 l2
  unfold Lo at l1 l2
  false_or_by_contra
  rename_i hne
  have := apart hF (x := (low : Rat) / (B : Rat)) (y := ((low + 1 : Int) : Rat) / (B : Rat)) (by rw [hp12]; grind) (by grind) (by rw [hp12]; grind) (by lia)
  have hm := p2_mono hn
  have hs : p2 401 = p2 400 + p2 400 := p2_step rfl
  have hpos := p2_pos 400
  rw [hBr] at e1 e2 b1 this hlt
  generalize (low : Rat) / p2 n = x at *
  generalize ((low + 1 : Int) : Rat) / p2 n = y at *
  have d1 : (y - x) * p2 n = 1 := by grind
  have d2 : 0 < y - x := by grind
  generalize y - x = d at *
  have : 0 ≤ d * (p2 n - (p2 400 + p2 400)) := Rat.mul_nonneg (Rat.le_of_lt d2) (by grind)
  grind
theorem fl_ends {c : List Int} (hF : Fd c) {k : Nat} {low B : Int} (h : At c k low B) {n b : Nat} (hB : B = ((2 ^ n : Nat) : Int)) (hn : 4 * b + 500 ≤ n) {a a1 : Int} {l : List Int} {p t : Int} (hlen : l.length + 2 = c.length) (hA : ∀ z ∈ a :: a1 :: l, z.natAbs ≤ 2 ^ b) (hnz : ∃ z ∈ a1 :: l, z ≠ 0)
    (h1 : t * (p * B ^ (l.length + 1)) ≤ svI (a :: a1 :: l) low B + slI 1 (a1 :: l) * B ^ l.length) (h2 : svI (a :: a1 :: l) low B - slI 1 (a1 :: l) * B ^ l.length < t * (p * B ^ (l.length + 1))) : False := by
  obtain ⟨iso, x1, x2, hBr⟩ := h.iso hF hB (by lia)
  obtain ⟨b1, e1, e2, f1, f2⟩ := h.facts
  have h4 := hF.four
  have sv := sv_two h.b0 low a a1 l
  have w0 := ratpow_pos b1 l.length
  have h1' : ((t * p : Int) : Rat) * ((B : Rat) ^ l.length * (B : Rat)) ≤ (svI (a :: a1 :: l) low B : Rat) + (slI 1 (a1 :: l) : Rat) * (B : Rat) ^ l.length := by
    have := Rat.intCast_le_intCast.mpr h1
    rw [← Int.mul_assoc, Rat.intCast_mul (t * p), Rat.intCast_pow, Rat.intCast_add, Rat.intCast_mul (slI 1 (a1 :: l)), Rat.intCast_pow, Rat.pow_succ] at this
    exact this
  have h2' : (svI (a :: a1 :: l) low B : Rat) - (slI 1 (a1 :: l) : Rat) * (B : Rat) ^ l.length < ((t * p : Int) : Rat) * ((B : Rat) ^ l.length * (B : Rat)) := by
    have := Rat.intCast_lt_intCast.mpr h2
    rw [← Int.mul_assoc, Rat.intCast_mul (t * p), Rat.intCast_pow, Rat.intCast_sub, Rat.intCast_mul (slI 1 (a1 :: l)), Rat.intCast_pow, Rat.pow_succ] at this
    exact this
  rw [sv] at h1' h2'
  have hS : (slI 1 (a1 :: l) : Rat) ≤ p2 (b + 22) := by
    rw [p2_nat]
    exact Rat.intCast_le_intCast.mpr (slI_few (by rw [List.length_cons]; lia) fun z hz => hA z (by simp [List.mem_cons.mp hz]))
  have hS0 : (0 : Rat) ≤ (slI 1 (a1 :: l) : Rat) := Rat.intCast_nonneg.mpr (slI_nonneg _ _)
  have hbd := poly_bd2 (rI (a :: a1 :: l)) (few_rI hA)
  have hy : -p2 (b + 52) ≤ pI (a :: a1 :: l) ((low : Rat) / (B : Rat)) ∧ pI (a :: a1 :: l) ((low : Rat) / (B : Rat)) ≤ p2 (b + 52) := by
    have hh := hbd ((low : Rat) / (B : Rat)) x1 (by
      have := iso.lt hF
      grind)
    have hm : p2 (b + 13 * (rI (a :: a1 :: l)).length) ≤ p2 (b + 52) := p2_mono (by rw [rI_length, List.length_cons, List.length_cons]; lia)
    exact ⟨by have := hh.1; show _ ≤ polyAt (rI (a :: a1 :: l)) _; grind, by have := hh.2; show polyAt (rI (a :: a1 :: l)) _ ≤ _; grind⟩
  have pA : polyAt (rI ((a - t * p) :: a1 :: l)) ((low : Rat) / (B : Rat)) = pI (a :: a1 :: l) ((low : Rat) / (B : Rat)) - ((t * p : Int) : Rat) := by
    show pI ((a - t * p) :: a1 :: l) _ = _
    rw [pI_cons (a - t * p), pI_cons a (a1 :: l), Rat.intCast_sub]
    generalize (low : Rat) / (B : Rat) * pI (a1 :: l) ((low : Rat) / (B : Rat)) = v
    clear h1' h2' sv h1 h2 hy hbd
    grind
  have hbB : 1 ≤ (B : Rat) := by
    rw [hBr]
    have := p2_mono (Nat.zero_le n)
    rw [p2_zero] at this
    exact this
  have m22 : p2 (b + 22) ≤ p2 (b + 52) := p2_mono (by lia)
  have key : -(slI 1 (a1 :: l) : Rat) ≤ (B : Rat) * (pI (a :: a1 :: l) ((low : Rat) / (B : Rat)) - ((t * p : Int) : Rat)) ∧ (B : Rat) * (pI (a :: a1 :: l) ((low : Rat) / (B : Rat)) - ((t * p : Int) : Rat)) ≤ (slI 1 (a1 :: l) : Rat) := by
    generalize pI (a :: a1 :: l) ((low : Rat) / (B : Rat)) = y at *
    generalize (slI 1 (a1 :: l) : Rat) = S at *
    generalize ((t * p : Int) : Rat) = u at *
    generalize (B : Rat) ^ l.length = w at *
    generalize (B : Rat) = B' at *
    have c1 : 0 ≤ w * (B' * (y - u) + S) := by grind
    have c2 : 0 ≤ w * (S - B' * (y - u)) := by grind
    clear h1' h2' h1 h2 sv hy pA
    generalize B' * (y - u) = v at *
    constructor
    · refine Rat.not_lt.mp fun z => ?_
      have : 0 < w * (-(v + S)) := Rat.mul_pos w0 (by grind)
      grind
    · refine Rat.not_lt.mp fun z => ?_
      have : 0 < w * (-(S - v)) := Rat.mul_pos w0 (by grind)
      grind
  have hsmall : (a - t * p).natAbs ≤ 2 ^ (b + 54) := by
    have ha := few_rI (l := [a]) (s := b) (fun z hz => hA z (by simp at hz; simp [hz])) (a : Rat) (by unfold rI; simp)
    have mb : p2 b ≤ p2 (b + 52) := p2_mono (by lia)
    have s1 : p2 (b + 53) = p2 (b + 52) + p2 (b + 52) := p2_step rfl
    have s2 : p2 (b + 54) = p2 (b + 53) + p2 (b + 53) := p2_step rfl
    have hd : -p2 (b + 52) ≤ pI (a :: a1 :: l) ((low : Rat) / (B : Rat)) - ((t * p : Int) : Rat) ∧ pI (a :: a1 :: l) ((low : Rat) / (B : Rat)) - ((t * p : Int) : Rat) ≤ p2 (b + 52) := by
      obtain ⟨k1, k2⟩ := key
      generalize pI (a :: a1 :: l) ((low : Rat) / (B : Rat)) - ((t * p : Int) : Rat) = v at *
      clear h1' h2' h1 h2 sv hy pA
      constructor
      · refine Rat.not_lt.mp fun z => ?_
        have : 0 ≤ ((B : Rat) - 1) * (-v) := Rat.mul_nonneg (by grind) (by have := p2_pos (b + 52); grind)
        grind
      · refine Rat.not_lt.mp fun z => ?_
        have : 0 ≤ ((B : Rat) - 1) * v := Rat.mul_nonneg (by grind) (by have := p2_pos (b + 52); grind)
        grind
    refine int_abs_le (n := b + 54) ?_ ?_
    · rw [Rat.intCast_sub]
      grind
    · rw [Rat.intCast_sub]
      grind
  have haw := away hF iso x1 x2 (A := (a - t * p) :: a1 :: l) (by rw [List.length_cons, List.length_cons]; omega) (by
      obtain ⟨z, hz, h0⟩ := hnz
      exact ⟨z, by simp [List.mem_cons.mp hz], h0⟩) (s := b + 54) (T := n) (fun z hz => by
      rcases List.mem_cons.mp hz with rfl | hz
      · exact hsmall
      · exact Nat.le_trans (hA z (by simp [List.mem_cons.mp hz])) (Nat.pow_le_pow_right (by decide) (by lia))) (by lia) (by
      rw [hBr] at e1 e2 ⊢
      have : (((low + 1 : Int) : Rat) / p2 n - (low : Rat) / p2 n) * p2 n = 1 := by grind
      grind)
  rw [pA] at haw
  obtain ⟨k1, k2⟩ := key
  have hpw : p2 (3 * (b + 54) + 151) * p2 (b + 22) = p2 (3 * (b + 54) + 151 + (b + 22)) := (p2_add _ _).symm
  have hlt : p2 (3 * (b + 54) + 151 + (b + 22)) + p2 (3 * (b + 54) + 151 + (b + 22)) ≤ p2 n := by
    rw [← p2_succ]
    exact p2_mono (by lia)
  have hP := p2_pos (3 * (b + 54) + 151)
  have hPb := p2_pos (3 * (b + 54) + 151 + (b + 22))
  have hn0 := p2_pos n
  clear h1' h2' h1 h2 sv hy pA hbd hsmall
  generalize pI (a :: a1 :: l) ((low : Rat) / (B : Rat)) - ((t * p : Int) : Rat) = v at *
  rw [hBr] at k1 k2 hbB
  clear e1 e2 f1 f2 x1 x2 iso w0 hnz hA hBr b1 h
  generalize p2 (3 * (b + 54) + 151) = P at *
  generalize (slI 1 (a1 :: l) : Rat) = S at *
  generalize p2 (b + 22) = G at *
  generalize p2 (3 * (b + 54) + 151 + (b + 22)) = R at *
  generalize p2 n = N at *
  have q1 : P * S ≤ R := by
    have : 0 ≤ P * (G - S) := Rat.mul_nonneg (Rat.le_of_lt hP) (by grind)
    grind
  have q2 : 0 ≤ P * (S - N * v) := Rat.mul_nonneg (Rat.le_of_lt hP) (by grind)
  have q3 : 0 ≤ P * (S + N * v) := Rat.mul_nonneg (Rat.le_of_lt hP) (by grind)
  rcases haw with z | z
  · have : 0 ≤ N * (P * v - 1) := Rat.mul_nonneg (Rat.le_of_lt hn0) (by grind)
    grind
  · have : 0 ≤ N * (-1 - P * v) := Rat.mul_nonneg (Rat.le_of_lt hn0) (by grind)
    grind
end Rr

end
section
set_option linter.all false
set_option maxHeartbeats 4000000
namespace Rr
open Root
theorem floor_div (a : Int) {p : Int} (hp : 0 < p) : ((a : Rat) / (p : Rat)).floor = a / p := by
  have hp' : 0 < (p : Rat) := Rat.intCast_pos.mpr hp
  have hp0 : (p : Rat) ≠ 0 := fun z => by rw [z] at hp'; exact absurd hp' (by decide)
  obtain ⟨f1, f2⟩ := floor_facts ((a : Rat) / (p : Rat))
  have e : (a : Rat) / (p : Rat) * (p : Rat) = (a : Rat) := Rat.div_mul_cancel hp0
  generalize ((a : Rat) / (p : Rat)).floor = t at *
  generalize (a : Rat) / (p : Rat) = x at *
  have h1 : (t : Rat) * (p : Rat) ≤ (a : Rat) := by
    have : 0 ≤ (x - (t : Rat)) * (p : Rat) := Rat.mul_nonneg (by grind) (Rat.le_of_lt hp')
    grind
  have h2 : (a : Rat) < ((t : Rat) + 1) * (p : Rat) := by
    have : 0 < ((t : Rat) + 1 - x) * (p : Rat) := Rat.mul_pos (by grind) hp'
    grind
  have h1' : t * p ≤ a := by
    rw [← Rat.intCast_mul] at h1
    exact Rat.intCast_le_intCast.mp h1
  have h2' : a < (t + 1) * p := by
    have : ((t : Rat) + 1) = ((t + 1 : Int) : Rat) := by rw [Rat.intCast_add]; rfl
    rw [this, ← Rat.intCast_mul] at h2
    exact Rat.intCast_lt_intCast.mp h2
  have g1 : t ≤ a / p := (Int.le_ediv_iff_mul_le hp).mpr h1'
  have g2 : a / p < t + 1 := (Int.ediv_lt_iff_lt_mul hp).mpr h2'
  lia
theorem frac_dv {p : Int} (hp : 0 < p) (A : List Int) : isFraction (dv p A) = !((A.drop 1).any fun (z : Int) => z != 0) := by
  have e : isFraction (dv p A) = isZero (dv p (A.drop 1)) := by
    unfold isFraction isZero dv
    rw [List.map_drop]
  rw [e]
  cases h : (A.drop 1).any fun (z : Int) => z != 0 with
  | true =>
    obtain ⟨z, h1, h2⟩ := List.any_eq_true.mp h
    cases e2 : isZero (dv p (A.drop 1)) with
    | false => rfl
    | true => exact absurd ((isZero_dv hp).mp e2 z h1) (by simpa using h2)
  | false =>
    refine (isZero_dv hp).mpr fun z hz => ?_
    have := List.any_eq_false.mp h z hz
    simpa using this
theorem floor_frac {c : List Int} {p : Int} (hp : 0 < p) (a : Int) (l : List Int) (k : Nat) (h : isFraction (dv p (a :: l)) = true) : floorOf c (dv p (a :: l)) k = a / p := by
  unfold floorOf
  rw [if_pos h]
  exact floor_div a hp
theorem div_whole (x : Int) (n : Nat) : ((x * 2 ^ n : Int) : Rat) / (((2 ^ n : Nat) : Int) : Rat) = (x : Rat) := by
  have h0 : (((2 ^ n : Nat) : Int) : Rat) ≠ 0 := fun z => by
    have := Rat.intCast_eq_zero_iff.mp z
    have := Nat.two_pow_pos n
    lia
  have e2 : (2 : Int) ^ n = ((2 ^ n : Nat) : Int) := by push_cast; rfl
  rw [e2, Rat.intCast_mul]
  generalize (((2 ^ n : Nat) : Int) : Rat) = w at *
  have h1 : (x : Rat) * w / w * w = (x : Rat) * w := Rat.div_mul_cancel h0
  generalize (x : Rat) * w / w = u at *
  have h3 : w * (u - (x : Rat)) = 0 := by grind
  rcases Rat.mul_eq_zero.mp h3 with z | z
  · exact absurd z h0
  · grind
end Rr

end
section
set_option linter.all false
set_option maxHeartbeats 4000000
namespace Rr
open Root
theorem narrow {c : List Int} (h : Fd c) {k : Nat} (hk : k < places c) : ∀ n : Nat, ∃ x : Rat × Rat, Iso c k x.1 x.2 ∧ -p2 12 ≤ x.1 ∧ x.2 ≤ p2 12 ∧ p2 n * (x.2 - x.1) ≤ p2 13
  | 0 => by
    obtain ⟨i, h1, h2⟩ := place_ok h hk
    refine ⟨placeOf c k, i, h1, h2, ?_⟩
    have := width_few h hk
    rw [p2_zero]
    grind
  | n + 1 => by
    obtain ⟨x, i, h1, h2, h3⟩ := narrow h hk n
    obtain ⟨j, g1, g2, g3⟩ := closer_ok h i
    refine ⟨closer c x, j, by grind, by grind, ?_⟩
    rw [p2_succ]
    generalize p2 n = w at *
    have : (w + w) * ((closer c x).2 - (closer c x).1) = w * (2 * ((closer c x).2 - (closer c x).1)) := by grind
    rw [this, g3]
    exact h3
theorem Iso.cut {c : List Int} (h : Fd c) {k : Nat} {x y lo hi : Rat} (i : Iso c k x y) (h1 : Lo c k lo) (h2 : ¬ Lo c k hi) : ∃ u v, Iso c k u v ∧ x ≤ u ∧ v ≤ y ∧ lo ≤ u ∧ v ≤ hi := by
  have hu : ∃ u, (u = x ∨ u = lo) ∧ x ≤ u ∧ lo ≤ u := by
    rcases Rat.le_total (a := x) (b := lo) with z | z
    · exact ⟨lo, .inr rfl, z, Rat.le_refl⟩
    · exact ⟨x, .inl rfl, Rat.le_refl, z⟩
  have hv : ∃ v, (v = y ∨ v = hi) ∧ v ≤ y ∧ v ≤ hi := by
    rcases Rat.le_total (a := y) (b := hi) with z | z
    · exact ⟨y, .inl rfl, Rat.le_refl, z⟩
    · exact ⟨hi, .inr rfl, z, Rat.le_refl⟩
  obtain ⟨u, eu, u1, u2⟩ := hu
  obtain ⟨v, ev, v1, v2⟩ := hv
  have lu : Lo c k u := by
    rcases eu with rfl | rfl
    · exact i.lo
    · exact h1
  have lv : ¬ Lo c k v := by
    rcases ev with rfl | rfl
    · exact i.hi
    · exact h2
  refine ⟨u, v, ⟨lu, lv, ?_⟩, u1, v1, u2, v2⟩
  have m1 := h.mono u1
  have m2 := h.mono v1
  have := i.one
  unfold Lo at lu lv
  lia
theorem sg_nz {c : List Int} (h : Fd c) {k : Nat} (hk : k < places c) {A : List Int} {p : Int} (hp : 0 < p) (hA : A.length = c.length) (hnz : ∃ z ∈ A, z ≠ 0) : ¬ Sg c k (dv p A) 0 := by
  rintro ⟨lo, hi, h1, h2, h3⟩
  obtain ⟨s, hs⟩ : ∃ s : Nat, ∀ z ∈ A, z.natAbs ≤ 2 ^ s := by
    clear hA hnz h3
    induction A with
    | nil => exact ⟨0, fun z hz => absurd hz (by simp)⟩
    | cons a l ih =>
      obtain ⟨s, hs⟩ := ih
      refine ⟨max s a.natAbs, fun z hz => ?_⟩
      rcases List.mem_cons.mp hz with rfl | hz
      · exact Nat.le_trans (Nat.le_of_lt Nat.lt_two_pow_self) (Nat.pow_le_pow_right (by decide) (Nat.le_max_right _ _))
      · exact Nat.le_trans (hs z hz) (Nat.pow_le_pow_right (by decide) (Nat.le_max_left _ _))
  obtain ⟨x, i, x1, x2, x3⟩ := narrow h hk (4 * s + 271 + 13)
  obtain ⟨u, v, j, u1, v1, u2, v2⟩ := i.cut h h1 h2
  have huv := j.lt h
  have haw := away h j (by grind) (by grind) hA hnz hs (T := 4 * s + 271) (Nat.le_refl _) (by
    have e : p2 (4 * s + 271 + 13) = p2 (4 * s + 271) * p2 13 := p2_add _ _
    rw [e] at x3
    have hw := p2_pos (4 * s + 271)
    have hq := p2_pos 13
    generalize p2 (4 * s + 271) = w at *
    generalize p2 13 = q at *
    have k1 : 0 ≤ w * ((x.2 - x.1) - (v - u)) := Rat.mul_nonneg (Rat.le_of_lt hw) (by grind)
    refine Rat.not_lt.mp fun z => ?_
    have k2 : 0 < q * (w * (v - u) - 1) := Rat.mul_pos hq (by grind)
    have k3 : 0 ≤ q * (w * ((x.2 - x.1) - (v - u))) := Rat.mul_nonneg (Rat.le_of_lt hq) k1
    grind)
  have h4 := h3 u u2 (by grind)
  have h5 := rI_at hp A u
  have h6 : polyAt (dv p A) u = 0 := by
    generalize polyAt (dv p A) u = y at *
    rcases Rat.le_total (a := y) (b := 0) with z | z
    · by_cases e : y = 0
      · exact e
      · rw [sign_neg (by grind)] at h4
        cases h4
    · by_cases e : y = 0
      · exact e
      · rw [sign_pos (by grind)] at h4
        cases h4
  rw [h6, Rat.mul_zero] at h5
  rw [h5, Rat.mul_zero] at haw
  rcases haw with z | z
  · exact absurd z (by decide)
  · exact absurd z (by decide)
theorem sign_floor {c : List Int} (h : refusal c = 0) {k : Nat} (hk : k < places c) {A : List Int} {p : Int} (hp : 0 < p) (hA : A.length = c.length) (hnz : ∃ z ∈ A, z ≠ 0) : signIn c (dv p A) k = if floorOf c (dv p A) k < 0 then -1 else 1 := by
  have f1 := (ok_field h).1
  by_cases hfr : isFraction (dv p A) = true
  · obtain ⟨a, l, rfl⟩ : ∃ a l, A = a :: l := by
      cases A with
      | nil => simp at hA; lia
      | cons a l => exact ⟨a, l, rfl⟩
    rw [floor_frac hp a l k hfr]
    unfold signIn
    rw [if_pos hfr]
    have ha : a ≠ 0 := by
      rintro rfl
      rw [frac_dv hp] at hfr
      obtain ⟨z, hz, h0⟩ := hnz
      rcases List.mem_cons.mp hz with rfl | hz
      · exact h0 rfl
      · have : (l.any fun (z : Int) => z != 0) = true := List.any_eq_true.mpr ⟨z, hz, by simpa using h0⟩
        have hd : ((0 :: l).drop 1) = l := rfl
        rw [hd, this] at hfr
        cases hfr
    have hp' : 0 < (p : Rat) := Rat.intCast_pos.mpr hp
    have hp0 : (p : Rat) ≠ 0 := fun z => by rw [z] at hp'; exact absurd hp' (by decide)
    have e : (a : Rat) / (p : Rat) * (p : Rat) = (a : Rat) := Rat.div_mul_cancel hp0
    show signOf ((a : Rat) / (p : Rat)) = _
    rcases Int.lt_trichotomy a 0 with z | z | z
    · have hq : a / p < 0 := Int.ediv_neg_of_neg_of_pos z hp
      rw [if_pos hq]
      refine sign_neg ?_
      have hz : (a : Rat) < 0 := Rat.intCast_lt_intCast.mpr z
      generalize (a : Rat) / (p : Rat) = y at *
      refine Rat.not_le.mp fun w => ?_
      have : 0 ≤ y * (p : Rat) := Rat.mul_nonneg w (Rat.le_of_lt hp')
      grind
    · exact absurd z ha
    · have hq : 0 ≤ a / p := Int.ediv_nonneg (by lia) (by lia)
      rw [if_neg (by lia)]
      refine sign_pos ?_
      have hz : (0 : Rat) < (a : Rat) := Rat.intCast_lt_intCast.mpr z
      generalize (a : Rat) / (p : Rat) = y at *
      refine Rat.not_le.mp fun w => ?_
      have : 0 ≤ (-y) * (p : Rat) := Rat.mul_nonneg (by grind) (Rat.le_of_lt hp')
      grind
  · have hF : Fd c := ⟨h, by
      rw [frac_dv hp] at hfr
      false_or_by_contra
      rename_i hn
      match A, hA with
      | [], hA => simp at hA; lia
      | [a], _ => exact hfr rfl
      | a :: b :: l, hA => simp at hA; lia⟩
    have hsg := sign_ok hF hk (a := dv p A) (by rw [dv_length]; exact hA)
    have hfl := floor_ok hF hk (a := dv p A) (by rw [dv_length]; exact hA)
    have hnz' := sg_nz hF hk hp hA hnz
    obtain ⟨lo, hi, a1, a2, a3⟩ := hsg
    obtain ⟨lo2, hi2, b1, b2, b3⟩ := hfl
    obtain ⟨z, z1, z2, z3, z4⟩ := meet hF a1 a2 b1 b2
    have k1 := a3 z z1 z2
    obtain ⟨k2, k3⟩ := b3 z z3 z4
    by_cases ht : floorOf c (dv p A) k < 0
    · rw [if_pos ht, ← k1]
      refine sign_neg ?_
      have : (floorOf c (dv p A) k : Rat) + 1 ≤ 0 := by
        have : floorOf c (dv p A) k + 1 ≤ 0 := by lia
        have := Rat.intCast_le_intCast.mpr this
        rw [Rat.intCast_add] at this
        exact this
      grind
    · rw [if_neg ht]
      have h0 : (0 : Rat) ≤ (floorOf c (dv p A) k : Rat) := Rat.intCast_nonneg.mpr (by lia)
      by_cases e : polyAt (dv p A) z = 0
      · exfalso
        apply hnz'
        have : signIn c (dv p A) k = 0 := by
          rw [← k1, e]
          decide
        rw [this] at a3
        exact ⟨lo, hi, a1, a2, a3⟩
      · rw [← k1]
        exact sign_pos (by grind)
end Rr

end
section
set_option linter.all false
set_option maxHeartbeats 4000000
namespace Rr
open Root
noncomputable def codes (m : Nat) : List Nat := (Nat.toDigits 10 m).map Char.toNat
theorem digit_code {k : Nat} (h : k < 10) : (Nat.digitChar k).toNat = 48 + k := (by decide : ∀ k : Fin 10, (Nat.digitChar k.val).toNat = 48 + k.val) ⟨k, h⟩
theorem codes_small {m : Nat} (h : m < 10) : codes m = [48 + m] := by
  unfold codes
  rw [Nat.toDigits_of_lt_base h, List.map_cons, List.map_nil, digit_code h]
theorem codes_big {m : Nat} (h : 10 ≤ m) : codes m = codes (m / 10) ++ [48 + m % 10] := by
  unfold codes
  rw [Nat.toDigits_of_base_le (by decide) h, List.map_append, List.map_cons, List.map_nil, digit_code (Nat.mod_lt _ (by decide))]
theorem codes_pos (m : Nat) : 1 ≤ (codes m).length := by
  by_cases h : m < 10
  · rw [codes_small h]
    exact Nat.le_refl 1
  · rw [codes_big (by lia), List.length_append]
    exact Nat.le_add_left _ _
theorem figures_codes : ∀ (f m : Nat), m < 10 ^ f → 1 ≤ f → figures f m = (codes m).map fun (c : Nat) => (c : Int)
  | 0, _, _, h => by lia
  | f + 1, m, h, _ => by
    unfold figures
    by_cases hm : m < 10
    · rw [if_pos hm, codes_small hm, Nat.mod_eq_of_lt hm]
      rfl
    · rw [if_neg hm, codes_big (by lia), List.map_append]
      have hf : 1 ≤ f := by
        false_or_by_contra
        have : f = 0 := by lia
        subst this
        lia
      rw [figures_codes f (m / 10) (by rw [Nat.pow_succ] at h; lia) hf]
      rfl
noncomputable def wide : Nat → Nat → List Nat
  | 0, m => codes m
  | n + 1, m => wide n (m / 10) ++ [48 + m % 10]
theorem pad_wide : ∀ (n m : Nat), List.replicate (n + 1 - (codes m).length) 48 ++ codes m = wide n m
  | 0, m => by
    have := codes_pos m
    rw [show 0 + 1 - (codes m).length = 0 by lia]
    rfl
  | n + 1, m => by
    have ih := pad_wide n (m / 10)
    show _ = wide n (m / 10) ++ [48 + m % 10]
    rw [← ih]
    by_cases hm : m < 10
    · rw [codes_small hm, show m / 10 = 0 by lia, codes_small (by decide), Nat.mod_eq_of_lt hm]
      show List.replicate (n + 1) 48 ++ [48 + m] = List.replicate n 48 ++ [48] ++ [48 + m]
      rw [List.replicate_succ']
    · rw [codes_big (by lia), List.length_append, ← List.append_assoc]
      congr 2
      show List.replicate (n + 1 + 1 - ((codes (m / 10)).length + 1)) 48 = _
      congr 1
      lia
theorem wide_split : ∀ (n m : Nat), wide n m = codes (m / 10 ^ n) ++ (List.range n).reverse.map fun (i : Nat) => 48 + m / 10 ^ i % 10
  | 0, m => by
    show codes m = _
    rw [Nat.pow_zero, Nat.div_one, List.range_zero, List.reverse_nil, List.map_nil, List.append_nil]
  | n + 1, m => by
    show wide n (m / 10) ++ [48 + m % 10] = _
    rw [wide_split n (m / 10), Nat.div_div_eq_div_mul, show 10 * 10 ^ n = 10 ^ (n + 1) by rw [Nat.pow_succ, Nat.mul_comm], List.append_assoc, List.range_succ_eq_map, List.reverse_cons, List.map_append, ← List.map_reverse, List.map_map]
    congr 2
    · refine List.map_congr_left fun i _ => ?_
      show 48 + m / 10 / 10 ^ i % 10 = 48 + m / 10 ^ (i + 1) % 10
      rw [Nat.div_div_eq_div_mul, show 10 * 10 ^ i = 10 ^ (i + 1) by rw [Nat.pow_succ, Nat.mul_comm]]
    · show [48 + m % 10] = [48 + m / 10 ^ 0 % 10]
      rw [Nat.pow_zero, Nat.div_one]
theorem decimals_is (z : Int) (n : Nat) (h : z.natAbs < 10 ^ 400) : decimals (decide (z < 0)) z.natAbs n = (((if z < 0 then [45] else []) ++ codes (z.natAbs / 10 ^ n) ++ (if n = 0 then [] else 46 :: (List.range n).reverse.map fun (i : Nat) => 48 + z.natAbs / 10 ^ i % 10) : List Nat)).map fun (c : Nat) => (c : Int) := by
  unfold decimals
  rw [figures_codes 400 _ (Nat.lt_of_le_of_lt (Nat.div_le_self _ _) h) (by decide), List.map_append, List.map_append, List.append_assoc]
  congr 1
  · by_cases hz : z < 0
    · rw [if_pos hz, if_pos ⟨decide_eq_true hz, by lia⟩]
      rfl
    · rw [if_neg hz, if_neg (by simp [hz])]
      rfl
  · congr 1
    by_cases hn : n = 0
    · rw [if_pos hn, if_pos hn]
      rfl
    · rw [if_neg hn, if_neg hn, List.map_cons, List.map_map]
      rfl
theorem dv_mul {p : Int} (A : List Int) (t : Int) : dv p (A.map fun (z : Int) => z * t) = scaled (t : Rat) (dv p A) := by
  unfold dv scaled
  rw [List.map_map, List.map_map]
  refine List.map_congr_left fun z _ => ?_
  show ((z * t : Int) : Rat) / (p : Rat) = (t : Rat) * ((z : Rat) / (p : Rat))
  rw [Rat.intCast_mul, Rat.div_def, Rat.div_def]
  grind
theorem dv_neg {p : Int} (A : List Int) : dv p (A.map fun (z : Int) => -z) = scaled (-1) (dv p A) := by
  unfold dv scaled
  rw [List.map_map, List.map_map]
  refine List.map_congr_left fun z _ => ?_
  show ((-z : Int) : Rat) / (p : Rat) = -1 * ((z : Rat) / (p : Rat))
  rw [Rat.intCast_neg, Rat.div_def, Rat.div_def]
  grind
theorem half_num {d : Nat} (h : 1 ≤ d) : dv 2 (1 :: List.replicate (d - 1) 0) = scaled (1 / 2) (oneIn d) := by
  obtain ⟨m, rfl⟩ : ∃ m, d = m + 1 := ⟨d - 1, by lia⟩
  rw [oneIn_succ]
  unfold dv scaled
  rw [List.map_cons, List.map_cons, List.map_replicate, List.map_replicate, Nat.add_sub_cancel]
  have e1 : ((1 : Int) : Rat) / ((2 : Int) : Rat) = 1 / 2 * 1 := by
    rw [Rat.mul_one]
    rfl
  have e2 : ((0 : Int) : Rat) / ((2 : Int) : Rat) = 1 / 2 * 0 := by
    rw [Rat.mul_zero, Rat.intCast_zero, Rat.div_def, Rat.zero_mul]
  rw [e1, e2]
theorem scaled_scaled (s t : Rat) (a : Num) : scaled s (scaled t a) = scaled (s * t) a := by
  unfold scaled
  rw [List.map_map]
  refine List.map_congr_left fun z _ => ?_
  show s * (t * z) = s * t * z
  grind
noncomputable def near (c : List Int) (x : Num) (k : Nat) : Int := if signIn c x k < 0 then -floorOf c (Root.plus (scaled (-1) x) (scaled (1 / 2) (oneIn c.length))) k else floorOf c (Root.plus x (scaled (1 / 2) (oneIn c.length))) k
theorem scaled_frac {t : Rat} (ht : t ≠ 0) (a : Num) : isFraction (scaled t a) = isFraction a := by
  unfold isFraction scaled
  rw [← List.map_drop, List.all_map]
  congr 1
  funext x
  show (t * x == 0) = (x == 0)
  rw [Bool.eq_iff_iff, beq_iff_eq, beq_iff_eq]
  constructor
  · intro h
    rcases Rat.mul_eq_zero.mp h with z | z
    · exact absurd z ht
    · exact z
  · intro h
    rw [h, Rat.mul_zero]
theorem sign_mul {t x : Rat} (ht : 0 < t) : signOf (t * x) = signOf x := by
  rcases Rat.le_total (a := x) (b := 0) with z | z
  · by_cases e : x = 0
    · rw [e, Rat.mul_zero]
    · rw [sign_neg (x := x) (by grind), sign_neg]
      have : 0 < t * (-x) := Rat.mul_pos ht (by grind)
      grind
  · by_cases e : x = 0
    · rw [e, Rat.mul_zero]
    · rw [sign_pos (x := x) (by grind), sign_pos]
      exact Rat.mul_pos ht (by grind)
theorem fd_of {c : List Int} (h : refusal c = 0) {a : Num} (ha : a.length = c.length) (hfr : isFraction a = false) : Fd c := ⟨h, by
  have f1 := (ok_field h).1
  false_or_by_contra
  rename_i hn
  match a, ha with
  | [], ha => simp at ha; lia
  | [x], _ => exact absurd hfr (by simp [isFraction])
  | x :: y :: l, ha => simp at ha; lia⟩
theorem at_scaled0 (t : Rat) (a : Num) : at_ (scaled t a) 0 = t * at_ a 0 := by
  cases a with
  | nil => show (0 : Rat) = t * 0; grind
  | cons x l => rfl
theorem sign_scaled {c : List Int} (h : refusal c = 0) {k : Nat} (hk : k < places c) {a : Num} (ha : a.length = c.length) {t : Rat} (ht : 0 < t) : signIn c (scaled t a) k = signIn c a k := by
  have ht0 : t ≠ 0 := fun z => by rw [z] at ht; exact absurd ht (by decide)
  cases hfr : isFraction a with
  | true =>
    unfold signIn
    rw [if_pos hfr, if_pos (by rw [scaled_frac ht0]; exact hfr), at_scaled0, sign_mul ht]
  | false =>
    have hF := fd_of h ha hfr
    obtain ⟨lo, hi, a1, a2, a3⟩ := sign_ok hF hk ha
    refine Sg.unique hF (sign_ok hF hk (by rw [scaled_length]; exact ha)) ⟨lo, hi, a1, a2, fun z z1 z2 => ?_⟩
    rw [scaled_at, sign_mul ht]
    exact a3 z z1 z2
theorem near_nonneg {c : List Int} (h : refusal c = 0) {k : Nat} (hk : k < places c) {a : Num} (ha : a.length = c.length) {t : Rat} (ht : 0 < t) : 0 ≤ floorOf c (Root.plus (scaled ((signIn c a k : Rat) * t) a) (scaled (1 / 2) (oneIn c.length))) k := by
  have f1 := (ok_field h).1
  have hlen : (Root.plus (scaled ((signIn c a k : Rat) * t) a) (scaled (1 / 2) (oneIn c.length))).length = c.length := by
    rw [plus_length, scaled_length, scaled_length, oneIn_length, ha]
    lia
  have key : ∀ v : Rat, signOf v = signIn c a k → 0 ≤ (signIn c a k : Rat) * t * v := fun v hv => by
    rcases Rat.le_total (a := v) (b := 0) with z | z
    · by_cases e : v = 0
      · rw [e, Rat.mul_zero]
        exact Rat.le_refl
      · have h1 : signIn c a k = -1 := by rw [← hv, sign_neg (by grind)]
        rw [h1]
        have : 0 < t * (-v) := Rat.mul_pos ht (by grind)
        show 0 ≤ ((-1 : Int) : Rat) * t * v
        rw [show ((-1 : Int) : Rat) = -1 from rfl]
        grind
    · by_cases e : v = 0
      · rw [e, Rat.mul_zero]
        exact Rat.le_refl
      · have h1 : signIn c a k = 1 := by rw [← hv, sign_pos (by grind)]
        rw [h1]
        have : 0 < t * v := Rat.mul_pos ht (by grind)
        show 0 ≤ ((1 : Int) : Rat) * t * v
        rw [show ((1 : Int) : Rat) = 1 from rfl]
        grind
  generalize hs : signIn c a k = s at *
  cases hfr : isFraction a with
  | true =>
    have hsv : signOf (at_ a 0) = s := by
      rw [← hs]
      unfold signIn
      rw [if_pos hfr]
    have hk1 := key _ hsv
    obtain ⟨x, l, rfl⟩ : ∃ x l, a = x :: l := by
      cases a with
      | nil => simp at ha; lia
      | cons x l => exact ⟨x, l, rfl⟩
    obtain ⟨m, hm⟩ : ∃ m, c.length = m + 1 := ⟨c.length - 1, by lia⟩
    have hl : l.length = m := by simp at ha; lia
    have hz : ∀ y ∈ l, y = 0 := fun y hy => by
      have := List.all_eq_true.mp hfr y (by simpa using hy)
      simpa using this
    have e1 : Root.plus (scaled ((s : Rat) * t) (x :: l)) (scaled (1 / 2) (oneIn c.length)) = ((s : Rat) * t * x + 1 / 2 * 1) :: Root.plus (scaled ((s : Rat) * t) l) (scaled (1 / 2) (List.replicate m 0)) := by
      rw [hm, oneIn_succ]
      rfl
    have hfr2 : isFraction (Root.plus (scaled ((s : Rat) * t) (x :: l)) (scaled (1 / 2) (oneIn c.length))) = true := by
      rw [e1]
      unfold isFraction
      rw [List.drop_succ_cons, List.drop_zero, List.all_eq_true]
      intro y hy
      unfold Root.plus scaled at hy
      obtain ⟨⟨u, v⟩, h1, rfl⟩ := List.mem_map.mp hy
      have hu := List.of_mem_zip h1
      obtain ⟨w, hw, rfl⟩ := List.mem_map.mp hu.1
      obtain ⟨w', hw', rfl⟩ := List.mem_map.mp hu.2
      rw [hz w hw, List.eq_of_mem_replicate hw']
      show ((s : Rat) * t * 0 + 1 / 2 * 0 == 0) = true
      rw [Rat.mul_zero, Rat.mul_zero, Rat.add_zero]
      rfl
    unfold floorOf
    rw [if_pos hfr2, e1]
    show 0 ≤ ((s : Rat) * t * x + 1 / 2 * 1).floor
    have hx : 0 ≤ (s : Rat) * t * x := hk1
    obtain ⟨g1, g2⟩ := floor_facts ((s : Rat) * t * x + 1 / 2 * 1)
    generalize ((s : Rat) * t * x + 1 / 2 * 1).floor = r at *
    have : (0 : Rat) < (r : Rat) + 1 := by grind
    have : (0 : Int) < r + 1 := by
      refine Rat.intCast_lt_intCast.mp ?_
      rw [Rat.intCast_add]
      exact this
    lia
  | false =>
    have hF := fd_of h ha hfr
    obtain ⟨lo, hi, a1, a2, a3⟩ := sign_ok hF hk ha
    obtain ⟨lo2, hi2, b1, b2, b3⟩ := floor_ok hF hk hlen
    obtain ⟨z, z1, z2, z3, z4⟩ := meet hF a1 a2 b1 b2
    have k1 := key _ ((a3 z z1 z2).trans hs)
    obtain ⟨k2, k3⟩ := b3 z z3 z4
    rw [plus_at _ _ _ (by rw [scaled_length, scaled_length, oneIn_length]; exact ha), scaled_at, scaled_at, oneIn_at f1] at k3
    generalize floorOf c (Root.plus (scaled ((s : Rat) * t) a) (scaled (1 / 2) (oneIn c.length))) k = r at *
    have : (0 : Rat) < (r : Rat) + 1 := by grind
    have : (0 : Int) < r + 1 := by
      refine Rat.intCast_lt_intCast.mp ?_
      rw [Rat.intCast_add]
      exact this
    lia
theorem floor_bd {c : List Int} (h : refusal c = 0) {k : Nat} (hk : k < places c) {A : List Int} {p : Int} (hp : 0 < p) (hA : A.length = c.length) {b : Nat} (hb : ∀ z ∈ A, z.natAbs ≤ 2 ^ b) : (floorOf c (dv p A) k).natAbs ≤ 2 ^ (b + 53) := by
  have f1 := (ok_field h).1
  cases hfr : isFraction (dv p A) with
  | true =>
    obtain ⟨a, l, rfl⟩ : ∃ a l, A = a :: l := by
      cases A with
      | nil => simp at hA; lia
      | cons a l => exact ⟨a, l, rfl⟩
    rw [floor_frac hp a l k hfr]
    have h1 := Int.natAbs_ediv_le_natAbs a p
    have h2 := hb a (by simp)
    have h3 : 2 ^ b ≤ 2 ^ (b + 53) := Nat.pow_le_pow_right (by decide) (by lia)
    lia
  | false =>
    have hF := fd_of h (a := dv p A) (by rw [dv_length]; exact hA) hfr
    have h4 := hF.four
    obtain ⟨lo, hi, a1, a2, a3⟩ := floor_ok hF hk (a := dv p A) (by rw [dv_length]; exact hA)
    obtain ⟨i, h1, h2⟩ := place_ok hF hk
    obtain ⟨z, z1, z2, z3, z4⟩ := meet hF a1 a2 i.lo i.hi
    obtain ⟨k1, k2⟩ := a3 z z1 z2
    have hbd := poly_bd2 (rI A) (few_rI hb) z (by grind) (by grind)
    have hm : p2 (b + 13 * (rI A).length) ≤ p2 (b + 52) := p2_mono (by rw [rI_length]; lia)
    have hp1 : (1 : Rat) ≤ (p : Rat) := by
      have : ((1 : Int) : Rat) ≤ (p : Rat) := Rat.intCast_le_intCast.mpr (by lia)
      exact this
    have e := rI_at hp A z
    have s1 : p2 (b + 53) = p2 (b + 52) + p2 (b + 52) := p2_step rfl
    have s0 : (1 : Rat) ≤ p2 (b + 52) := by
      have := p2_mono (Nat.zero_le (b + 52))
      rw [p2_zero] at this
      exact this
    generalize polyAt (dv p A) z = y at *
    generalize polyAt (rI A) z = w at *
    generalize floorOf c (dv p A) k = t at *
    have y1 : -p2 (b + 52) ≤ y ∧ y ≤ p2 (b + 52) := by
      constructor
      · refine Rat.not_lt.mp fun q => ?_
        have : 0 ≤ ((p : Rat) - 1) * (-y) := Rat.mul_nonneg (by grind) (by grind)
        grind
      · refine Rat.not_lt.mp fun q => ?_
        have : 0 ≤ ((p : Rat) - 1) * y := Rat.mul_nonneg (by grind) (by grind)
        grind
    exact int_abs_le (n := b + 53) (by grind) (by grind)
theorem digits_near {c : List Int} (h : refusal c = 0) {k : Nat} (hk : k < places c) {A : List Int} {p : Int} (hp : 0 < p) (hA : A.length = c.length) {T : Nat} (hT : 0 < T) (n : Nat) :
    decimals (decide (signIn c (dv p A) k < 0)) (floorOf c (Root.plus (scaled ((signIn c (dv p A) k * (T : Nat) : Int) : Rat) (dv p A)) (scaled (1 / 2) (oneIn c.length))) k).toNat n = decimals (decide (near c (dv p (A.map fun (z : Int) => z * (T : Int))) k < 0)) (near c (dv p (A.map fun (z : Int) => z * (T : Int))) k).natAbs n := by
  have hT' : (0 : Rat) < ((T : Int) : Rat) := Rat.intCast_pos.mpr (by lia)
  have hl : (dv p A).length = c.length := by rw [dv_length]; exact hA
  have hnn := near_nonneg h hk hl hT'
  have f1 := (ok_field h).1
  unfold near
  rw [dv_mul, sign_scaled h hk hl hT', scaled_scaled, Rat.intCast_mul]
  have hval : signIn c (dv p A) k = 0 ∨ signIn c (dv p A) k = -1 ∨ signIn c (dv p A) k = 1 := by
    by_cases hz : ∃ z ∈ A, z ≠ 0
    · rw [sign_floor h hk hp hA hz]
      split
      · exact .inr (.inl rfl)
      · exact .inr (.inr rfl)
    · refine .inl ?_
      have hz' : ∀ z ∈ A, z = 0 := fun z hz' => by
        false_or_by_contra
        rename_i h0
        exact hz ⟨z, hz', h0⟩
      have hfr : isFraction (dv p A) = true := by
        rw [frac_dv hp]
        have : ((A.drop 1).any fun (z : Int) => z != 0) = false := List.any_eq_false.mpr fun z hz'' => by
          have := hz' z (List.mem_of_mem_drop hz'')
          simpa using this
        rw [this]
        rfl
      unfold signIn
      rw [if_pos hfr]
      obtain ⟨a, l, rfl⟩ : ∃ a l, A = a :: l := by
        cases A with
        | nil => simp at hA; lia
        | cons a l => exact ⟨a, l, rfl⟩
      have ha := hz' a (by simp)
      subst ha
      show signOf (((0 : Int) : Rat) / (p : Rat)) = 0
      rw [Rat.intCast_zero, Rat.div_def, Rat.zero_mul]
      decide
  rcases hval with e | e | e
  · -- it is 0
    have hz : scaled ((0 : Int) : Rat) (dv p A) = dv p A := by
      have hz' : ∀ z ∈ A, z = 0 := fun z hz => by
        false_or_by_contra
        rename_i hn
        rw [sign_floor h hk hp hA ⟨z, hz, hn⟩] at e
        split at e <;> lia
      unfold scaled dv
      rw [List.map_map]
      refine List.map_congr_left fun z hz'' => ?_
      rw [hz' z hz'']
      show ((0 : Int) : Rat) * (((0 : Int) : Rat) / (p : Rat)) = _
      rw [Rat.intCast_zero, Rat.div_def, Rat.zero_mul, Rat.zero_mul]
    have hz2 : ∀ t : Rat, scaled t (dv p A) = dv p A := fun t => by
      rw [← hz, scaled_scaled, Rat.intCast_zero, Rat.mul_zero]
    rw [e] at hnn ⊢
    rw [if_neg (by decide), hz2, hz2]
    rw [hz2] at hnn
    rw [decide_eq_false (by decide), decide_eq_false (by lia)]
    congr 1
    lia
  · rw [e] at hnn ⊢
    rw [if_pos (by decide)]
    have e1 : ((-1 : Int) : Rat) = -1 := rfl
    rw [e1] at hnn ⊢
    generalize floorOf c (Root.plus (scaled (-1 * ((T : Int) : Rat)) (dv p A)) (scaled (1 / 2) (oneIn c.length))) k = r at *
    unfold decimals
    rw [show (-r).natAbs = r.toNat by lia, decide_eq_true (by decide)]
    congr 1
    by_cases hr : r = 0
    · subst hr
      rfl
    · rw [decide_eq_true (show -r < 0 by lia)]
  · rw [e] at hnn ⊢
    rw [if_neg (by decide)]
    have e1 : ((1 : Int) : Rat) = 1 := rfl
    rw [e1, Rat.one_mul] at hnn ⊢
    generalize floorOf c (Root.plus (scaled ((T : Int) : Rat) (dv p A)) (scaled (1 / 2) (oneIn c.length))) k = r at *
    rw [decide_eq_false (by decide), decide_eq_false (show ¬ r < 0 by lia)]
    congr 1
    lia
end Rr

end
section
set_option linter.all false
set_option maxHeartbeats 4000000
namespace Rr
open Root

end Rr

end
section
set_option linter.all false
set_option maxHeartbeats 4000000
namespace Rr
open Root
end Rr

end
section
set_option linter.all false
set_option maxHeartbeats 4000000
namespace Rr
open Root
end Rr

end
section
set_option linter.all false
namespace Rr
open Root
end Rr

end
section
set_option linter.all false
namespace Rr
open Root
end Rr

end
section
set_option linter.all false
namespace Rr
open Root
end Rr

end
section
set_option linter.all false
namespace Rr
open Root
theorem svI_monic {b : Int} (hb : b % 2 = 0) (t : Int) : ∀ c : List Int, (svI (c ++ [1]) t b) % 2 = t ^ c.length % 2
  | [] => by
    show (0 * t + 1 * b ^ 0) % 2 = t ^ 0 % 2
    rw [Int.pow_zero, Int.pow_zero]
    lia
  | a :: l => by
    have ih := svI_monic hb t l
    show (svI (l ++ [1]) t b * t + a * b ^ (l ++ [1]).length) % 2 = t ^ (l.length + 1) % 2
    have e1 : (l ++ [1]).length = l.length + 1 := by rw [List.length_append]; rfl
    have e2 : (a * b ^ (l.length + 1)) % 2 = 0 := by
      rw [Int.pow_succ, ← Int.mul_assoc, Int.mul_emod, hb, Int.mul_zero]
      rfl
    rw [e1, Int.add_emod, e2, Int.add_zero, Int.emod_emod_of_dvd _ (Int.dvd_refl 2), Int.pow_succ, Int.mul_emod, ih, ← Int.mul_emod]
theorem pow_par (t : Int) : ∀ n : Nat, 1 ≤ n → t ^ n % 2 = t % 2
  | 1, _ => by rw [Int.pow_succ, Int.pow_zero, Int.one_mul]
  | n + 2, _ => by
    rw [Int.pow_succ, Int.mul_emod, pow_par t (n + 1) (by lia), ← Int.mul_emod]
    have h : t % 2 = 0 ∨ t % 2 = 1 := by lia
    rw [Int.mul_emod]
    rcases h with h | h <;> rw [h] <;> rfl
theorem svI_apart {c : List Int} (hc : 1 ≤ c.length) {n : Nat} (hn : 1 ≤ n) (t : Int) : svI (c ++ [1]) t ((2 ^ n : Nat) : Int) - svI (c ++ [1]) (t + 1) ((2 ^ n : Nat) : Int) ≠ 0 := by
  have hb : ((2 ^ n : Nat) : Int) % 2 = 0 := by
    obtain ⟨m, rfl⟩ : ∃ m, n = m + 1 := ⟨n - 1, by lia⟩
    rw [Nat.pow_succ]
    lia
  have h1 := svI_monic hb t c
  have h2 := svI_monic hb (t + 1) c
  rw [pow_par _ _ hc] at h1 h2
  lia
theorem Fd.far_lo {c : List Int} (h : Fd c) {k : Nat} {x : Rat} (hx : x ≤ -1001) : Lo c k x := by
  false_or_by_contra
  rename_i hn
  have := h.lo_lt (lo_far h k) hn
  grind
theorem Fd.far_hi {c : List Int} (h : Fd c) {k : Nat} (hk : k < places c) {x : Rat} (hx : 1001 ≤ x) : ¬ Lo c k x := fun hl => by
  have := h.lo_lt hl (hi_far h hk)
  grind
theorem At.of {c : List Int} (h : Fd c) {k : Nat} (hk : k < places c) {r : Int} {n : Nat} (h1 : Lo c k ((r : Rat) / (((2 ^ n : Nat) : Int) : Rat))) (h2 : ¬ Lo c k (((r + 1 : Int) : Rat) / (((2 ^ n : Nat) : Int) : Rat))) : At c k r ((2 ^ n : Nat) : Int) := by
  have hB := Nat.two_pow_pos n
  have g1 := h.lo_lt (lo_far h k) h2
  have g2 := h.lo_lt h1 (hi_far h hk)
  generalize hb : ((2 ^ n : Nat) : Int) = B at *
  have b0 : 0 < B := by lia
  have b1 : 0 < (B : Rat) := Rat.intCast_pos.mpr b0
  have b2 : (B : Rat) ≠ 0 := fun z => by rw [z] at b1; exact absurd b1 (by decide)
  have e1 : (r : Rat) / (B : Rat) * (B : Rat) = (r : Rat) := Rat.div_mul_cancel b2
  have e2 : ((r + 1 : Int) : Rat) / (B : Rat) * (B : Rat) = ((r + 1 : Int) : Rat) := Rat.div_mul_cancel b2
  refine ⟨b0, h1, h2, ?_, ?_⟩
  · have : ((-1001 * B : Int) : Rat) < ((r + 1 : Int) : Rat) := by
      rw [← e2, Rat.intCast_mul]
      have := Rat.mul_pos (show 0 < ((r + 1 : Int) : Rat) / (B : Rat) - (-1001) by grind) b1
      generalize ((r + 1 : Int) : Rat) / (B : Rat) = x at *
      have e : (((-1001 : Int)) : Rat) = -1001 := by rfl
      rw [e]
      grind
    have := Rat.intCast_lt_intCast.mp this
    lia
  · have : ((r : Int) : Rat) < ((1001 * B : Int) : Rat) := by
      rw [← e1, Rat.intCast_mul]
      have := Rat.mul_pos (show 0 < 1001 - (r : Rat) / (B : Rat) by grind) b1
      generalize (r : Rat) / (B : Rat) = x at *
      have e : (((1001 : Int)) : Rat) = 1001 := by rfl
      rw [e]
      grind
    have := Rat.intCast_lt_intCast.mp this
    lia
theorem wide_lo {c : List Int} (h : Fd c) {k : Nat} {x : Int} {n : Nat} (hx : x ≤ -(1001 * ((2 ^ n : Nat) : Int))) : Lo c k ((x : Rat) / (((2 ^ n : Nat) : Int) : Rat)) := by
  refine h.far_lo ?_
  have hB := Nat.two_pow_pos n
  generalize hb : ((2 ^ n : Nat) : Int) = B at *
  have b1 : 0 < (B : Rat) := Rat.intCast_pos.mpr (by lia)
  have b2 : (B : Rat) ≠ 0 := fun z => by rw [z] at b1; exact absurd b1 (by decide)
  have e1 : (x : Rat) / (B : Rat) * (B : Rat) = (x : Rat) := Rat.div_mul_cancel b2
  have h3 : (x : Rat) ≤ ((-(1001 * B) : Int) : Rat) := Rat.intCast_le_intCast.mpr hx
  rw [Rat.intCast_neg, Rat.intCast_mul] at h3
  have e : (((1001 : Int)) : Rat) = 1001 := by rfl
  rw [e] at h3
  generalize (x : Rat) / (B : Rat) = y at *
  false_or_by_contra
  rename_i z
  have := Rat.mul_pos (show 0 < y - (-1001) by grind) b1
  grind
theorem wide_hi {c : List Int} (h : Fd c) {k : Nat} (hk : k < places c) {x : Int} {n : Nat} (hx : 1001 * ((2 ^ n : Nat) : Int) ≤ x) : ¬ Lo c k ((x : Rat) / (((2 ^ n : Nat) : Int) : Rat)) := by
  refine h.far_hi hk ?_
  have hB := Nat.two_pow_pos n
  generalize hb : ((2 ^ n : Nat) : Int) = B at *
  have b1 : 0 < (B : Rat) := Rat.intCast_pos.mpr (by lia)
  have b2 : (B : Rat) ≠ 0 := fun z => by rw [z] at b1; exact absurd b1 (by decide)
  have e1 : (x : Rat) / (B : Rat) * (B : Rat) = (x : Rat) := Rat.div_mul_cancel b2
  have h3 : ((1001 * B : Int) : Rat) ≤ (x : Rat) := Rat.intCast_le_intCast.mpr hx
  rw [Rat.intCast_mul] at h3
  have e : (((1001 : Int)) : Rat) = 1001 := by rfl
  rw [e] at h3
  generalize (x : Rat) / (B : Rat) = y at *
  false_or_by_contra
  rename_i z
  have := Rat.mul_pos (show 0 < 1001 - y by grind) b1
  grind
end Rr

end
set_option Elab.async false
set_option linter.all false
set_option maxRecDepth 100000
set_option maxHeartbeats 4000000
namespace Rr
open PySem PySem.Spec PyProof.Rows L2
open PySem.W (Codec)
noncomputable def IL (K : PySem.W.Frag) (H : Hp) (v : V) (l : List Int) : Prop := ∃ a, v = .ref a ∧ SqL K H a (l.map V.int)
noncomputable def OL (H : Hp) (v : V) (l : List Int) : Prop := ∃ a, v = .ref a ∧ H a = some (.lst (l.map V.int))
theorem OL.il {K : PySem.W.Frag} {H : Hp} {v : V} {l : List Int} (h : OL H v l) : IL K H v l := let ⟨a, e, q⟩ := h; ⟨a, e, SqL.of q⟩
theorem same_upd {H : Hp} {p : Addr} {o : HO} (h : H p = none) : Same H (upd H p o) := fun b u e => by
  rw [upd_ne (ne_of_none e h)]
  exact e
theorem same_upd2 {H H' : Hp} {p : Addr} {o : HO} (s : Same H H') (h : H p = none) : Same H (upd H' p o) := fun b u e => by
  rw [upd_ne (ne_of_none e h)]
  exact s b u e
theorem args1 {α : Type} {us : List α} (h : us.length = 1) : ∃ a, us = [a] := match us, h with | [a], _ => ⟨a, rfl⟩
theorem args2 {α : Type} {us : List α} (h : us.length = 2) : ∃ a b, us = [a, b] := match us, h with | [a, b], _ => ⟨a, b, rfl⟩
theorem args3 {α : Type} {us : List α} (h : us.length = 3) : ∃ a b c, us = [a, b, c] := match us, h with | [a, b, c], _ => ⟨a, b, c, rfl⟩
theorem args4 {α : Type} {us : List α} (h : us.length = 4) : ∃ a b c d, us = [a, b, c, d] := match us, h with | [a, b, c, d], _ => ⟨a, b, c, d, rfl⟩
theorem args5 {α : Type} {us : List α} (h : us.length = 5) : ∃ a b c d e, us = [a, b, c, d, e] := match us, h with | [a, b, c, d, e], _ => ⟨a, b, c, d, e, rfl⟩
structure Cal (P : Program) (w : World) (K : PySem.W.Frag) (mg : Str → Option Value) (base : Heap) (k : Nat) (x : Str) (ps : List Str) (sp : Sp) : Prop where
  ex : ∃ (f : Addr) (fd : FuncData), FnOk P w K mg base CX0 k f fd ps sp ∧ mg x = some (.ref f) ∧ PySem.W.keepIn K (.ref f) = true ∧ Binds K fd ps []
theorem pe_cal {X : Cx} {k : Nat} {x : Str} {ps : List Str} {sp : Sp} {e : Expr} {es : List Expr} {t : TA} {p pos : Pos} (C : Cal X.prog X.w X.K X.mg X.base k x ps sp) (hr : Room k X.A) (hg : Gl X x) (ha : PA X (e :: es) t)
    (hdb : (x == ("__debug__" : Str)) = false := by decide) (he : starEach (e :: es) X.env = (false, eval e X.env) :: starEach es X.env := by rfl) (hpl : (backTo pos (starEach es X.env)).any (·.1) = false := by rfl) :
    PE X (.Call (.Name x p) (e :: es) [] pos) (tCall sp [] E0 t) := by
  obtain ⟨f, fd, F, hm, hk, hb⟩ := C.ex
  exact pe_call F hr hg hm hk hb .nil pass0 ha hdb he hpl
theorem op_fdivW {X : Cx} : OpR X (binaryOp .FloorDiv) (L2.rI (fun _ j => 0 < j ∧ j.natAbs.log2 < 9000) fun i j => .int (i / j)) := opI fun i j _ _ _ _ _ hc q => by
  have h1 : (0 : Int) < j := hc.1
  exact floordiv_int (by lia) (by rw [Int.fdiv_eq_ediv_of_nonneg i (by lia)]; exact q) (.inl (PyProof.noPylong_of_log2 hc.2))
theorem op_mulW {X : Cx} : OpR X (binaryOp .Mult) (L2.rI IntMulOk fun i j => .int (i * j)) := opI fun _ _ _ _ _ _ _ hc q => mul_int q hc
theorem op_shlW {X : Cx} : OpR X (binaryOp .LShift) (L2.rI (fun i j => 0 ≤ j ∧ (Builtin.Int.intBits i : Int) + j ≤ 2 ^ 27) fun i j => .int (i * 2 ^ j.toNat)) := opI fun _ _ _ _ _ _ _ hc q => lshift_int hc.1 hc.2 q
theorem abs_is (i : Int) : (if i < 0 then -i else i) = (i.natAbs : Int) := by split <;> lia
structure Own (mg : Str → Option Value) : Prop where
  abs_ : mg "abs" = none
  len_ : mg "len" = none
  all_ : mg "all" = none
  any_ : mg "any" = none
  list_ : mg "list" = none
  reversed_ : mg "reversed" = none
  range_ : mg "range" = none
  max_ : mg "max" = none
  min_ : mg "min" = none
  zip_ : mg "zip" = none
  ord_ : mg "ord" = none
  str_ : mg "str" = none
theorem bt_abs : bootBuiltins "abs" = some (.builtin "abs") := by decide +kernel
theorem bt_len : bootBuiltins "len" = some (.builtin "len") := by decide +kernel
theorem bt_all : bootBuiltins "all" = some (.builtin "all") := by decide +kernel
theorem bt_any : bootBuiltins "any" = some (.builtin "any") := by decide +kernel
theorem bt_max : bootBuiltins "max" = some (.builtin "max") := by decide +kernel
theorem bt_min : bootBuiltins "min" = some (.builtin "min") := by decide +kernel
theorem bt_ord : bootBuiltins "ord" = some (.builtin "ord") := by decide +kernel
theorem bt_str : bootBuiltins "str" = some (.type "str") := by decide +kernel
theorem bt_list : bootBuiltins "list" = some (.type "list") := by decide +kernel
noncomputable def Kst (mg : Str → Option Value) (x : Str) (v : Int) : Prop := ∃ t : Tok, mg x = some (.int v t)
theorem pe_globK {X : Cx} {x : Str} {v : Int} {pos : Pos} (hg : Gl X x) (c : Kst X.mg x v) (hd : (x == ("__debug__" : Str)) = false := by decide) : PE X (.Name x pos) (tC (.int v)) := by
  obtain ⟨t, e⟩ := c
  exact pe_glob (v := .int v) hg e ⟨_, rfl⟩ hd
noncomputable def tBits (to : TE) : TE := fun σ H Q => to σ H fun x H1 => ∃ a, x = .int a ∧ Q (.int (Builtin.Int.intBits a)) H1
theorem pe_bits {X : Cx} {o : Expr} {to : TE} {apos pos : Pos} (ho : PE X o to) (hbase : attributeBase o "bit_length" X.env (eval o X.env) = eval o X.env := by rfl) (hline : (apos.endLine == pos.line) = true := by rfl) :
    PE X (.Call (.Attribute o "bit_length" apos) [] [] pos) (tBits to) := by
  intro pins s σ H Q I h
  refine PySem.Call_method0 hbase hline (thn (ho pins s σ H _ I h) fun v s1 ⟨x, H1, I1, r1, q1⟩ => ?_)
  obtain ⟨a, rfl, q1⟩ := q1
  obtain ⟨t, rfl⟩ := _root_.id r1
  exact ⟨"int", _, F.plainAttrs_int, F.slot_int_bit_length, F.type_int_bit_length, typeIs_int _ _ _, (fun _ e => nomatch e), Calls.callWith_builtin rfl (PySem.evalArgs_none (call_int_bit_length ⟨.int _, H1, I1.tok _, ⟨_, rfl⟩, q1⟩))⟩
theorem int_eq {x y : Int} (h : decide (V.int x = V.int y) = true) : x = y := V.int.inj (of_decide_eq_true h)
theorem int_ne {x y : Int} (h : ¬ decide (V.int x = V.int y) = true) : x ≠ y := fun e => h (decide_eq_true (by rw [e]))
theorem dec_int (x y : Int) : decide (V.int x = V.int y) = decide (x = y) := by
  by_cases h : x = y
  · rw [h]; simp
  · have : ¬ V.int x = V.int y := fun e => h (V.int.inj e)
    rw [decide_eq_false h, decide_eq_false this]
theorem nq_ne {x y : Int} (h : (!decide (V.int x = V.int y)) = true) : x ≠ y := fun e => by
  rw [e, decide_eq_true rfl] at h
  cases h
theorem nq_eq {x y : Int} (h : ¬ (!decide (V.int x = V.int y)) = true) : x = y := by
  false_or_by_contra
  rename_i e
  exact h (by rw [decide_eq_false (fun z => e (V.int.inj z))]; rfl)
theorem call_lenK {X : Cx} {K : PySem.W.Frag} (h : X.K = K) : CallR X (.builtin "len") (fun xs H Q => ∃ p ys, xs = [.ref p] ∧ (SqL K H p ys ∨ SqT K H p ys) ∧ Q (.int ys.length) H) := by
  subst h
  exact call_len_seq
theorem ix_listK {X : Cx} {K : PySem.W.Frag} (h : X.K = K) : IxR X (rIxL K) := by
  subst h
  exact ix_list
theorem sl_listK {X : Cx} {K : PySem.W.Frag} (h : X.K = K) : SlR X (rSlL K) := by
  subst h
  exact sl_list
theorem cr_allK {X : Cx} {K : PySem.W.Frag} (h : X.K = K) (hc : X.calm = true) : CallR X (.builtin "all") (rAll K) := by
  subst h
  exact cr_all hc
theorem cr_anyK {X : Cx} {K : PySem.W.Frag} (h : X.K = K) (hc : X.calm = true) : CallR X (.builtin "any") (rAny K) := by
  subst h
  exact cr_any hc
theorem call_list_ofK {X : Cx} {K : PySem.W.Frag} (h : X.K = K) : CallR X (.type "list") (fun xs H Q => ∃ p ys, xs = [.ref p] ∧ (SqL K H p ys ∨ SqT K H p ys) ∧ ∀ l, H l = none → Q (.ref l) (upd H l (.lst ys))) := by
  subst h
  exact call_list_of
theorem pg_tupK {X : Cx} {K : PySem.W.Frag} {es : List Expr} {k : Nat} {t : TGs} {n : Nat} {pos : Pos} (hK : X.K = K) (hc : X.calm = true) (h : PGs X es t)
    (hn : (assignEach es X.env).length = n := by rfl) (hst : (assignEach es X.env).findIdx? (·.1) = none := by rfl) : PG X (.Tuple es k pos) (gTup K n t) := by
  subst hK
  exact pg_tup hc h hn hst
noncomputable def top (i : Nat) : Stmt := PySem.Challenge.pw_rootrows_s12_digits.main.body.getD i (.Pass ⟨0, 0, 0, 0⟩)
noncomputable abbrev s_without_divisor : Stmt := top 3
noncomputable abbrev s_common_divisor : Stmt := top 4
noncomputable abbrev s_halved : Stmt := top 5
noncomputable abbrev s_divided : Stmt := top 6
noncomputable abbrev s_shortened : Stmt := top 7
noncomputable abbrev s_carried_over : Stmt := top 8
noncomputable abbrev s_is_row : Stmt := top 10
noncomputable abbrev s_are_rows : Stmt := top 11
noncomputable abbrev s_is_zero : Stmt := top 12
noncomputable abbrev s_added : Stmt := top 13
noncomputable abbrev s_negated : Stmt := top 14
noncomputable abbrev s_field_refusal : Stmt := top 18
noncomputable abbrev s_is_told_rightly : Stmt := top 19
noncomputable abbrev s_is_product : Stmt := top 20
noncomputable abbrev s_has_whole_root : Stmt := top 21
noncomputable abbrev s_is_product_of_quadratics : Stmt := top 22
noncomputable abbrev s_polynomial_of : Stmt := top 23
noncomputable abbrev s_value_at : Stmt := top 24
noncomputable abbrev s_divisors_of : Stmt := top 25
noncomputable abbrev s_square_root_floor : Stmt := top 26
noncomputable abbrev s_count_places : Stmt := top 30
noncomputable abbrev s_sturm_chain : Stmt := top 31
noncomputable abbrev s_far_below : Stmt := top 32
noncomputable abbrev s_count_changes : Stmt := top 33
noncomputable abbrev s_sign_at : Stmt := top 34
noncomputable abbrev s_nearest_at : Stmt := top 35
noncomputable abbrev s_floor_at : Stmt := top 36
noncomputable abbrev s_parts_at : Stmt := top 37
noncomputable abbrev s_fraction_parts : Stmt := top 38
noncomputable abbrev s_parts_within : Stmt := top 39
noncomputable abbrev s_root_between : Stmt := top 40
noncomputable abbrev s_nearer_root : Stmt := top 41
noncomputable abbrev s_is_root_below : Stmt := top 42
noncomputable abbrev s_scaled_value : Stmt := top 43
noncomputable abbrev s_value_bounds : Stmt := top 44
noncomputable abbrev s_derivative_of : Stmt := top 45
noncomputable abbrev s_scaled_remainder : Stmt := top 46
noncomputable abbrev s_without_end_zeros : Stmt := top 47
noncomputable abbrev s_digits : Stmt := top 50
noncomputable abbrev s_decimal_text : Stmt := top 51
noncomputable abbrev s_refusal_at : Stmt := top 52
noncomputable abbrev s_refusal_of : Stmt := top 53
theorem take_snoc' {α : Type} {l : List α} {i : Nat} {x : α} (h : l[i]? = some x) : l.take (i + 1) = l.take i ++ [x] := by
  rw [List.take_add_one, h]
  rfl
theorem lc_any {α : Type} (emb : α → V) {K : PySem.W.Frag} {a : Addr} {ns : List α} {j : Nat} {tt : TT} {te : TE} {vs : List Nat} {σ : L2.St} {H1 : Hp} {D : Addr} {Q : Hp → Prop} (p : α → Bool) (g : α → V)
    (ha : SqL K H1 a (ns.map emb)) (hn : ns.length < sizeLine) (hD : H1 D = none) (hw : ∀ z : α, wipe ((wipe σ vs).set j (some (emb z))) vs = wipe σ vs)
    (step : ∀ z ∈ ns, ∀ (H : Hp) (Rv : V → Hp → Prop) (R : Hp → Prop), Same H1 H → (∀ H', Same H H' → if p z = true then Rv (g z) H' else R H') →
      tt ((wipe σ vs).set j (some (emb z))) H fun b H3 => if b = true then te ((wipe σ vs).set j (some (emb z))) H3 Rv else R H3)
    (fin : ∀ H', Same H1 H' → H' D = some (.lst ((ns.filter p).map g)) → Q H') :
    ∃ W : Nat → Nat → Hp → Prop, (∃ m, W 0 m (upd H1 D (.lst []))) ∧ ∀ i m H, W i m H →
      ((Itl K a).stop i H ∧ Q H) ∨ ((Itl K a).go i H ∧ ∃ Nx : Hp → Prop, (∀ H', Nx H' → ∃ m', m' < m ∧ W (i + 1) m' H') ∧ ∀ x H', (Itl K a).yld i H x H' → gName j x (wipe σ vs) H' fun σ2 H2 => wipe σ2 vs = wipe σ vs ∧ tt σ2 H2 fun b H3 =>
        if b = true then te σ2 H3 fun y H4 => ∃ acc, H4 D = some (.lst acc) ∧ acc.length < sizeLine ∧ Nx (upd H4 D (.lst (acc ++ [y]))) else Nx H3) := by
  refine lc_list (K := K) (a := a) (xs := ns.map emb) (fun i H => Same H1 H ∧ H D = some (.lst (((ns.take i).filter p).map g))) ⟨same_upd hD, upd_same⟩ (fun i H _ h => h.1.seq ha) (fun i x H hx h => ?_) (fun H h => ?_)
  · obtain ⟨s, e⟩ := h
    rw [List.getElem?_map] at hx
    obtain ⟨z, hz, rfl⟩ := Option.map_eq_some_iff.mp hx
    refine ⟨hw z, step z (List.mem_of_getElem? hz) H _ _ s fun H' s' => ?_⟩
    have e' := s' _ _ e
    have ht : (ns.take (i + 1)).filter p = (ns.take i).filter p ++ [z].filter p := by rw [take_snoc' hz, List.filter_append]
    by_cases hp : p z = true
    · rw [if_pos hp]
      have hp1 : [z].filter p = [z] := by rw [List.filter_cons, if_pos hp, List.filter_nil]
      refine ⟨_, e', ?_, same_upd2 (s.trans s') hD, ?_⟩
      · rw [List.length_map]
        exact Nat.lt_of_le_of_lt (Nat.le_trans (List.length_filter_le _ _) (by rw [List.length_take]; exact Nat.min_le_right _ _)) hn
      · rw [upd_same, ht, hp1, List.map_append]
        rfl
    · rw [if_neg hp]
      have hp1 : [z].filter p = [] := by rw [List.filter_cons, if_neg hp, List.filter_nil]
      refine ⟨s.trans s', ?_⟩
      rw [ht, hp1, List.append_nil]
      exact e'
  · obtain ⟨s, e⟩ := h
    rw [List.length_map, List.take_length] at e
    exact fin H s e
theorem lc_ints {K : PySem.W.Frag} {a : Addr} {ns : List Int} {j : Nat} {tt : TT} {te : TE} {vs : List Nat} {σ : L2.St} {H1 : Hp} {D : Addr} {Q : Hp → Prop} (p : Int → Bool) (g : Int → V)
    (ha : SqL K H1 a (ns.map V.int)) (hn : ns.length < sizeLine) (hD : H1 D = none) (hw : ∀ z : Int, wipe ((wipe σ vs).set j (some (.int z))) vs = wipe σ vs)
    (step : ∀ z ∈ ns, ∀ (H : Hp) (Rv : V → Hp → Prop) (R : Hp → Prop), Same H1 H → (∀ H', Same H H' → if p z = true then Rv (g z) H' else R H') →
      tt ((wipe σ vs).set j (some (.int z))) H fun b H3 => if b = true then te ((wipe σ vs).set j (some (.int z))) H3 Rv else R H3)
    (fin : ∀ H', Same H1 H' → H' D = some (.lst ((ns.filter p).map g)) → Q H') :
    ∃ W : Nat → Nat → Hp → Prop, (∃ m, W 0 m (upd H1 D (.lst []))) ∧ ∀ i m H, W i m H →
      ((Itl K a).stop i H ∧ Q H) ∨ ((Itl K a).go i H ∧ ∃ Nx : Hp → Prop, (∀ H', Nx H' → ∃ m', m' < m ∧ W (i + 1) m' H') ∧ ∀ x H', (Itl K a).yld i H x H' → gName j x (wipe σ vs) H' fun σ2 H2 => wipe σ2 vs = wipe σ vs ∧ tt σ2 H2 fun b H3 =>
        if b = true then te σ2 H3 fun y H4 => ∃ acc, H4 D = some (.lst acc) ∧ acc.length < sizeLine ∧ Nx (upd H4 D (.lst (acc ++ [y]))) else Nx H3) :=
  lc_any V.int p g ha hn hD hw step fin
theorem lc_rng {lo : Int} {n : Nat} {j : Nat} {tt : TT} {te : TE} {vs : List Nat} {σ : L2.St} {H1 : Hp} {D : Addr} {Q : Hp → Prop} (p : Int → Bool) (g : Int → V)
    (hn : n < sizeLine) (hD : H1 D = none) (hw : ∀ z : Int, wipe ((wipe σ vs).set j (some (.int z))) vs = wipe σ vs)
    (step : ∀ i : Nat, i < n → ∀ (H : Hp) (Rv : V → Hp → Prop) (R : Hp → Prop), Same H1 H → (∀ H', Same H H' → if p (lo + i) = true then Rv (g (lo + i)) H' else R H') →
      tt ((wipe σ vs).set j (some (.int (lo + i)))) H fun b H3 => if b = true then te ((wipe σ vs).set j (some (.int (lo + i)))) H3 Rv else R H3)
    (fin : ∀ H', Same H1 H' → H' D = some (.lst ((((List.range n).map fun (i : Nat) => lo + (i : Int)).filter p).map g)) → Q H') :
    ∃ W : Nat → Nat → Hp → Prop, (∃ m, W 0 m (upd H1 D (.lst []))) ∧ ∀ i m H, W i m H →
      ((Itr lo n).stop i H ∧ Q H) ∨ ((Itr lo n).go i H ∧ ∃ Nx : Hp → Prop, (∀ H', Nx H' → ∃ m', m' < m ∧ W (i + 1) m' H') ∧ ∀ x H', (Itr lo n).yld i H x H' → gName j x (wipe σ vs) H' fun σ2 H2 => wipe σ2 vs = wipe σ vs ∧ tt σ2 H2 fun b H3 =>
        if b = true then te σ2 H3 fun y H4 => ∃ acc, H4 D = some (.lst acc) ∧ acc.length < sizeLine ∧ Nx (upd H4 D (.lst (acc ++ [y]))) else Nx H3) := by
  refine lc_range (lo := lo) (n := n) (fun i H => Same H1 H ∧ H D = some (.lst ((((List.range i).map fun (i : Nat) => lo + (i : Int)).filter p).map g))) ⟨same_upd hD, upd_same⟩ (fun i H hi h => ?_) (fun H h => fin H h.1 h.2)
  obtain ⟨s, e⟩ := h
  refine ⟨hw (lo + i), step i hi H _ _ s fun H' s' => ?_⟩
  have e' := s' _ _ e
  have ht : ((List.range (i + 1)).map fun (i : Nat) => lo + (i : Int)).filter p = ((List.range i).map fun (i : Nat) => lo + (i : Int)).filter p ++ [lo + (i : Int)].filter p := by
    rw [List.range_succ, List.map_append, List.filter_append]
    rfl
  by_cases hp : p (lo + i) = true
  · rw [if_pos hp]
    have hp1 : [lo + (i : Int)].filter p = [lo + (i : Int)] := by rw [List.filter_cons, if_pos hp, List.filter_nil]
    refine ⟨_, e', ?_, same_upd2 (s.trans s') hD, ?_⟩
    · rw [List.length_map]
      refine Nat.lt_of_le_of_lt (Nat.le_trans (List.length_filter_le _ _) ?_) hn
      rw [List.length_map, List.length_range]
      exact Nat.le_of_lt hi
    · rw [upd_same, ht, hp1, List.map_append]
      rfl
  · rw [if_neg hp]
    have hp1 : [lo + (i : Int)].filter p = [] := by rw [List.filter_cons, if_neg hp, List.filter_nil]
    refine ⟨s.trans s', ?_⟩
    rw [ht, hp1, List.append_nil]
    exact e'
theorem filter_yes {α : Type} (l : List α) : l.filter (fun _ => true) = l := List.filter_eq_self.mpr fun _ _ => rfl
theorem for_rev {K : PySem.W.Frag} {a : Addr} {xs : List V} {g : TG} {tb : TS} {D : Ends} {σ : L2.St} {H : Hp} (Pv : Nat → L2.St → Hp → Prop) (h0 : Pv 0 σ H) (hl : ∀ i σ H, i ≤ xs.length → Pv i σ H → SqL K H a xs)
    (hs : ∀ i x σ H, xs.reverse[i]? = some x → Pv i σ H → g x σ H fun σ2 H2 => tb { D with nx := Pv (i + 1), ct := Pv (i + 1), bk := D.nx } σ2 H2) (hd : ∀ σ H, Pv xs.length σ H → D.nx σ H) :
    ∃ W : Nat → Nat → L2.St → Hp → Prop, (∃ m, W 0 m σ H) ∧ ∀ i m σ H, W i m σ H →
      ((Itv K a xs.length).stop i H ∧ D.nx σ H) ∨ ((Itv K a xs.length).go i H ∧ ∃ N : L2.St → Hp → Prop, (∀ σ' H', N σ' H' → ∃ m', m' < m ∧ W (i + 1) m' σ' H') ∧ ∀ x H', (Itv K a xs.length).yld i H x H' → g x σ H' fun σ2 H2 => tb { D with nx := N, ct := N, bk := D.nx } σ2 H2) := by
  refine ⟨fun i m σ H => m = xs.length - i ∧ i ≤ xs.length ∧ Pv i σ H, ⟨xs.length, by simp, Nat.zero_le _, h0⟩, ?_⟩
  rintro i m σ H ⟨rfl, hi, p⟩
  have q := hl i σ H hi p
  by_cases hlt : i < xs.length
  · refine .inr ⟨⟨hlt, xs, xs[xs.length - 1 - i], q, by simp [show xs.length - 1 - i < xs.length by omega]⟩, Pv (i + 1), fun σ' H' p' => ⟨xs.length - (i + 1), by omega, rfl, hlt, p'⟩, fun x H' y => ?_⟩
    obtain ⟨e, y⟩ := y
    subst e
    refine hs i x σ _ ?_ p
    rw [List.getElem?_reverse hlt]
    exact y xs q
  · have e : i = xs.length := by omega
    subst e
    exact .inl ⟨Nat.le_refl _, hd σ H p⟩
theorem lc_zip2 {K : PySem.W.Frag} {a b : Addr} {ms ns : List Int} {j1 j2 : Nat} {te : TE} {vs : List Nat} {σ : L2.St} {H1 : Hp} {D : Addr} {Q : Hp → Prop} (g : Int → Int → V)
    (ha : SqL K H1 a (ms.map V.int)) (hb : SqL K H1 b (ns.map V.int)) (hn : ms.length = ns.length) (hlen : ms.length < sizeLine) (hD : H1 D = none)
    (hw : ∀ x y : Int, wipe (((wipe σ vs).set j1 (some (.int x))).set j2 (some (.int y))) vs = wipe σ vs)
    (step : ∀ x ∈ ms, ∀ y ∈ ns, ∀ (H : Hp) (Rv : V → Hp → Prop), Same H1 H → (∀ H', Same H H' → Rv (g x y) H') → te (((wipe σ vs).set j1 (some (.int x))).set j2 (some (.int y))) H Rv)
    (fin : ∀ H', Same H1 H' → H' D = some (.lst (List.zipWith g ms ns)) → Q H') :
    ∃ W : Nat → Nat → Hp → Prop, (∃ m, W 0 m (upd H1 D (.lst []))) ∧ ∀ i m H, W i m H →
      ((Itz K a b).stop i H ∧ Q H) ∨ ((Itz K a b).go i H ∧ ∃ Nx : Hp → Prop, (∀ H', Nx H' → ∃ m', m' < m ∧ W (i + 1) m' H') ∧ ∀ x H', (Itz K a b).yld i H x H' → gTup K 2 (gCons (gName j1) (gCons (gName j2) gNil)) x (wipe σ vs) H' fun σ2 H2 => wipe σ2 vs = wipe σ vs ∧ tYes σ2 H2 fun b H3 =>
        if b = true then te σ2 H3 fun y H4 => ∃ acc, H4 D = some (.lst acc) ∧ acc.length < sizeLine ∧ Nx (upd H4 D (.lst (acc ++ [y]))) else Nx H3) := by
  have hz : (List.zipWith g ms ns).length = ms.length := by rw [List.length_zipWith]; lia
  refine ⟨fun i m H => m = ms.length - i ∧ i ≤ ms.length ∧ Same H1 H ∧ H D = some (.lst ((List.zipWith g ms ns).take i)), ⟨ms.length, by simp, Nat.zero_le _, same_upd hD, upd_same⟩, ?_⟩
  rintro i m H ⟨rfl, hi, s, e⟩
  by_cases hlt : i < ms.length
  · have gx : (ms.map V.int)[i]? = some (V.int ms[i]) := by rw [List.getElem?_map, List.getElem?_eq_getElem hlt]; rfl
    have hlt2 : i < ns.length := by lia
    have gy : (ns.map V.int)[i]? = some (V.int ns[i]) := by rw [List.getElem?_map, List.getElem?_eq_getElem hlt2]; rfl
    refine .inr ⟨⟨_, _, _, _, s.seq ha, s.seq hb, gx, gy⟩, fun H' => Same H1 H' ∧ H' D = some (.lst ((List.zipWith g ms ns).take (i + 1))), fun H' p' => ⟨ms.length - (i + 1), by lia, rfl, hlt, p'.1, p'.2⟩, fun x H' y => ?_⟩
    obtain ⟨T, x1, y1, rfl, hT, rfl, q1, q2⟩ := y
    have ex : x1 = V.int ms[i] := Option.some.inj ((q1 _ (s.seq ha)).symm.trans gx)
    have ey : y1 = V.int ns[i] := Option.some.inj ((q2 _ (s.seq hb)).symm.trans gy)
    subst ex ey
    have sT : Same H (upd H T (.tup [V.int ms[i], V.int ns[i]])) := same_upd hT
    refine ⟨T, _, rfl, SqT.of upd_same, rfl, _, _, rfl, _, _, rfl, rfl, hw _ _, ?_⟩
    refine step ms[i] (List.getElem_mem hlt) ns[i] (List.getElem_mem hlt2) _ _ (s.trans sT) fun H' s' => ?_
    refine ⟨_, s' _ _ (sT _ _ e), ?_, same_upd2 ((s.trans sT).trans s') hD, ?_⟩
    · rw [List.length_take]
      lia
    · have gz : (List.zipWith g ms ns)[i]? = some (g ms[i] ns[i]) := by
        rw [List.getElem?_zipWith, List.getElem?_eq_getElem hlt, List.getElem?_eq_getElem hlt2]
      rw [upd_same, take_snoc' gz]
  · have e' : i = ms.length := by lia
    subst e'
    rw [List.take_of_length_le (by rw [hz]; exact Nat.le_refl _)] at e
    exact .inl ⟨⟨_, _, s.seq ha, s.seq hb, .inl (by rw [List.length_map]; exact Nat.le_refl _)⟩, fin H s e⟩
theorem cut_last (l : List Int) (z : Int) : cutV ((l ++ [z]).map V.int) none (some (-1)) = l.map V.int := by
  unfold cutV
  have e : ((l ++ [z]).map V.int).length = l.length + 1 := by simp
  have e1 : HT.sIx (l.length + 1) (l.length + 1) (some (-1)) = l.length := by
    unfold HT.sIx
    dsimp only
    rw [if_pos (by decide)]
    lia
  rw [e, e1, HT.sIx_none, List.drop_zero, Nat.sub_zero, List.map_append]
  exact List.take_left' (by simp)
theorem at_end (l : List Int) (z : Int) : atI ((l ++ [z]).map V.int) (-1) = some (.int z) := by
  rw [List.map_append]
  exact atI_last (l.map V.int) (V.int z)
theorem at_last {a : List Int} (h : a ≠ []) : atI (a.map V.int) (-1) = some (.int (a.getLastD 0)) := by
  obtain ⟨l, z, rfl⟩ : ∃ (l : List Int) (z : Int), a = l ++ [z] := ⟨a.dropLast, a.getLast h, (List.dropLast_concat_getLast h).symm⟩
  rw [List.map_append]
  have e : (l ++ [z]).getLastD 0 = z := by simp
  rw [e]
  exact atI_last (l.map V.int) (V.int z)
theorem good_at {c : List Int} {i : Nat} (h : i < c.length) : atI (c.map V.int) (i : Int) = some (.int (c.getD i 0)) := by
  refine atI_nat (j := i) ?_
  rw [List.getElem?_map, List.getElem?_eq_getElem h, List.getD_eq_getElem?_getD, List.getElem?_eq_getElem h]
  rfl
theorem get_listK {X : Cx} {K : PySem.W.Frag} (h : X.K = K) : PGet X (rIxL K) := by
  subst h
  intro pins s σ H x y v u Q I rx ry h
  obtain ⟨p, xs, i, z, rfl, rfl, hq, he, q⟩ := h
  cases rx
  obtain ⟨t, rfl⟩ := ry
  obtain ⟨its, r, pl, hz⟩ := I.list hq
  obtain ⟨j, h1, h2, h3, h4, h5⟩ := atI_get he
  obtain ⟨w, ew, rw'⟩ := r.get h2
  have hl := r.length
  have hn := line63
  have fin : EP X pins σ Q w s := ⟨z, H, I, rw', q⟩
  by_cases h0 : 0 ≤ i
  · have hj : i.toNat = j := by
      rw [seqIndex_of h0 h5] at h1
      exact Option.some.inj h1
    exact wpAny_getItem_list pl.isList h0 (by lia) (by rw [hj]; simpa using ew) fin
  · have hj : (i + (its.toArray.size : Int)).toNat = j := by
      rw [seqIndex_neg (by lia) h4] at h1
      rw [List.size_toArray, ← hl]
      exact Option.some.inj h1
    exact wpAny_getItem_list_neg pl.isList (by lia) (by rw [List.size_toArray] <;> lia) (by lia) (by rw [hj]; simpa using ew) fin
theorem bits_few {z : Int} {n : Nat} (h : z.natAbs < 2 ^ n) : Builtin.Int.intBits z ≤ n := by
  unfold Builtin.Int.intBits
  split
  · exact Nat.zero_le _
  · rename_i hz
    rcases Nat.eq_zero_or_pos z.natAbs with h0 | hp
    · exact absurd (Int.natAbs_eq_zero.mp h0) (by simpa using hz)
    · have := (Nat.log2_lt (Nat.ne_of_gt hp)).mpr h
      lia
theorem mul_few {a b : Int} {m n : Nat} (ha : a.natAbs < 2 ^ m) (hb : b.natAbs < 2 ^ n) (hm : m ≤ 8000) (hn : n ≤ 8000) : IntMulOk a b :=
  .of_bits (Nat.le_trans (bits_few ha) (Nat.le_trans hm (by decide))) (Nat.le_trans (bits_few hb) (Nat.le_trans hn (by decide)))
theorem cut_to (l : List Int) (n : Nat) (h : n ≤ l.length) : cutV (l.map V.int) none (some (n : Int)) = (l.take n).map V.int := by
  unfold cutV
  have e1 : HT.sIx (l.map V.int).length (l.map V.int).length (some (n : Int)) = n := by
    unfold HT.sIx
    dsimp only
    rw [if_neg (by lia), List.length_map]
    lia
  rw [e1, HT.sIx_none, List.drop_zero, Nat.sub_zero, List.map_take]
theorem good_atI {c : List Int} {i : Int} (h0 : 0 ≤ i) (h : i.toNat < c.length) : atI (c.map V.int) i = some (.int (c.getD i.toNat 0)) := by
  obtain ⟨n, rfl⟩ : ∃ n : Nat, i = (n : Int) := ⟨i.toNat, by lia⟩
  exact good_at (by simpa using h)
noncomputable def FewI (n : Nat) (l : List Int) : Prop := ∀ z ∈ l, z.natAbs < 2 ^ n
theorem pow2_mono {m n : Nat} (h : m ≤ n) : 2 ^ m ≤ 2 ^ n := Nat.pow_le_pow_right (by decide) h
theorem lt_up {a m n : Nat} (h : a < 2 ^ m) (e : m ≤ n) : a < 2 ^ n := Nat.lt_of_lt_of_le h (pow2_mono e)
theorem FewI.mono {m n : Nat} {l : List Int} (h : FewI m l) (e : m ≤ n) : FewI n l := fun z hz => lt_up (h z hz) e
theorem FewI.left {m : Nat} {l r : List Int} (h : FewI m (l ++ r)) : FewI m l := fun z hz => h z (List.mem_append.mpr (.inl hz))
theorem FewI.last {m : Nat} {l : List Int} {z : Int} (h : FewI m (l ++ [z])) : z.natAbs < 2 ^ m := h z (List.mem_append.mpr (.inr (by simp)))
theorem FewI.app {m : Nat} {l : List Int} {z : Int} (h : FewI m l) (hz : z.natAbs < 2 ^ m) : FewI m (l ++ [z]) := fun y hy => by
  rcases List.mem_append.mp hy with h1 | h1
  · exact h y h1
  · have : y = z := by simpa using h1
    rw [this]
    exact hz
theorem FewI.getD {m : Nat} {l : List Int} (h : FewI m l) (i : Nat) : (l.getD i 0).natAbs < 2 ^ m := by
  rw [List.getD_eq_getElem?_getD]
  cases e : l[i]? with
  | none => exact Nat.two_pow_pos m
  | some z => exact h z (List.mem_of_getElem? e)
theorem mul_lt2 {a b : Int} {m n : Nat} (ha : a.natAbs < 2 ^ m) (hb : b.natAbs < 2 ^ n) : (a * b).natAbs < 2 ^ (m + n) := by
  rw [Int.natAbs_mul, Nat.pow_add]
  exact Nat.mul_lt_mul_of_lt_of_lt ha hb
theorem add_lt2 {a b : Int} {m : Nat} (ha : a.natAbs < 2 ^ m) (hb : b.natAbs < 2 ^ m) : (a + b).natAbs < 2 ^ (m + 1) := by
  rw [Nat.pow_succ]
  omega
theorem mul_big {a b : Int} {m n : Nat} (ha : a.natAbs < 2 ^ m) (hb : b.natAbs < 2 ^ n) (h : m + n ≤ 134217728) : IntMulOk a b := IntMulOk.of_le (bits_few ha) (bits_few hb) h
theorem mem_zipWith {α β γ : Type} {f : α → β → γ} {z : γ} : ∀ {l : List α} {m : List β}, z ∈ List.zipWith f l m → ∃ x ∈ l, ∃ y ∈ m, z = f x y
  | [], _, h => by simp at h
  | _ :: _, [], h => by simp at h
  | a :: l, b :: m, h => by
    rw [List.zipWith_cons_cons] at h
    rcases List.mem_cons.mp h with h | h
    · exact ⟨a, by simp, b, by simp, h⟩
    · obtain ⟨x, hx, y, hy, e⟩ := mem_zipWith h
      exact ⟨x, by simp [hx], y, by simp [hy], e⟩
theorem few_addRow {m n : Nat} {ms ns : List Int} {p q : Int} (h1 : FewI m (ms ++ [p])) (h2 : FewI n (ns ++ [q])) : FewI (m + n + 1) (addRow ms p ns q) := by
  intro z hz
  unfold addRow at hz
  rcases List.mem_append.mp hz with hz | hz
  · obtain ⟨x, hx, y, hy, rfl⟩ := mem_zipWith hz
    have e1 := mul_lt2 (h1.left x hx) h2.last
    have e2 := mul_lt2 (h2.left y hy) h1.last
    rw [Nat.add_comm n m] at e2
    exact add_lt2 e1 e2
  · have : z = p * q := by simpa using hz
    rw [this]
    exact lt_up (mul_lt2 h1.last h2.last) (by lia)
theorem at_ix {α : Type} {xs : List α} {i : Int} {j : Nat} {v : α} (e : i = (j : Int)) (h : xs[j]? = some v) : atI xs i = some v := e ▸ atI_nat h
theorem ix_nat {n j : Nat} {k : Int} (e : k = (j : Int)) (h : j < n) : ixN n k = some j := by
  unfold ixN
  rw [if_pos (by lia), if_pos (by lia), e]
  simp
theorem at_getD {l : List Int} {i : Int} {j : Nat} (e : i = (j : Int)) (h : j < l.length) : atI (l.map V.int) i = some (.int (l.getD j 0)) := by
  refine at_ix e ?_
  rw [List.getElem?_map, List.getElem?_eq_getElem h, List.getD_eq_getElem?_getD, List.getElem?_eq_getElem h]
  rfl
noncomputable def FieldOk (c : List Int) : Prop := 1 ≤ c.length ∧ c.length ≤ 4 ∧ ∀ z ∈ c, z.natAbs ≤ 1000
theorem asg_if {t : TT} {ta tb : TE} {i : Nat} {rest : TS} {D : Ends} {σ : L2.St} {H : Hp} {x : V} (h : ∀ R : VK, R x H → tIf t ta tb σ H R) (q : rest D (σ.set i (some x)) H) : tSeq (tAsg (tIf t ta tb) (gName i)) rest D σ H := h _ q
theorem ints_at : ∀ {its : List Value} {ns : List Int}, IntsAre its ns → ∀ {i : Nat} {v : Value}, its[i]? = some v → ∃ (n : Int) (t : Tok), v = .int n t ∧ ns.getD i 0 = n
  | _, _, .nil, i, v, h => by simp at h
  | _, _, .cons n t h, 0, v, hv => by
    simp at hv
    exact ⟨n, t, hv.symm, rfl⟩
  | _, _, .cons n t h, i + 1, v, hv => by
    simp at hv
    obtain ⟨m, u, e1, e2⟩ := ints_at h hv
    exact ⟨m, u, e1, by rw [List.getD_cons_succ]; exact e2⟩
theorem truth_ints {prog : Program} {w : World} {A : Around} {ns : List Int} {its : List Value} (e : IntsAre its ns) :
    TruthOf prog w A (fun i v => its.toArray[i]? = some v) (fun i => ns.getD i 0 != 0) := fun i v s Q E hv hq => by
  have hv' : its[i]? = some v := by simpa using hv
  obtain ⟨n, t, rfl, hn⟩ := ints_at e hv'
  have hq' : Q (ns.getD i 0 != 0) s := hq
  rw [hn] at hq'
  exact truthy_int hq'
theorem any_rangeI : ∀ ns : List Int, (List.range ns.length).any (fun i => ns.getD i 0 != 0) = ns.any fun (z : Int) => z != 0
  | [] => rfl
  | b :: bs => by
    rw [List.length_cons, List.range_succ_eq_map, List.any_cons, List.any_map, List.any_cons, ← any_rangeI bs]
    all_goals rfl
noncomputable def rAnyI (K : PySem.W.Frag) : List V → Hp → VK → Prop := fun vs H Q => ∃ (a : Addr) (ns : List Int), vs = [V.ref a] ∧ SqL K H a (ns.map V.int) ∧ Q (.bl (ns.any fun (z : Int) => z != 0)) H
theorem cr_anyIK {X : Cx} {K : PySem.W.Frag} (h : X.K = K) (hc : X.calm = true) : CallR X (.builtin "any") (rAnyI K) := by
  subst h
  intro pins s σ H vs us Q I r h
  obtain ⟨a, ns, rfl, hs, q⟩ := h
  obtain ⟨its, rv, hl, _⟩ := I.list hs
  rw [Vals.ref1 r]
  have hb := rv.ints
  refine call_any_walk (iter_any hl.isList fun s₂ e2 st hne => ?_)
  subst e2
  refine ⟨_, _, _, _, _, _, _, rfl, Walks.list (A := X.A.in1) (I.ok.hd hc) _ a hne its.toArray, st, truth_ints hb, fun h' tk hk => ?_⟩
  refine ⟨.bl _, H, I.kept fun b o eo => hk b o (fun hmem => ?_) (Heap.get?_push_of_some _ eo), ?_, q⟩
  · rcases List.mem_cons.mp hmem with e1 | hmem
    · exact absurd (e1 ▸ Heap.lt_size eo) (Nat.lt_irrefl _)
    · cases hmem
  · show Value.bool _ = Value.bool _
    have hlen : its.length = ns.length := by
      have := rv.length
      rw [List.length_map] at this
      exact this.symm
    rw [← any_rangeI, List.size_toArray, hlen]
theorem field_ok {c : List Int} (h : refusal c = 0) : FieldOk c := ok_field h
theorem shl_one (n : Nat) : (1 : Int) * 2 ^ ((n : Int)).toNat = ((2 ^ n : Nat) : Int) := by
  rw [Int.one_mul, Int.toNat_natCast]
  push_cast
  rfl
theorem one_shl {n : Nat} (h : n ≤ 100000) : (0 : Int) ≤ (n : Int) ∧ ((Builtin.Int.intBits 1 : Nat) : Int) + (n : Int) ≤ 2 ^ 27 := by
  have : Builtin.Int.intBits 1 = 1 := by decide
  rw [this]
  lia
theorem two_few {n m : Nat} (h : n < m) : (((2 ^ n : Nat) : Int)).natAbs < 2 ^ m := by
  rw [Int.natAbs_natCast]
  exact Nat.pow_lt_pow_right (by decide) h
noncomputable def Mono (t : TT) : Prop := ∀ (σ : L2.St) (H : Hp) (Q Q' : Bool → Hp → Prop), (∀ b H1, Q b H1 → Q' b H1) → t σ H Q → t σ H Q'
noncomputable def MonoE (t : TE) : Prop := ∀ (σ : L2.St) (H : Hp) (Q Q' : VK), (∀ x H1, Q x H1 → Q' x H1) → t σ H Q → t σ H Q'
noncomputable def MonoA (t : TA) : Prop := ∀ (σ : L2.St) (H : Hp) (Q Q' : List V → Hp → Prop), (∀ x H1, Q x H1 → Q' x H1) → t σ H Q → t σ H Q'
noncomputable def MonoR (r : R2) : Prop := ∀ (x y : V) (H : Hp) (Q Q' : VK), (∀ v H1, Q v H1 → Q' v H1) → r x y H Q → r x y H Q'
noncomputable def MonoL (r : List V → Hp → VK → Prop) : Prop := ∀ (xs : List V) (H : Hp) (Q Q' : VK), (∀ v H1, Q v H1 → Q' v H1) → r xs H Q → r xs H Q'
theorem Mono.and {t u : TT} (ht : Mono t) (hu : Mono u) : Mono (tAnd t u) := fun σ H Q Q' hq h => ht σ H _ _ (fun c H1 h1 => by
  cases c with
  | true => exact iteT (hu σ H1 Q Q' hq (by simpa using h1))
  | false => exact iteF (hq _ _ (by simpa using h1))) h
theorem Mono.or {t u : TT} (ht : Mono t) (hu : Mono u) : Mono (tOr t u) := fun σ H Q Q' hq h => ht σ H _ _ (fun c H1 h1 => by
  cases c with
  | true => exact iteT (hq _ _ (by simpa using h1))
  | false => exact iteF (hu σ H1 Q Q' hq (by simpa using h1))) h
theorem Mono.not {t : TT} (ht : Mono t) : Mono (tNot t) := fun σ H Q Q' hq h => ht σ H _ _ (fun c H1 h1 => hq _ _ h1) h
theorem Mono.test {t : TE} (h : MonoE t) : Mono (tTest t) := fun σ H Q Q' hq k => h σ H _ _ (fun x H1 ⟨b, e, g⟩ => ⟨b, e, hq _ _ g⟩) k
theorem MonoE.var {i : Nat} : MonoE (tVar i) := fun _ _ _ _ hq ⟨v, e, h⟩ => ⟨v, e, hq _ _ h⟩
theorem MonoE.c {v : V} : MonoE (tC v) := fun _ _ _ _ hq h => hq _ _ h
theorem MonoE.op {r : R2} {ta tb : TE} (hr : MonoR r) (ha : MonoE ta) (hb : MonoE tb) : MonoE (tOp r ta tb) := fun σ H Q Q' hq h => ha σ H _ _ (fun x H1 h1 => hb σ H1 _ _ (fun y H2 h2 => hr x y H2 Q Q' hq h2) h1) h
theorem MonoE.un {g : Int → V} {ta : TE} (ha : MonoE ta) : MonoE (tUn (rU g) ta) := fun σ H Q Q' hq h => ha σ H _ _ (fun x H1 ⟨i, e, k⟩ => ⟨i, e, hq _ _ k⟩) h
theorem MonoE.bits {ta : TE} (ha : MonoE ta) : MonoE (tBits ta) := fun σ H Q Q' hq h => ha σ H _ _ (fun x H1 ⟨i, e, k⟩ => ⟨i, e, hq _ _ k⟩) h
theorem MonoE.cb {r : List V → Hp → VK → Prop} {t : TA} (hr : MonoL r) (ht : MonoA t) : MonoE (tCB r t) := fun σ H Q Q' hq h => ht σ H _ _ (fun xs H1 h1 => hr xs H1 Q Q' hq h1) h
theorem MonoA.nil : MonoA tNil := fun _ _ _ _ hq h => hq _ _ h
theorem MonoA.cons {ta : TE} {tr : TA} (ha : MonoE ta) (hr : MonoA tr) : MonoA (tCons ta tr) := fun σ H Q Q' hq h => ha σ H _ _ (fun x H1 h1 => hr σ H1 _ _ (fun xs H2 h2 => hq _ _ h2) h1) h
theorem MonoR.i {C : Int → Int → Prop} {g : Int → Int → V} : MonoR (L2.rI C g) := fun _ _ _ _ _ hq ⟨i, j, e1, e2, c, h⟩ => ⟨i, j, e1, e2, c, hq _ _ h⟩
theorem MonoR.i0 {g : Int → Int → V} : MonoR (rI0 g) := fun _ _ _ _ _ hq ⟨i, j, e1, e2, h⟩ => ⟨i, j, e1, e2, hq _ _ h⟩
theorem MonoR.eq : MonoR rEq := fun _ _ _ _ _ hq ⟨e, h⟩ => ⟨e, hq _ _ h⟩
theorem MonoR.ne : MonoR rNe := fun _ _ _ _ _ hq ⟨e, h⟩ => ⟨e, hq _ _ h⟩
theorem MonoR.ix {K : PySem.W.Frag} : MonoR (rIxL K) := fun _ _ _ _ _ hq ⟨p, xs, i, v, e1, e2, e3, e4, h⟩ => ⟨p, xs, i, v, e1, e2, e3, e4, hq _ _ h⟩
theorem MonoL.len {K : PySem.W.Frag} : MonoL (fun xs H Q => ∃ p ys, xs = [.ref p] ∧ (SqL K H p ys ∨ SqT K H p ys) ∧ Q (.int ys.length) H) := fun _ _ _ _ hq ⟨p, ys, e1, e2, h⟩ => ⟨p, ys, e1, e2, hq _ _ h⟩
theorem MonoL.min2 : MonoL (fun xs H Q => ∃ i j : Int, xs = [.int i, .int j] ∧ Q (.int (if j < i then j else i)) H) := fun _ _ _ _ hq ⟨i, j, e, h⟩ => ⟨i, j, e, hq _ _ h⟩
theorem MonoE.call {sp : Sp} {dvs : List V} {E : XK} {t : TA} (hs : ∀ (vs : List V) (H : Hp) (Q Q' : VK), (∀ v H1, Q v H1 → Q' v H1) → sp vs H Q E → sp vs H Q' E) (ht : MonoA t) : MonoE (tCall sp dvs E t) := fun σ H Q Q' hq h => ht σ H _ _ (fun vs H1 h1 => hs _ H1 Q Q' hq h1) h
theorem good_len {c : List Int} (h1 : ¬ decide ((c.length : Int) < 1) = true) (h2 : ¬ decide ((4 : Int) < (c.length : Int)) = true) : (!badField c) = (c.map fun (z : Int) => decide ((if z < 0 then -z else z) ≤ 1000)).all id := by
  have h1' : ¬ c.length < 1 := fun z => h1 (decide_eq_true (by omega))
  have h2' : ¬ 4 < c.length := fun z => h2 (decide_eq_true (by omega))
  unfold badField
  rw [decide_eq_false h1', decide_eq_false h2', Bool.false_or, Bool.false_or, List.all_map, Bool.eq_iff_iff, Bool.not_eq_true', List.any_eq_false, List.all_eq_true]
  constructor
  · intro h z hz
    have := h z hz
    rw [Bool.or_eq_true, decide_eq_true_eq, decide_eq_true_eq] at this
    show decide _ = true
    rw [decide_eq_true_eq, abs_is]
    omega
  · intro h z hz
    have := h z hz
    have h3 : decide ((if z < 0 then -z else z) ≤ 1000) = true := this
    rw [decide_eq_true_eq, abs_is] at h3
    rw [Bool.or_eq_true, decide_eq_true_eq, decide_eq_true_eq]
    omega
theorem bad_short {c : List Int} (h : decide ((c.length : Int) < 1) = true) : (!badField c) = false := by
  have h1 := of_decide_eq_true h
  unfold badField
  rw [decide_eq_true (show c.length < 1 by lia)]
  rfl
theorem bad_long {c : List Int} (h : decide ((4 : Int) < (c.length : Int)) = true) : (!badField c) = false := by
  have h1 := of_decide_eq_true h
  unfold badField
  rw [decide_eq_true (show 4 < c.length by lia), Bool.true_or, Bool.or_true]
  rfl
noncomputable def sp_is_told_rightly (K : PySem.W.Frag) : Sp := fun vs H Q _ => ∃ (v : V) (c : List Int), vs = [v] ∧ IL K H v c ∧ c.length ≤ 1000 ∧ ∀ H' : Hp, Same H H' → Q (.bl (!badField c)) H'
theorem sc_is_told_rightly : FnScope ["field", "number"] ["field"] (defScope s_is_told_rightly) := ⟨rfl, rfl, rfl, by decide +kernel, rfl, by decide +kernel, by decide +kernel⟩
theorem ok_is_told_rightly {P : Program} {w : World} {K : PySem.W.Frag} {mg : Str → Option Value} {base : Heap} {f : Addr} {fd : FuncData} (F : Fun K "is_told_rightly" "is_told_rightly" s_is_told_rightly f fd) (O : Own mg) (c_GREATEST_DEGREE : Kst mg "GREATEST_DEGREE" 4) (c_GREATEST_SIZE : Kst mg "GREATEST_SIZE" 1000) :
    FnOk P w K mg base CX0 1 f fd ["field"] (sp_is_told_rightly K) := by
  refine F.ok sc_is_told_rightly (fun vs H Q E h => ?_) (fun cdv A outer s H vs Q E hr h => ?_)
  · obtain ⟨v, c, rfl, _⟩ := h
    rfl
  · obtain ⟨v, c, rfl, ⟨a, rfl, hc⟩, hl, k⟩ := h
    refine ⟨_, (pss_cons (ps_if (PW.pt (pw_or (pt_cmpR op_lt (pe_callB (call_lenK (K := K) rfl) (by rfl) O.len_ bt_len (pa_cons (pv 0) pa_nil)) pe_int (nomark _)) (pw_or1 (pt_cmpR op_gt (pe_callB (call_lenK (K := K) rfl) (by rfl) O.len_ bt_len (pa_cons (pv 0) pa_nil)) (pe_globK (by rfl) c_GREATEST_DEGREE) (nomark _))))) (pss_one (ps_ret pe_bl)) pss_nil)
      (pss_one (ps_ret (pe_callB (cr_allK (K := K) rfl rfl) (by rfl) O.all_ bt_all (pa_cons (pe_lc (own := [("number", 1)]) rfl sc_is_told_rightly.nd (pi_list (pv 0)) (show BlkOk ["field", "number"] (defScope s_is_told_rightly) _ _ from ⟨rfl, by decide +kernel, by decide +kernel, by decide +kernel, by decide +kernel⟩) (fun _ _ _ _ _ => (pg_name (i := 1) sc_is_told_rightly.nd rfl (by first | exact Or.inl rfl | exact Or.inr rfl))) (fun _ _ _ _ _ => pts_nil) (fun _ _ _ _ _ => (pe_cmpR op_le (pe_callB call_abs (by rfl) O.abs_ bt_abs (pa_cons (pv 1) pa_nil)) (pe_globK (by rfl) c_GREATEST_SIZE) (nomark _)))) pa_nil))))), ?_⟩
    refine ⟨_, rfl, a, _, rfl, .inl hc, _, _, rfl, rfl, _, rfl, ?_⟩
    rw [List.length_map]
    refine ite2 (fun h1 => ?_) (fun h1 => ?_)
    · have e := k H (Same.refl H)
      rw [bad_short h1] at e
      exact e
    · refine ⟨_, rfl, a, _, rfl, .inl hc, _, _, rfl, rfl, _, rfl, ?_⟩
      rw [List.length_map]
      refine ite2 (fun h2 => ?_) (fun h2 => ?_)
      · have e := k H (Same.refl H)
        rw [bad_long h2] at e
        exact e
      · refine ⟨_, rfl, a, rfl, ⟨_, hc⟩, fun D hD => ?_⟩
        refine lc_ints (K := K) (a := a) (ns := c) (fun _ => true) (fun z => V.bl (decide ((if z < 0 then -z else z) ≤ 1000))) hc (small1000 hl) hD (fun z => rfl) (fun z hz H2 Rv R s2 hR => ?_) (fun H2 s2 e4 => ?_)
        · have hR' := hR H2 (Same.refl H2)
          rw [if_pos rfl] at hR'
          exact ⟨_, rfl, z, rfl, _, _, rfl, rfl, hR'⟩
        · rw [filter_yes] at e4
          refine ⟨D, c.map fun (z : Int) => decide ((if z < 0 then -z else z) ≤ 1000), rfl, SqL.of ?_, ?_⟩
          · rw [e4, List.map_map]
            rfl
          · rw [← good_len h1 h2]
            exact k H2 s2
noncomputable def sp_polynomial_of (K : PySem.W.Frag) : Sp := fun vs H Q _ => ∃ (v : V) (c : List Int), vs = [v] ∧ IL K H v c ∧ c.length ≤ 1000 ∧ ∀ (H' : Hp) (u : V), Same H H' → OL H' u (c ++ [1]) → Q u H'
theorem sc_polynomial_of : FnScope ["field"] ["field"] (defScope s_polynomial_of) := ⟨rfl, rfl, rfl, by decide +kernel, rfl, by decide +kernel, by decide +kernel⟩
theorem ok_polynomial_of {P : Program} {w : World} {K : PySem.W.Frag} {mg : Str → Option Value} {base : Heap} {f : Addr} {fd : FuncData} (F : Fun K "polynomial_of" "polynomial_of" s_polynomial_of f fd) (O : Own mg) :
    FnOk P w K mg base CX0 1 f fd ["field"] (sp_polynomial_of K) := by
  refine F.ok sc_polynomial_of (fun vs H Q E h => ?_) (fun cdv A outer s H vs Q E hr h => ?_)
  · obtain ⟨v, c, rfl, _⟩ := h
    rfl
  · obtain ⟨v, c, rfl, ⟨a, rfl, hc⟩, hl, k⟩ := h
    refine ⟨_, pss_one (ps_ret (pe_op op_cat (pe_callTy call_list_of (by rfl) O.list_ bt_list (pa_cons (pv 0) pa_nil)) (pe_lst (pa_cons pe_int pa_nil)))), ?_⟩
    refine ⟨_, rfl, a, _, rfl, .inl hc, fun l hl1 => ⟨by show 1 ≤ sizeLine; decide, fun q hq => ⟨l, q, _, _, rfl, rfl, (upd_ne (ne_of_none (H := upd H l (.lst (c.map V.int))) upd_same hq)).trans upd_same, upd_same, ?_, fun p hp => ?_⟩⟩⟩
    · rw [List.length_map]
      exact Nat.le_trans (Nat.add_le_add_right hl 1) (by decide)
    · have h1 : H q = none := (same_upd hl1).free hq
      have s1 : Same H (upd (upd H l (.lst (c.map V.int))) q (.lst [V.int 1])) := (same_upd hl1).trans (same_upd hq)
      refine k _ _ (s1.trans (same_upd hp)) ⟨p, rfl, ?_⟩
      rw [upd_same, List.map_append]
      rfl
noncomputable def sp_divisors_of : Sp := fun vs H Q _ => ∃ n : Int, vs = [.int n] ∧ n.natAbs ≤ 1000 ∧ ∀ (H' : Hp) (u : V), Same H H' → OL H' u (divisorsOf n) → Q u H'
theorem sc_divisors_of : FnScope ["number", "above", "k"] ["number"] (defScope s_divisors_of) := ⟨rfl, rfl, rfl, by decide +kernel, rfl, by decide +kernel, by decide +kernel⟩
theorem ok_divisors_of {P : Program} {w : World} {K : PySem.W.Frag} {mg : Str → Option Value} {base : Heap} {f : Addr} {fd : FuncData} (F : Fun K "divisors_of" "divisors_of" s_divisors_of f fd) (O : Own mg) :
    FnOk P w K mg base CX0 1 f fd ["number"] sp_divisors_of := by
  refine F.ok sc_divisors_of (fun vs H Q E h => ?_) (fun cdv A outer s H vs Q E hr h => ?_)
  · obtain ⟨n, rfl, _⟩ := h
    rfl
  · obtain ⟨n, rfl, hn, k⟩ := h
    refine ⟨_, pss_cons (ps_setLc (i := 1) (own := [("k", 2)]) rfl sc_divisors_of.nd rfl rfl rfl
        (pi_range2 (by rfl) O.range_ (pa_cons pe_int (pa_cons (pe_op op_add (pe_callB call_abs (by rfl) O.abs_ bt_abs (pa_cons (pv 0) pa_nil)) pe_int) pa_nil)))
        (show BlkOk ["number", "above", "k"] (defScope s_divisors_of) _ _ from ⟨rfl, by decide +kernel, by decide +kernel, by decide +kernel, by decide +kernel⟩) (fun _ _ _ _ _ => pg_name (i := 2) sc_divisors_of.nd rfl (Or.inl rfl))
        (fun _ _ _ _ _ => pts_one (pt_cmpR op_eq (pe_op op_mod (pv 0) (pv 2)) pe_int (nomark _))) (fun _ _ _ _ _ => pv 2))
      (pss_one (ps_ret (pe_op op_cat (pv 1) (pe_lc (own := [("k", 2)]) rfl sc_divisors_of.nd (pi_list (pv 1))
        (show BlkOk ["number", "above", "k"] (defScope s_divisors_of) _ _ from ⟨rfl, by decide +kernel, by decide +kernel, by decide +kernel, by decide +kernel⟩) (fun _ _ _ _ _ => pg_name (i := 2) sc_divisors_of.nd rfl (Or.inl rfl))
        (fun _ _ _ _ _ => pts_nil) (fun _ _ _ _ _ => pe_un un_neg (pv 2)))))), ?_⟩
    refine ⟨_, rfl, n, rfl, _, _, rfl, rfl, _, _, rfl, ⟨by lia, by lia, by split <;> lia, by split <;> lia⟩, fun D hD => ?_⟩
    refine lc_rng (fun z => decide (n % z = 0)) V.int ?_ hD (fun z => rfl) (fun i hi H1 Rv R s1 hR => ?_) (fun H1 s1 e1 => ?_)
    · rw [abs_is]
      exact small1000 (by lia)
    · refine ⟨_, rfl, _, rfl, _, _, rfl, rfl, (by show (0 : Int) < 1 + i; lia), rfl, _, rfl, ?_⟩
      have hR' := hR H1 (Same.refl H1)
      refine ite2 (fun hb => ?_) (fun hb => ?_)
      · rw [if_pos (decide_eq_true (int_eq hb))] at hR'
        exact ⟨_, rfl, hR'⟩
      · rw [if_neg (fun z => int_ne hb (of_decide_eq_true z))] at hR'
        exact hR'
    · have e2 : ((List.range ((if n < 0 then -n else n) + 1 - 1).toNat).map fun (i : Nat) => (1 : Int) + (i : Int)).filter (fun z => decide (n % z = 0)) = divAbove n := by
        rw [abs_is, show ((n.natAbs : Int) + 1 - 1).toNat = n.natAbs by lia]
        rfl
      have hsmall : (divAbove n).length ≤ 1000 := by
        unfold divAbove
        refine Nat.le_trans (List.length_filter_le _ _) ?_
        rw [List.length_map, List.length_range]
        exact hn
      have e3 : H1 D = some (.lst ((divAbove n).map V.int)) := e2 ▸ e1
      refine ⟨_, rfl, _, rfl, D, rfl, ⟨_, SqL.of e3⟩, fun G hG => ?_⟩
      refine lc_ints (K := K) (a := D) (ns := divAbove n) (fun _ => true) (fun z => V.int (-z)) (SqL.of e3) (small1000 hsmall) hG (fun z => rfl) (fun z hz H2 Rv R s2 hR => ?_) (fun H2 s2 e4 => ?_)
      · have hR' := hR H2 (Same.refl H2)
        rw [if_pos rfl] at hR'
        exact ⟨_, rfl, _, rfl, hR'⟩
      · rw [filter_yes] at e4
        refine ⟨D, G, _, _, rfl, rfl, s2 _ _ e3, e4, ?_, fun p hp => ?_⟩
        · rw [List.length_map, List.length_map]
          exact Nat.le_trans (Nat.add_le_add hsmall hsmall) (by decide)
        · refine k _ _ ((s1.trans s2).trans (same_upd hp)) ⟨p, rfl, ?_⟩
          rw [upd_same]
          unfold divisorsOf
          rw [List.map_append, List.map_map]
          rfl
noncomputable def fewBits (n : Nat) (z : Int) : Prop := z.natAbs < 2 ^ n
noncomputable def sp_value_at (K : PySem.W.Frag) : Sp := fun vs H Q _ => ∃ (v : V) (f : List Int) (z : Int), vs = [v, .int z] ∧ IL K H v f ∧ (-(2 ^ 64) < z ∧ z < 2 ^ 64) ∧ ∀ H' : Hp, Same H H' → Q (.int (horner f z)) H'
theorem sc_value_at : FnScope ["f", "number", "value", "factor"] ["f", "number"] (defScope s_value_at) := ⟨rfl, rfl, rfl, by decide +kernel, rfl, by decide +kernel, by decide +kernel⟩
theorem ok_value_at {P : Program} {w : World} {K : PySem.W.Frag} {mg : Str → Option Value} {base : Heap} {f : Addr} {fd : FuncData} (F : Fun K "value_at" "value_at" s_value_at f fd) (O : Own mg) :
    FnOk P w K mg base CX0 1 f fd ["f", "number"] (sp_value_at K) := by
  refine F.ok sc_value_at (fun vs H Q E h => ?_) (fun cdv A outer s H vs Q E hr h => ?_)
  · obtain ⟨v, c, z, rfl, _⟩ := h
    rfl
  · obtain ⟨v, c, z, rfl, ⟨a, rfl, hc⟩, hz, k⟩ := h
    refine ⟨_, pss_cons (ps_set (i := 2) sc_value_at.nd rfl (Or.inl rfl) pe_int)
      (pss_cons (ps_for PassesOwn.never rfl (pi_reversed (by rfl) O.reversed_ (pa_cons (pv 0) pa_nil)) (pg_name (i := 3) sc_value_at.nd rfl (Or.inl rfl))
        (pss_one (ps_set (i := 2) sc_value_at.nd rfl (Or.inl rfl) (pe_op op_add (pe_op op_mul (pv 2) (pv 1)) (pv 3)))))
      (pss_one (ps_ret (pv 2)))), ?_⟩
    refine ⟨_, rfl, a, _, rfl, hc, for_rev (K := K) (a := a) (xs := c.map V.int) (fun i σ H' => ∃ v3 : Option V, σ = [some (.ref a), some (.int z), some (.int ((c.reverse.take i).foldl (fun (s t : Int) => s * z + t) 0)), v3] ∧ Same H H')
      ⟨none, rfl, Same.refl H⟩ (fun i σ H' _ h => ?_) ?_ ?_⟩
    · obtain ⟨_, _, hs⟩ := h
      exact hs.seq hc
    · rintro i x σ H' hx ⟨v3, rfl, hs⟩
      rw [← List.map_reverse, List.getElem?_map] at hx
      obtain ⟨t, ht, rfl⟩ := Option.map_eq_some_iff.mp hx
      refine ⟨_, rfl, _, rfl, _, _, rfl, rfl, .inr hz, _, rfl, _, _, rfl, rfl, some (.int t), ?_, hs⟩
      rw [take_snoc' ht, List.foldl_append]
      rfl
    · rintro σ H' ⟨v3, rfl, hs⟩
      refine ⟨_, rfl, ?_⟩
      have e : (c.reverse.take (c.map V.int).length).foldl (fun (s t : Int) => s * z + t) 0 = horner c z := by
        rw [List.length_map, List.take_of_length_le (by rw [List.length_reverse]; exact Nat.le_refl _)]
        rfl
      rw [e]
      exact k H' hs
theorem good_head {c : List Int} (h : c ≠ []) : atI (c.map V.int) 0 = some (.int (c.headD 0)) := by
  cases c with
  | nil => exact absurd rfl h
  | cons z l => exact atI_nat (j := 0) rfl
noncomputable def sp_has_whole_root (K : PySem.W.Frag) : Sp := fun vs H Q _ => ∃ (v : V) (c : List Int), vs = [v] ∧ IL K H v c ∧ c ≠ [] ∧ c.length ≤ 999 ∧ (c.headD 0).natAbs ≤ 1000 ∧ ∀ H' : Hp, Same H H' → Q (.bl ((divisorsOf (c.headD 0)).any fun (z : Int) => horner (c ++ [1]) z == 0)) H'
theorem sc_has_whole_root : FnScope ["field", "f", "number"] ["field"] (defScope s_has_whole_root) := ⟨rfl, rfl, rfl, by decide +kernel, rfl, by decide +kernel, by decide +kernel⟩
theorem ok_has_whole_root {P : Program} {w : World} {K : PySem.W.Frag} {mg : Str → Option Value} {base : Heap} {f : Addr} {fd : FuncData} (F : Fun K "has_whole_root" "has_whole_root" s_has_whole_root f fd) (O : Own mg) (C_polynomial_of : Cal P w K mg base 1 "polynomial_of" ["field"] (sp_polynomial_of K)) (C_divisors_of : Cal P w K mg base 1 "divisors_of" ["number"] sp_divisors_of) (C_value_at : Cal P w K mg base 1 "value_at" ["f", "number"] (sp_value_at K)) :
    FnOk P w K mg base CX0 2 f fd ["field"] (sp_has_whole_root K) := by
  refine F.ok sc_has_whole_root (fun vs H Q E h => ?_) (fun cdv A outer s H vs Q E hr h => ?_)
  · obtain ⟨v, c, rfl, _⟩ := h
    rfl
  · obtain ⟨v, c, rfl, ⟨a, rfl, hc⟩, hne, hl, hz, k⟩ := h
    refine ⟨_, (pss_cons (ps_set (i := 1) sc_has_whole_root.nd rfl (by first | exact Or.inl rfl | exact Or.inr rfl) (pe_cal C_polynomial_of (hr.mono (by decide)) (by rfl) (pa_cons (pv 0) pa_nil)))
      (pss_one (ps_ret (pe_callB (cr_anyK (K := K) rfl rfl) (by rfl) O.any_ bt_any (pa_cons (pe_lc (own := [("number", 2)]) rfl sc_has_whole_root.nd (pi_list (pe_cal C_divisors_of (hr.mono (by decide)) (by rfl) (pa_cons (pe_ix (ix_listK (K := K) rfl) (pv 0) pe_int (fun _ _ => rfl)) pa_nil))) (show BlkOk ["field", "f", "number"] (defScope s_has_whole_root) _ _ from ⟨rfl, by decide +kernel, by decide +kernel, by decide +kernel, by decide +kernel⟩) (fun _ _ _ _ _ => (pg_name (i := 2) sc_has_whole_root.nd rfl (by first | exact Or.inl rfl | exact Or.inr rfl))) (fun _ _ _ _ _ => pts_nil) (fun _ _ _ _ _ => (pe_cmpR op_eq (pe_cal C_value_at (hr.mono (by decide)) (by rfl) (pa_cons (pv 1) (pa_cons (pv 2) pa_nil))) pe_int (nomark _)))) pa_nil))))), ?_⟩
    refine ⟨_, rfl, _, c, rfl, ⟨a, rfl, hc⟩, by lia, fun H1 u s1 hu => ?_⟩
    obtain ⟨b, rfl, hb⟩ := hu
    refine ⟨_, rfl, a, _, _, _, rfl, rfl, s1.seq hc, good_head hne, _, rfl, hz, fun H2 u2 s2 hu2 => ?_⟩
    obtain ⟨d, rfl, hd⟩ := hu2
    refine ⟨d, rfl, ⟨_, SqL.of hd⟩, fun D hD => ?_⟩
    have hlen : (divisorsOf (c.headD 0)).length ≤ 2000 := by
      unfold divisorsOf divAbove
      rw [List.length_append, List.length_map]
      have := List.length_filter_le (fun (k : Int) => decide ((c.headD 0) % k = 0)) ((List.range (c.headD 0).natAbs).map fun (i : Nat) => (1 : Int) + (i : Int))
      rw [List.length_map, List.length_range] at this
      lia
    refine lc_ints (K := K) (a := d) (ns := divisorsOf (c.headD 0)) (fun _ => true) (fun z => V.bl (decide (horner (c ++ [1]) z = 0))) (SqL.of hd) (Nat.lt_of_le_of_lt hlen (by decide)) hD (fun z => rfl) (fun z hz2 H3 Rv R s3 hR => ?_) (fun H3 s3 e4 => ?_)
    · obtain ⟨q1, q2, q3, q4⟩ := mem_divisors.mp hz2
      refine ⟨_, rfl, _, rfl, _, _, z, rfl, ⟨b, rfl, SqL.of (s3 _ _ (s2 _ _ hb))⟩, ⟨by lia, by lia⟩, fun H4 s4 => ⟨rfl, ?_⟩⟩
      have hR' := hR H4 s4
      rw [if_pos rfl] at hR'
      rw [dec_int]
      exact hR'
    · rw [filter_yes] at e4
      refine ⟨D, (divisorsOf (c.headD 0)).map fun (z : Int) => decide (horner (c ++ [1]) z = 0), rfl, SqL.of ?_, ?_⟩
      · rw [e4, List.map_map]
        rfl
      · have e : ((divisorsOf (c.headD 0)).map fun (z : Int) => decide (horner (c ++ [1]) z = 0)).any id = (divisorsOf (c.headD 0)).any fun (z : Int) => horner (c ++ [1]) z == 0 := by
          rw [List.any_map]
          congr 1
        rw [e]
        exact k H3 ((s1.trans s2).trans s3)
noncomputable def sp_square_root_floor : Sp := fun vs H Q _ => ∃ n : Int, vs = [.int n] ∧ 0 ≤ n ∧ n < 1073741824 ∧ ∀ (H' : Hp) (r : Int), Same H H' → 0 ≤ r → r * r ≤ n → n < (r + 1) * (r + 1) → Q (.int r) H'
theorem sc_square_root_floor : FnScope ["number", "root", "nearer"] ["number"] (defScope s_square_root_floor) := ⟨rfl, rfl, rfl, by decide +kernel, rfl, by decide +kernel, by decide +kernel⟩
theorem ok_square_root_floor {P : Program} {w : World} {K : PySem.W.Frag} {mg : Str → Option Value} {base : Heap} {f : Addr} {fd : FuncData} (F : Fun K "square_root_floor" "square_root_floor" s_square_root_floor f fd) (O : Own mg) :
    FnOk P w K mg base CX0 1 f fd ["number"] sp_square_root_floor := by
  refine F.ok sc_square_root_floor (fun vs H Q E h => ?_) (fun cdv A outer s H vs Q E hr h => ?_)
  · obtain ⟨n, rfl, _⟩ := h
    rfl
  · obtain ⟨n, rfl, n0, n1, k⟩ := h
    refine ⟨_, pss_cons (ps_set (i := 1) sc_square_root_floor.nd rfl (Or.inl rfl) (pv 0))
      (pss_cons (ps_set (i := 2) sc_square_root_floor.nd rfl (Or.inl rfl) (pe_op op_fdiv (pe_op op_add (pv 1) pe_int) pe_int))
      (pss_cons (ps_while PassesOwn.never (pt_cmpR op_lt (pv 2) (pv 1) (nomark _))
        (pss_cons (ps_set (i := 1) sc_square_root_floor.nd rfl (Or.inl rfl) (pv 2))
        (pss_one (ps_set (i := 2) sc_square_root_floor.nd rfl (Or.inl rfl) (pe_op op_fdiv (pe_op op_add (pv 1) (pe_op op_fdiv (pv 0) (pv 1))) pe_int)))))
      (pss_one (ps_ret (pv 1))))), ?_⟩
    refine ⟨_, rfl, _, rfl, _, _, rfl, rfl, _, _, rfl, rfl, ⟨by decide, by decide⟩, ?_⟩
    refine while_by (fun σ H' => ∃ (a b : Int), σ = [some (.int n), some (.int a), some (.int b)] ∧ Newt n a b ∧ Same H H')
      (fun σ H' => match σ with | [_, some (.int a), _] => a.toNat | _ => 0) ⟨n, (n + 1) / 2, rfl, newt_start n0, Same.refl H⟩ ?_ ?_
    · rintro σ H' ⟨a, b, rfl, hN, hs⟩
      refine ⟨_, rfl, _, rfl, _, _, rfl, rfl, _, rfl, ?_⟩
      refine ite2 (fun hb => ?_) (fun hb => ?_)
      · have hb' : b < a := by simpa using hb
        obtain ⟨h1, h2⟩ := newt_step hN hb'
        have h3 := h2.rn
        refine ⟨_, rfl, _, rfl, _, rfl, _, rfl, _, _, rfl, rfl, ⟨h1, by lia⟩, _, _, rfl, rfl, _, _, rfl, rfl, ⟨by decide, by decide⟩, ?_⟩
        refine ⟨⟨b, _, rfl, h2, hs⟩, ?_⟩
        show b.toNat < a.toNat
        lia
      · have hb' : ¬ b < a := by simpa using hb
        obtain ⟨h1, h2⟩ := newt_end hN hb'
        exact ⟨_, rfl, k H' a hs hN.r0 h1 h2⟩
    · show Mono _
      (repeat first | exact MonoE.var | exact MonoE.c | exact MonoR.i0 | exact MonoR.i | exact MonoR.eq | exact MonoR.ne | exact MonoR.ix | exact MonoL.len | exact MonoA.nil | apply Mono.test | apply Mono.and | apply MonoE.cb | apply MonoE.op | apply MonoA.cons | apply MonoE.bits | apply MonoE.un)
theorem fdiv_exact {n q : Int} (h0 : q ≠ 0) (h : n % q = 0) : n.fdiv q = n / q := by
  obtain ⟨k, hk⟩ := Int.dvd_of_emod_eq_zero h
  rw [hk, Int.mul_fdiv_cancel_left _ h0, Int.mul_ediv_cancel_left _ h0]
theorem op_fdivE {X : Cx} : OpR X (binaryOp .FloorDiv) (L2.rI (fun i j => j ≠ 0 ∧ j.natAbs < 1073741824 ∧ i % j = 0) fun i j => .int (i / j)) := opI fun i j _ _ _ _ _ hc q => by
  obtain ⟨h1, h2, h3⟩ := hc
  exact floordiv_int h1 (by rw [fdiv_exact h1 h3]; exact q) (.inl (PyProof.noPylong_small h2))
theorem small_prod {a b : Int} (ha : a.natAbs ≤ 1000) (hb : b.natAbs ≤ 1000) : (a * b).natAbs ≤ 1000000 := by
  rw [Int.natAbs_mul]
  exact Nat.mul_le_mul ha hb
theorem cm4 {a b : Int} (h : a.natAbs ≤ 4000) : CMul a b := .inl ⟨by lia, by lia⟩
theorem cm4r {a b : Int} (h : b.natAbs ≤ 4000) : CMul a b := .inr ⟨by lia, by lia⟩
theorem le4 {n : Nat} (h : n ≤ 1000) : n ≤ 4000 := Nat.le_trans h (by decide)
theorem sq_eq {r g : Int} (r0 : 0 ≤ r) (g0 : 0 ≤ g) (e : r * r = g * g) : r = g := by
  rcases Int.lt_trichotomy r g with z | z | z
  · have h5 : (r + 1) * (r + 1) ≤ g * g := Int.mul_le_mul z z (by lia) g0
    have h7 : (r + 1) * (r + 1) = r * r + 2 * r + 1 := by grind
    lia
  · exact z
  · have h6 : (g + 1) * (g + 1) ≤ r * r := Int.mul_le_mul z z (by lia) r0
    have h7 : (g + 1) * (g + 1) = g * g + 2 * g + 1 := by grind
    lia
theorem sq_floor {r g n : Int} (r0 : 0 ≤ r) (g0 : 0 ≤ g) (e : g * g = n) (r1 : r * r ≤ (if 0 > n then 0 else n)) (r2 : (if 0 > n then 0 else n) < (r + 1) * (r + 1)) : r = g := by
  have hp : 0 ≤ g * g := Int.mul_nonneg g0 g0
  rw [if_neg (by lia), ← e] at r1 r2
  rcases Int.lt_trichotomy r g with z | z | z
  · have h5 : (r + 1) * (r + 1) ≤ g * g := Int.mul_le_mul z z (by lia) g0
    lia
  · exact z
  · have h6 : (g + 1) * (g + 1) ≤ r * r := Int.mul_le_mul z z (by lia) r0
    have h7 : (g + 1) * (g + 1) = g * g + 2 * g + 1 := by grind
    lia
theorem gap_few {c3 c2 q s : Int} (m3 : c3.natAbs ≤ 1000) (m2 : c2.natAbs ≤ 1000) (hq : q.natAbs ≤ 1000) (hs : s.natAbs ≤ 1000) : 0 ≤ (if 0 > c3 * c3 - 4 * (c2 - q - s) then 0 else c3 * c3 - 4 * (c2 - q - s)) ∧ (if 0 > c3 * c3 - 4 * (c2 - q - s) then 0 else c3 * c3 - 4 * (c2 - q - s)) < 1073741824 ∧ ∀ r : Int, 0 ≤ r → r * r ≤ (if 0 > c3 * c3 - 4 * (c2 - q - s) then 0 else c3 * c3 - 4 * (c2 - q - s)) → r.natAbs ≤ 4000 := by
  have c33 := small_prod m3 m3
  have h1 : c3 * c3 - 4 * (c2 - q - s) ≤ 1012000 := by omega
  generalize c3 * c3 - 4 * (c2 - q - s) = n at *
  have h2 : (if 0 > n then 0 else n) ≤ 1012000 := by split <;> omega
  have h3 : 0 ≤ (if 0 > n then 0 else n) := by split <;> omega
  refine ⟨h3, by omega, fun r r0 r1 => ?_⟩
  have : ¬ 4001 ≤ r := fun z => by
    have h5 : (4001 : Int) * 4001 ≤ r * r := Int.mul_le_mul z z (by decide) r0
    omega
  omega
noncomputable def sp_is_product_of_quadratics (K : PySem.W.Frag) : Sp := fun vs H Q _ => ∃ (v : V) (c : List Int), vs = [v] ∧ IL K H v c ∧ c.length = 4 ∧ c.headD 0 ≠ 0 ∧ (∀ z ∈ c, z.natAbs ≤ 1000) ∧ ∀ H' : Hp, Same H H' → Q (.bl (Root.twoTwos c)) H'
theorem sc_is_product_of_quadratics : FnScope ["field", "q", "s", "gap_squared", "gap", "p", "r"] ["field"] (defScope s_is_product_of_quadratics) := ⟨rfl, rfl, rfl, by decide +kernel, rfl, by decide +kernel, by decide +kernel⟩
theorem ok_is_product_of_quadratics {P : Program} {w : World} {K : PySem.W.Frag} {mg : Str → Option Value} {base : Heap} {f : Addr} {fd : FuncData} (F : Fun K "is_product_of_quadratics" "is_product_of_quadratics" s_is_product_of_quadratics f fd) (O : Own mg) (C_divisors_of : Cal P w K mg base 1 "divisors_of" ["number"] sp_divisors_of) (C_square_root_floor : Cal P w K mg base 1 "square_root_floor" ["number"] sp_square_root_floor) :
    FnOk P w K mg base CX0 2 f fd ["field"] (sp_is_product_of_quadratics K) := by
  refine F.ok sc_is_product_of_quadratics (fun vs H Q E h => ?_) (fun cdv A outer s H vs Q E hr h => ?_)
  · obtain ⟨v, c, rfl, _⟩ := h
    rfl
  · obtain ⟨v, c, rfl, ⟨a, rfl, hc⟩, hl, h0, hz, k⟩ := h
    have hmem : ∀ i : Nat, i < 4 → (c.getD i 0).natAbs ≤ 1000 := fun i hi => by
      have h : i < c.length := by lia
      rw [List.getD_eq_getElem?_getD, List.getElem?_eq_getElem h]
      exact hz _ (List.getElem_mem h)
    have g0 := good_at (c := c) (i := 0) (by lia)
    have g1 := good_at (c := c) (i := 1) (by lia)
    have g2 := good_at (c := c) (i := 2) (by lia)
    have g3 := good_at (c := c) (i := 3) (by lia)
    have m0 := hmem 0 (by lia)
    have m1 := hmem 1 (by lia)
    have m2 := hmem 2 (by lia)
    have m3 := hmem 3 (by lia)
    have hh : c.headD 0 = c.getD 0 0 := by cases c <;> rfl
    rw [hh] at h0
    refine ⟨_, (pss_cons (ps_for PassesOwn.never rfl (pi_list (pe_cal C_divisors_of (hr.mono (by decide)) (by rfl) (pa_cons (pe_ix (ix_listK (K := K) rfl) (pv 0) pe_int (fun _ _ => rfl)) pa_nil))) (pg_name (i := 1) sc_is_product_of_quadratics.nd rfl (by first | exact Or.inl rfl | exact Or.inr rfl)) (pss_cons (ps_set (i := 2) sc_is_product_of_quadratics.nd rfl (by first | exact Or.inl rfl | exact Or.inr rfl) (pe_op op_fdivE (pe_ix (ix_listK (K := K) rfl) (pv 0) pe_int (fun _ _ => rfl)) (pv 1)))
      (pss_cons (ps_set (i := 3) sc_is_product_of_quadratics.nd rfl (by first | exact Or.inl rfl | exact Or.inr rfl) (pe_op op_sub (pe_op op_mul (pe_ix (ix_listK (K := K) rfl) (pv 0) pe_int (fun _ _ => rfl)) (pe_ix (ix_listK (K := K) rfl) (pv 0) pe_int (fun _ _ => rfl))) (pe_op op_mul pe_int (pe_op op_sub (pe_op op_sub (pe_ix (ix_listK (K := K) rfl) (pv 0) pe_int (fun _ _ => rfl)) (pv 1)) (pv 2)))))
      (pss_cons (ps_set (i := 4) sc_is_product_of_quadratics.nd rfl (by first | exact Or.inl rfl | exact Or.inr rfl) (pe_cal C_square_root_floor (hr.mono (by decide)) (by rfl) (pa_cons (pe_callB (call_max2 rfl) (by rfl) O.max_ bt_max (pa_cons (pv 3) (pa_cons pe_int pa_nil))) pa_nil)))
      (pss_cons (ps_if (pt_cmpR op_ne (pe_op op_mul (pv 4) (pv 4)) (pv 3) (nomark _)) (pss_one ps_continue) pss_nil)
      (pss_cons (ps_set (i := 5) sc_is_product_of_quadratics.nd rfl (by first | exact Or.inl rfl | exact Or.inr rfl) (pe_op op_fdiv (pe_op op_add (pe_ix (ix_listK (K := K) rfl) (pv 0) pe_int (fun _ _ => rfl)) (pv 4)) pe_int))
      (pss_cons (ps_set (i := 6) sc_is_product_of_quadratics.nd rfl (by first | exact Or.inl rfl | exact Or.inr rfl) (pe_op op_sub (pe_ix (ix_listK (K := K) rfl) (pv 0) pe_int (fun _ _ => rfl)) (pv 5)))
      (pss_one (ps_if (pt_cmpR op_eq (pe_op op_add (pe_op op_mul (pv 5) (pv 2)) (pe_op op_mul (pv 1) (pv 6))) (pe_ix (ix_listK (K := K) rfl) (pv 0) pe_int (fun _ _ => rfl)) (nomark _)) (pss_one (ps_ret pe_bl)) pss_nil)))))))))
      (pss_one (ps_ret pe_bl))), ?_⟩
    refine ⟨_, rfl, a, _, _, _, rfl, rfl, hc, g0, _, rfl, m0, fun H1 u s1 hu => ?_⟩
    obtain ⟨d, rfl, hd⟩ := hu
    refine ⟨d, rfl, ⟨_, SqL.of hd⟩, for_list (K := K) (a := d) (xs := (divisorsOf (c.getD 0 0)).map V.int) (fun i σ H' => (∃ v1 v2 v3 v4 v5 v6 : Option V, σ = [some (.ref a), v1, v2, v3, v4, v5, v6]) ∧ Same H1 H' ∧ ∀ q ∈ (divisorsOf (c.getD 0 0)).take i, ¬ Hit c q)
      ⟨⟨none, none, none, none, none, none, rfl⟩, Same.refl H1, fun q hq => absurd hq (by simp)⟩ (fun i σ H' _ h => h.2.1.seq (SqL.of hd)) ?_ ?_⟩
    · rintro i x σ H' hx ⟨⟨v1, v2, v3, v4, v5, v6, rfl⟩, s2, hno⟩
      rw [List.getElem?_map] at hx
      obtain ⟨q, hq, rfl⟩ := Option.map_eq_some_iff.mp hx
      have hqm : q ∈ divisorsOf (c.getD 0 0) := List.mem_of_getElem? hq
      obtain ⟨q0, q1, q2, q3⟩ := mem_divisors.mp hqm
      have hq1000 : q.natAbs ≤ 1000 := by omega
      obtain ⟨e1, e2⟩ := ediv_div h0 q3
      have hs0 := divisor_small h0 e1
      have hs1000 : (c.getD 0 0 / q).natAbs ≤ 1000 := by omega
      have hcH := (s1.trans s2).seq hc
      have c33 := small_prod m3 m3
      have nohit : ¬ Hit c q → ∀ q' ∈ (divisorsOf (c.getD 0 0)).take (i + 1), ¬ Hit c q' := fun hn q' hq' => by
        rw [take_snoc' hq] at hq'
        rcases List.mem_append.mp hq' with z | z
        · exact hno q' z
        · have : q' = q := by simpa using z
          rw [this]
          exact hn
      refine ⟨_, rfl, a, _, _, _, rfl, rfl, hcH, g0, _, rfl, _, _, rfl, rfl, ⟨q0, by lia, q3⟩, ?_⟩
      refine ⟨_, rfl, a, _, _, _, rfl, rfl, hcH, g3, _, rfl, a, _, _, _, rfl, rfl, hcH, g3, _, _, rfl, rfl, cm4 (le4 m3), ?_⟩
      refine ⟨_, rfl, a, _, _, _, rfl, rfl, hcH, g2, _, rfl, _, _, rfl, rfl, _, rfl, _, _, rfl, rfl, _, _, rfl, rfl, .inl ⟨by decide, by decide⟩, _, _, rfl, rfl, ?_⟩
      obtain ⟨k1, k2, k3⟩ := gap_few m3 m2 hq1000 hs1000
      refine ⟨_, rfl, _, _, rfl, _, rfl, k1, k2, fun H3 r s3 r0 r1 r2 => ?_⟩
      have hcH3 := s3.seq hcH
      have hr : r.natAbs ≤ 4000 := k3 r r0 r1
      refine ⟨_, rfl, _, rfl, _, _, rfl, rfl, cm4 hr, _, rfl, rfl, _, rfl, ?_⟩
      refine ite2 (fun hne => ?_) (fun heq => ?_)
      · refine ⟨⟨_, _, _, _, _, _, rfl⟩, s2.trans s3, nohit ?_⟩
        rintro ⟨g, gg0, gg, _⟩
        have hne' : r * r ≠ c.getD 3 0 * c.getD 3 0 - 4 * (c.getD 2 0 - q - c.getD 0 0 / q) := nq_ne hne
        have e5 : r = g := sq_floor r0 gg0 gg r1 r2
        rw [← gg] at hne'
        exact hne' (by rw [e5])
      · have heq' : r * r = c.getD 3 0 * c.getD 3 0 - 4 * (c.getD 2 0 - q - c.getD 0 0 / q) := nq_eq heq
        refine ⟨_, rfl, a, _, _, _, rfl, rfl, hcH3, g3, _, rfl, _, _, rfl, rfl, _, _, rfl, rfl, ⟨by decide, by decide⟩, ?_⟩
        refine ⟨_, rfl, a, _, _, _, rfl, rfl, hcH3, g3, _, rfl, _, _, rfl, rfl, ?_⟩
        refine ⟨_, rfl, _, rfl, _, _, rfl, rfl, cm4r (le4 hs1000), _, rfl, _, rfl, _, _, rfl, rfl, cm4 (le4 hq1000), _, _, rfl, rfl, _, rfl, a, _, _, _, rfl, rfl, hcH3, g1, rfl, _, rfl, ?_⟩
        refine ite2 (fun hy => ?_) (fun hy => ?_)
        · have hit : Hit c q := ⟨r, r0, heq', int_eq hy⟩
          have e := k H3 ((s1.trans s2).trans s3)
          rw [twoTwos_of_hit h0 hqm hit] at e
          exact e
        · refine ⟨⟨_, _, _, _, _, _, rfl⟩, s2.trans s3, nohit ?_⟩
          rintro ⟨g, gg0, gg, hp⟩
          have e5 : r = g := sq_eq r0 gg0 (heq'.trans gg.symm)
          subst e5
          exact int_ne hy hp
    · rintro σ H' ⟨⟨v1, v2, v3, v4, v5, v6, rfl⟩, s2, hno⟩
      have e := k H' (s1.trans s2)
      rw [List.length_map, List.take_length] at hno
      have ht : Root.twoTwos c = false := by
        cases hT : Root.twoTwos c with
        | false => rfl
        | true =>
          obtain ⟨q, hq, hh⟩ := hit_of_twoTwos h0 hT
          exact absurd hh (hno q hq)
      rw [ht] at e
      exact e
structure Good (c : List Int) : Prop where
  ne : c ≠ []
  len : c.length ≤ 4
  all : ∀ z ∈ c, z.natAbs ≤ 1000
theorem good_of {c : List Int} (h : badField c = false) : Good c := by
  unfold badField at h
  rw [Bool.or_eq_false_iff, Bool.or_eq_false_iff, decide_eq_false_iff_not, decide_eq_false_iff_not, List.any_eq_false] at h
  obtain ⟨h1, h2, h3⟩ := h
  refine ⟨fun e => h1 (by rw [e]; decide), by lia, fun z hz => ?_⟩
  have := h3 z hz
  rw [Bool.or_eq_true, decide_eq_true_eq, decide_eq_true_eq] at this
  lia
theorem Good.head {c : List Int} (g : Good c) : (c.headD 0).natAbs ≤ 1000 := by
  cases c with
  | nil => exact absurd rfl g.ne
  | cons z l => exact g.all z (by simp)
noncomputable def sp_is_product (K : PySem.W.Frag) : Sp := fun vs H Q _ => ∃ (v : V) (c : List Int), vs = [v] ∧ IL K H v c ∧ Good c ∧ ∀ H' : Hp, Same H H' → Q (.bl (!Root.isField c)) H'
theorem sc_is_product : FnScope ["field"] ["field"] (defScope s_is_product) := ⟨rfl, rfl, rfl, by decide +kernel, rfl, by decide +kernel, by decide +kernel⟩
theorem ok_is_product {P : Program} {w : World} {K : PySem.W.Frag} {mg : Str → Option Value} {base : Heap} {f : Addr} {fd : FuncData} (F : Fun K "is_product" "is_product" s_is_product f fd) (O : Own mg) (C_has_whole_root : Cal P w K mg base 2 "has_whole_root" ["field"] (sp_has_whole_root K)) (C_is_product_of_quadratics : Cal P w K mg base 2 "is_product_of_quadratics" ["field"] (sp_is_product_of_quadratics K)) :
    FnOk P w K mg base CX0 3 f fd ["field"] (sp_is_product K) := by
  refine F.ok sc_is_product (fun vs H Q E h => ?_) (fun cdv A outer s H vs Q E hr h => ?_)
  · obtain ⟨v, c, rfl, _⟩ := h
    rfl
  · obtain ⟨v, c, rfl, ⟨a, rfl, hc⟩, hg, k⟩ := h
    refine ⟨_, (pss_cons (ps_if (pt_cmpR op_eq (pe_callB (call_lenK (K := K) rfl) (by rfl) O.len_ bt_len (pa_cons (pv 0) pa_nil)) pe_int (nomark _)) (pss_one (ps_ret pe_bl)) pss_nil)
      (pss_cons (ps_if (pt_cmpR op_eq (pe_ix (ix_listK (K := K) rfl) (pv 0) pe_int (fun _ _ => rfl)) pe_int (nomark _)) (pss_one (ps_ret pe_bl)) pss_nil)
      (pss_cons (ps_if (pt_val (pe_cal C_has_whole_root (hr.mono (by decide)) (by rfl) (pa_cons (pv 0) pa_nil))) (pss_one (ps_ret pe_bl)) pss_nil)
      (pss_one (ps_ret (pe_and (pe_cmpR op_eq (pe_callB (call_lenK (K := K) rfl) (by rfl) O.len_ bt_len (pa_cons (pv 0) pa_nil)) pe_int (nomark _)) (pe_one (pe_cal C_is_product_of_quadratics (hr.mono (by decide)) (by rfl) (pa_cons (pv 0) pa_nil))))))))), ?_⟩
    refine ⟨_, rfl, a, _, rfl, .inl hc, rfl, _, rfl, ?_⟩
    rw [List.length_map]
    refine ite2 (fun h1 => ?_) (fun h1 => ?_)
    · have e := k H (Same.refl H)
      have h1' : (c.length : Int) = 1 := int_eq h1
      rw [isField_one (by lia)] at e
      exact e
    have hn1 : c.length ≠ 1 := fun z => int_ne h1 (by rw [z]; rfl)
    refine ⟨_, rfl, a, _, _, _, rfl, rfl, hc, good_head hg.ne, rfl, _, rfl, ?_⟩
    refine ite2 (fun h2 => ?_) (fun h2 => ?_)
    · have e := k H (Same.refl H)
      rw [isField_zero hn1 (int_eq h2)] at e
      exact e
    have h0 : c.headD 0 ≠ 0 := int_ne h2
    refine ⟨_, rfl, _, c, rfl, ⟨a, rfl, hc⟩, hg.ne, by have := hg.len; lia, hg.head, fun H1 s1 => ⟨_, rfl, ?_⟩⟩
    rw [← hasRoot_is h0]
    refine ite2 (fun h3 => ?_) (fun h3 => ?_)
    · have e := k H1 s1
      rw [isField_root hn1 h3] at e
      exact e
    have h3' : Root.hasRoot c = false := by
      cases z : Root.hasRoot c with
      | false => rfl
      | true => exact absurd z h3
    refine ⟨_, rfl, a, _, rfl, .inl (s1.seq hc), rfl, ?_⟩
    rw [List.length_map, dec_int]
    refine ⟨_, rfl, ?_⟩
    refine ite2 (fun h4 => ?_) (fun h4 => ?_)
    · have h4' : c.length = 4 := by
        have := of_decide_eq_true h4
        lia
      refine ⟨_, rfl, _, c, rfl, ⟨a, rfl, s1.seq hc⟩, h4', h0, hg.all, fun H2 s2 => ?_⟩
      have e := k H2 (s1.trans s2)
      rw [isField_four h3' h4', Bool.not_not] at e
      exact e
    · have h4' : c.length ≠ 4 := fun z => h4 (decide_eq_true (by rw [z]; rfl))
      have e := k H1 s1
      rw [isField_rest hn1 h3' h4'] at e
      exact e
noncomputable def sp_field_refusal (K : PySem.W.Frag) : Sp := fun vs H Q _ => ∃ (v : V) (c : List Int), vs = [v] ∧ IL K H v c ∧ c.length ≤ 1000 ∧ ∀ H' : Hp, Same H H' → Q (.int (refusal c)) H'
theorem sc_field_refusal : FnScope ["field"] ["field"] (defScope s_field_refusal) := ⟨rfl, rfl, rfl, by decide +kernel, rfl, by decide +kernel, by decide +kernel⟩
theorem ok_field_refusal {P : Program} {w : World} {K : PySem.W.Frag} {mg : Str → Option Value} {base : Heap} {f : Addr} {fd : FuncData} (F : Fun K "field_refusal" "field_refusal" s_field_refusal f fd) (O : Own mg) (C_is_told_rightly : Cal P w K mg base 1 "is_told_rightly" ["field"] (sp_is_told_rightly K)) (C_is_product : Cal P w K mg base 3 "is_product" ["field"] (sp_is_product K)) :
    FnOk P w K mg base CX0 4 f fd ["field"] (sp_field_refusal K) := by
  refine F.ok sc_field_refusal (fun vs H Q E h => ?_) (fun cdv A outer s H vs Q E hr h => ?_)
  · obtain ⟨v, c, rfl, _⟩ := h
    rfl
  · obtain ⟨v, c, rfl, ⟨a, rfl, hc⟩, hl, k⟩ := h
    refine ⟨_, (pss_cons (ps_if (pt_not (pt_val (pe_cal C_is_told_rightly (hr.mono (by decide)) (by rfl) (pa_cons (pv 0) pa_nil)))) (pss_one (ps_ret (pe_un un_neg pe_int))) pss_nil)
      (pss_cons (ps_if (pt_val (pe_cal C_is_product (hr.mono (by decide)) (by rfl) (pa_cons (pv 0) pa_nil))) (pss_one (ps_ret (pe_un un_neg pe_int))) pss_nil)
      (pss_one (ps_ret pe_int)))), ?_⟩
    refine ⟨_, rfl, _, c, rfl, ⟨a, rfl, hc⟩, hl, fun H1 s1 => ⟨_, rfl, ?_⟩⟩
    refine ite2 (fun h1 => ?_) (fun h1 => ?_)
    · rw [Bool.not_not] at h1
      have e := k H1 s1
      unfold refusal at e
      rw [if_pos h1] at e
      exact ⟨_, rfl, e⟩
    rw [Bool.not_not] at h1
    have h1' : badField c = false := by
      cases z : badField c with
      | false => rfl
      | true => exact absurd z h1
    refine ⟨_, rfl, _, c, rfl, ⟨a, rfl, s1.seq hc⟩, good_of h1', fun H2 s2 => ⟨_, rfl, ?_⟩⟩
    refine ite2 (fun h2 => ?_) (fun h2 => ?_)
    · have e := k H2 (s1.trans s2)
      unfold refusal at e
      rw [if_neg h1, if_neg (by intro z; rw [z] at h2; cases h2)] at e
      exact ⟨_, rfl, e⟩
    · have e := k H2 (s1.trans s2)
      unfold refusal at e
      rw [if_neg h1, if_pos (by
        cases z : Root.isField c with
        | true => rfl
        | false => rw [z] at h2; exact absurd rfl h2)] at e
      exact e

noncomputable def sp_is_row (K : PySem.W.Frag) : Sp := fun vs H Q _ => ∃ (v : V) (a : List Int) (d : Nat), vs = [v, .int d] ∧ IL K H v a ∧ ∀ H' : Hp, Same H H' → Q (.bl (isRow a d)) H'
theorem sc_is_row : FnScope ["operand", "degree"] ["operand", "degree"] (defScope s_is_row) := ⟨rfl, rfl, rfl, by decide +kernel, rfl, by decide +kernel, by decide +kernel⟩
theorem ok_is_row {P : Program} {w : World} {K : PySem.W.Frag} {mg : Str → Option Value} {base : Heap} {f : Addr} {fd : FuncData} (F : Fun K "is_row" "is_row" s_is_row f fd) (O : Own mg) :
    FnOk P w K mg base CX0 1 f fd ["operand", "degree"] (sp_is_row K) := by
  refine F.ok sc_is_row (fun vs H Q E h => ?_) (fun cdv A outer s H vs Q E hr h => ?_)
  · obtain ⟨v, a, d, rfl, _⟩ := h
    rfl
  · obtain ⟨v, c, d, rfl, ⟨a, rfl, hc⟩, k⟩ := h
    refine ⟨_, (pss_one (ps_ret (pe_and (pe_cmpR op_eq (pe_callB (call_lenK (K := K) rfl) (by rfl) O.len_ bt_len (pa_cons (pv 0) pa_nil)) (pe_op op_add (pv 1) pe_int) (nomark _)) (pe_one (pe_cmpR op_gt (pe_ix (ix_listK (K := K) rfl) (pv 0) (pe_un un_neg pe_int) (fun _ _ => rfl)) pe_int (nomark _)))))), ?_⟩
    refine ⟨_, rfl, a, _, rfl, .inl hc, _, rfl, _, _, rfl, rfl, rfl, ?_⟩
    rw [List.length_map, dec_int]
    refine ⟨_, rfl, ?_⟩
    have e := k H (Same.refl H)
    unfold isRow at e
    refine ite2 (fun h1 => ?_) (fun h1 => ?_)
    · have h1' : c.length = d + 1 := by
        have := of_decide_eq_true h1
        lia
      rw [decide_eq_true h1', Bool.true_and] at e
      exact ⟨_, rfl, _, rfl, a, _, _, _, rfl, rfl, hc, at_last (by intro z; rw [z] at h1'; cases h1'), _, _, rfl, rfl, e⟩
    · have h1' : ¬ c.length = d + 1 := fun z => h1 (decide_eq_true (by rw [z]; rfl))
      rw [decide_eq_false h1', Bool.false_and] at e
      exact e
noncomputable def sp_are_rows (K : PySem.W.Frag) : Sp := fun vs H Q _ => ∃ (p : Addr) (d : Nat) (rs : List (Addr × List Int)), vs = [.ref p, .int d] ∧ SqL K H p (rs.map fun (r : Addr × List Int) => V.ref r.1) ∧ rs.length ≤ 1000 ∧
  (∀ r ∈ rs, SqL K H r.1 (r.2.map V.int)) ∧ ∀ H' : Hp, Same H H' → Q (.bl ((rs.map (·.2)).all fun (r : List Int) => isRow r d)) H'
theorem sc_are_rows : FnScope ["operands", "degree", "operand"] ["operands", "degree"] (defScope s_are_rows) := ⟨rfl, rfl, rfl, by decide +kernel, rfl, by decide +kernel, by decide +kernel⟩
theorem ok_are_rows {P : Program} {w : World} {K : PySem.W.Frag} {mg : Str → Option Value} {base : Heap} {f : Addr} {fd : FuncData} (F : Fun K "are_rows" "are_rows" s_are_rows f fd) (O : Own mg) (C_is_row : Cal P w K mg base 1 "is_row" ["operand", "degree"] (sp_is_row K)) :
    FnOk P w K mg base CX0 2 f fd ["operands", "degree"] (sp_are_rows K) := by
  refine F.ok sc_are_rows (fun vs H Q E h => ?_) (fun cdv A outer s H vs Q E hr h => ?_)
  · obtain ⟨p, d, rs, rfl, _⟩ := h
    rfl
  · obtain ⟨p, d, rs, rfl, hp, hrl, hrs, k⟩ := h
    refine ⟨_, (pss_one (ps_ret (pe_callB (cr_allK (K := K) rfl rfl) (by rfl) O.all_ bt_all (pa_cons (pe_lc (own := [("operand", 2)]) rfl sc_are_rows.nd (pi_list (pv 0)) (show BlkOk ["operands", "degree", "operand"] (defScope s_are_rows) _ _ from ⟨rfl, by decide +kernel, by decide +kernel, by decide +kernel, by decide +kernel⟩) (fun _ _ _ _ _ => (pg_name (i := 2) sc_are_rows.nd rfl (by first | exact Or.inl rfl | exact Or.inr rfl))) (fun _ _ _ _ _ => pts_nil) (fun _ _ _ _ _ => (pe_cal C_is_row (hr.mono (by decide)) (by rfl) (pa_cons (pv 2) (pa_cons (pv 1) pa_nil))))) pa_nil)))), ?_⟩
    refine ⟨_, rfl, p, rfl, ⟨_, hp⟩, fun D hD => ?_⟩
    refine lc_any (fun (r : Addr × List Int) => V.ref r.1) (K := K) (a := p) (ns := rs) (fun _ => true) (fun r => V.bl (isRow r.2 d)) hp (small1000 hrl) hD (fun z => rfl) (fun z hz H2 Rv R s2 hR => ?_) (fun H2 s2 e4 => ?_)
    · refine ⟨_, rfl, _, rfl, _, z.2, d, rfl, ⟨_, rfl, s2.seq (hrs z hz)⟩, fun H3 s3 => ?_⟩
      have hR' := hR H3 s3
      rw [if_pos rfl] at hR'
      exact hR'
    · rw [filter_yes] at e4
      refine ⟨D, rs.map fun (r : Addr × List Int) => isRow r.2 d, rfl, SqL.of ?_, ?_⟩
      · rw [e4, List.map_map]
        rfl
      · have e := k H2 s2
        have ea : (rs.map fun (r : Addr × List Int) => isRow r.2 d).all id = (rs.map (·.2)).all fun (r : List Int) => isRow r d := by
          rw [List.all_map, List.all_map]
          rfl
        rw [ea]
        exact e

noncomputable def sp_refusal_of (K : PySem.W.Frag) : Sp := fun vs H Q _ => ∃ (v : V) (p : Addr) (c : List Int) (rs : List (Addr × List Int)), vs = [v, .ref p] ∧ IL K H v c ∧ c.length ≤ 1000 ∧ SqL K H p (rs.map fun (r : Addr × List Int) => V.ref r.1) ∧ rs.length ≤ 1000 ∧
  (∀ r ∈ rs, SqL K H r.1 (r.2.map V.int)) ∧ ∀ H' : Hp, Same H H' → Q (.int (rowsRefusal c (rs.map (·.2)))) H'
theorem sc_refusal_of : FnScope ["field", "operands", "refusal"] ["field", "operands"] (defScope s_refusal_of) := ⟨rfl, rfl, rfl, by decide +kernel, rfl, by decide +kernel, by decide +kernel⟩
theorem ok_refusal_of {P : Program} {w : World} {K : PySem.W.Frag} {mg : Str → Option Value} {base : Heap} {f : Addr} {fd : FuncData} (F : Fun K "refusal_of" "refusal_of" s_refusal_of f fd) (O : Own mg) (C_field_refusal : Cal P w K mg base 4 "field_refusal" ["field"] (sp_field_refusal K)) (C_are_rows : Cal P w K mg base 2 "are_rows" ["operands", "degree"] (sp_are_rows K)) :
    FnOk P w K mg base CX0 5 f fd ["field", "operands"] (sp_refusal_of K) := by
  refine F.ok sc_refusal_of (fun vs H Q E h => ?_) (fun cdv A outer s H vs Q E hr h => ?_)
  · obtain ⟨v, p, c, rs, rfl, _⟩ := h
    rfl
  · obtain ⟨v, p, c, rs, rfl, ⟨a, rfl, hc⟩, hl, hp, hrl, hrs, k⟩ := h
    refine ⟨_, (pss_cons (ps_set (i := 2) sc_refusal_of.nd rfl (by first | exact Or.inl rfl | exact Or.inr rfl) (pe_cal C_field_refusal (hr.mono (by decide)) (by rfl) (pa_cons (pv 0) pa_nil)))
      (pss_cons (ps_if (pt_cmpR op_ne (pv 2) pe_int (nomark _)) (pss_one (ps_ret (pv 2))) pss_nil)
      (pss_cons (ps_if (pt_val (pe_cal C_are_rows (hr.mono (by decide)) (by rfl) (pa_cons (pv 1) (pa_cons (pe_callB (call_lenK (K := K) rfl) (by rfl) O.len_ bt_len (pa_cons (pv 0) pa_nil)) pa_nil)))) (pss_one (ps_ret pe_int)) pss_nil)
      (pss_one (ps_ret (pe_un un_neg pe_int)))))), ?_⟩
    refine ⟨_, rfl, _, c, rfl, ⟨a, rfl, hc⟩, hl, fun H1 s1 => ?_⟩
    refine ⟨_, rfl, rfl, _, rfl, ?_⟩
    refine ite2 (fun h1 => ?_) (fun h1 => ?_)
    · have e := k H1 s1
      unfold rowsRefusal at e
      rw [if_neg (nq_ne h1)] at e
      exact ⟨_, rfl, e⟩
    have h0 : refusal c = 0 := nq_eq h1
    refine ⟨_, rfl, _, rfl, a, _, rfl, .inl (s1.seq hc), p, c.length, rs, ?_, s1.seq hp, hrl, fun r hr => s1.seq (hrs r hr), fun H2 s2 => ⟨_, rfl, ?_⟩⟩
    · rw [List.length_map]
      rfl
    · have e := k H2 (s1.trans s2)
      unfold rowsRefusal at e
      rw [if_pos h0] at e
      refine ite2 (fun h2 => ?_) (fun h2 => ?_)
      · rw [if_pos h2] at e
        exact e
      · rw [if_neg h2] at e
        exact ⟨_, rfl, e⟩
noncomputable def sp_derivative_of (K : PySem.W.Frag) : Sp := fun vs H Q _ => ∃ (v : V) (P : List Int), vs = [v] ∧ IL K H v P ∧ 1 ≤ P.length ∧ P.length ≤ 1000 ∧ ∀ (H' : Hp) (u : V), Same H H' → OL H' u (derI P) → Q u H'
theorem sc_derivative_of : FnScope ["f", "k"] ["f"] (defScope s_derivative_of) := ⟨rfl, rfl, rfl, by decide +kernel, rfl, by decide +kernel, by decide +kernel⟩
theorem ok_derivative_of {P : Program} {w : World} {K : PySem.W.Frag} {mg : Str → Option Value} {base : Heap} {f : Addr} {fd : FuncData} (F : Fun K "derivative_of" "derivative_of" s_derivative_of f fd) (O : Own mg) :
    FnOk P w K mg base CX0 1 f fd ["f"] (sp_derivative_of K) := by
  refine F.ok sc_derivative_of (fun vs H Q E h => ?_) (fun cdv A outer s H vs Q E hr h => ?_)
  · obtain ⟨v, P, rfl, _⟩ := h
    rfl
  · obtain ⟨v, P, rfl, ⟨a, rfl, hc⟩, hl1, hl, k⟩ := h
    refine ⟨_, (pss_one (ps_ret (pe_lc (own := [("k", 1)]) rfl sc_derivative_of.nd (pi_range2 (by rfl) O.range_ (pa_cons pe_int (pa_cons (pe_callB (call_lenK (K := K) rfl) (by rfl) O.len_ bt_len (pa_cons (pv 0) pa_nil)) pa_nil))) (show BlkOk ["f", "k"] (defScope s_derivative_of) _ _ from ⟨rfl, by decide +kernel, by decide +kernel, by decide +kernel, by decide +kernel⟩) (fun _ _ _ _ _ => (pg_name (i := 1) sc_derivative_of.nd rfl (by first | exact Or.inl rfl | exact Or.inr rfl))) (fun _ _ _ _ _ => pts_nil) (fun _ _ _ _ _ => (pe_op op_mul (pv 1) (pe_ix (ix_listK (K := K) rfl) (pv 0) (pv 1) (fun _ _ => rfl))))))), ?_⟩
    refine ⟨_, rfl, a, _, rfl, .inl hc, _, _, rfl, ?_, fun D hD => ?_⟩
    · rw [List.length_map]
      exact ⟨by decide, by decide, by lia, by lia⟩
    refine lc_rng (fun _ => true) (fun z => V.int (z * P.getD z.toNat 0)) ?_ hD (fun z => rfl) (fun i hi H1 Rv R s1 hR => ?_) (fun H1 s1 e1 => ?_)
    · rw [List.length_map]
      exact small1000 (by lia)
    · rw [List.length_map] at hi
      have hR' := hR H1 (Same.refl H1)
      rw [if_pos rfl] at hR'
      refine ⟨_, rfl, _, rfl, _, rfl, a, _, _, _, rfl, rfl, s1.seq hc, good_atI (by lia) (by lia), _, _, rfl, rfl, .inl ⟨by lia, by lia⟩, hR'⟩
    · rw [filter_yes, List.length_map] at e1
      refine k _ _ s1 ⟨D, rfl, ?_⟩
      rw [e1]
      unfold derI
      rw [List.map_map, List.map_map, show ((P.length : Int) - 1).toNat = P.length - 1 by lia]
      refine congrArg some (congrArg HO.lst (List.map_congr_left fun i hi => ?_))
      show V.int ((1 + (i : Int)) * P.getD (1 + (i : Int)).toNat 0) = V.int (((1 : Int) + (i : Int)) * P.getD (1 + i) 0)
      rw [show (1 + (i : Int)).toNat = 1 + i by lia]
theorem trimI_take {P : List Int} {n : Nat} {z : Int} (h : P[n]? = some z) (hz : z = 0) : trimI (P.take (n + 1)) = trimI (P.take n) := by
  rw [take_snoc' h, hz]
  unfold trimI
  rw [List.reverse_append]
  rfl
theorem trimI_done {P : List Int} {n : Nat} {z : Int} (h : P[n]? = some z) (hz : z ≠ 0) : trimI (P.take (n + 1)) = P.take (n + 1) := by
  rw [take_snoc' h]
  unfold trimI
  rw [List.reverse_append]
  show ((z :: (P.take n).reverse).dropWhile fun (z : Int) => z == 0).reverse = _
  rw [List.dropWhile_cons, if_neg (by simpa using hz), List.reverse_cons, List.reverse_reverse]
noncomputable def sp_without_end_zeros (K : PySem.W.Frag) : Sp := fun vs H Q _ => ∃ (v : V) (P : List Int), vs = [v] ∧ IL K H v P ∧ P.length ≤ 1000 ∧ ∀ (H' : Hp) (u : V), Same H H' → OL H' u (trimI P) → Q u H'
theorem sc_without_end_zeros : FnScope ["values", "end"] ["values"] (defScope s_without_end_zeros) := ⟨rfl, rfl, rfl, by decide +kernel, rfl, by decide +kernel, by decide +kernel⟩
theorem ok_without_end_zeros {P : Program} {w : World} {K : PySem.W.Frag} {mg : Str → Option Value} {base : Heap} {f : Addr} {fd : FuncData} (F : Fun K "without_end_zeros" "without_end_zeros" s_without_end_zeros f fd) (O : Own mg) :
    FnOk P w K mg base CX0 1 f fd ["values"] (sp_without_end_zeros K) := by
  refine F.ok sc_without_end_zeros (fun vs H Q E h => ?_) (fun cdv A outer s H vs Q E hr h => ?_)
  · obtain ⟨v, P, rfl, _⟩ := h
    rfl
  · obtain ⟨v, P, rfl, ⟨a, rfl, hc⟩, hl, k⟩ := h
    refine ⟨_, (pss_cons (ps_set (i := 1) sc_without_end_zeros.nd rfl (by first | exact Or.inl rfl | exact Or.inr rfl) (pe_callB (call_lenK (K := K) rfl) (by rfl) O.len_ bt_len (pa_cons (pv 0) pa_nil)))
      (pss_cons (ps_while PassesOwn.never (PW.pt (pw_and (pt_cmpR op_gt (pv 1) pe_int (nomark _)) (pw_and1 (pt_cmpR op_eq (pe_ix (ix_listK (K := K) rfl) (pv 0) (pe_op op_sub (pv 1) pe_int) (fun _ _ => rfl)) pe_int (nomark _))))) (pss_one (ps_aug (i := 1) sc_without_end_zeros.nd rfl (by first | exact Or.inl rfl | exact Or.inr rfl) pe_int ip_sub)))
      (pss_one (ps_ret (pe_slice (sl_listK (K := K) rfl) (pv 0) po_none (po_some (pv 1))))))), ?_⟩
    refine ⟨_, rfl, a, _, rfl, .inl hc, ?_⟩
    refine while_by (fun σ H' => ∃ n : Nat, σ = [some (.ref a), some (.int (n : Int))] ∧ n ≤ P.length ∧ trimI (P.take n) = trimI P ∧ Same H H')
      (fun σ H' => match σ with | [_, some (.int b)] => b.toNat | _ => 0) ⟨P.length, ?_, Nat.le_refl _, by rw [List.take_length], Same.refl H⟩ ?_ ?_
    · rw [List.length_map]
      rfl
    · rintro σ H' ⟨n, rfl, hn, ht, hs⟩
      refine ⟨_, rfl, _, _, rfl, rfl, _, rfl, ?_⟩
      refine ite2 (fun hb => ?_) (fun hb => ?_)
      · have hb' : 0 < n := by
          have := of_decide_eq_true hb
          lia
        have hat : P[n - 1]? = some (P.getD (n - 1) 0) := by
          rw [List.getD_eq_getElem?_getD, List.getElem?_eq_getElem (show n - 1 < P.length by lia)]
          rfl
        refine ⟨_, rfl, _, rfl, _, _, rfl, rfl, a, _, _, _, rfl, rfl, hs.seq hc, good_atI (by lia) (by lia), rfl, _, rfl, ?_⟩
        have e1 : ((n : Int) - 1).toNat = n - 1 := by lia
        rw [e1]
        refine ite2 (fun h2 => ?_) (fun h2 => ?_)
        · refine ⟨_, rfl, _, _, rfl, rfl, ⟨n - 1, ?_, by lia, ?_, hs⟩, ?_⟩
          · show [some (V.ref a), some (V.int ((n : Int) - 1))] = _
            rw [show ((n - 1 : Nat) : Int) = (n : Int) - 1 by lia]
          · have := trimI_take hat (int_eq h2)
            rw [show n - 1 + 1 = n by lia] at this
            rw [← this, ht]
          · show ((n : Int) - 1).toNat < (n : Int).toNat
            lia
        · have := trimI_done hat (int_ne h2)
          rw [show n - 1 + 1 = n by lia, ht] at this
          refine ⟨_, rfl, _, rfl, _, rfl, a, _, rfl, hs.seq hc, fun q hq => k _ _ (hs.trans (same_upd hq)) ⟨q, rfl, ?_⟩⟩
          rw [upd_same, cut_to P n hn, this]
      · have hb' : n = 0 := by
          have : ¬ (0 : Int) < (n : Int) := fun z => hb (decide_eq_true z)
          lia
        subst hb'
        refine ⟨_, rfl, _, rfl, _, rfl, a, _, rfl, hs.seq hc, fun q hq => k _ _ (hs.trans (same_upd hq)) ⟨q, rfl, ?_⟩⟩
        rw [upd_same, cut_to P 0 hn, ← ht]
        rfl
    · show Mono _
      (repeat first | exact MonoE.var | exact MonoE.c | exact MonoR.i0 | exact MonoR.i | exact MonoR.eq | exact MonoR.ne | exact MonoR.ix | exact MonoL.len | exact MonoA.nil | apply Mono.test | apply Mono.and | apply MonoE.cb | apply MonoE.op | apply MonoA.cons | apply MonoE.bits | apply MonoE.un)
noncomputable def sp_never : Sp := fun _ _ _ _ => False
theorem sc_halved : FnScope ["a", "b", "half", "lines"] ["a", "b"] (defScope s_halved) := ⟨rfl, rfl, rfl, by decide +kernel, rfl, by decide +kernel, by decide +kernel⟩
theorem ok_halved {P : Program} {w : World} {K : PySem.W.Frag} {mg : Str → Option Value} {base : Heap} {f : Addr} {fd : FuncData} (F : Fun K "halved" "halved" s_halved f fd) (O : Own mg) :
    FnOk P w K mg base CX0 1 f fd ["a", "b"] sp_never := by
  refine F.ok sc_halved (fun vs H Q E h => ?_) (fun cdv A outer s H vs Q E hr h => ?_)
  · exact h.elim
  · exact h.elim
noncomputable def sp_common_divisor : Sp := fun vs H Q _ => ∃ m n : Int, vs = [.int m, .int n] ∧ (m.natAbs < 2 ^ 2000 ∨ n.natAbs < 2 ^ 2000) ∧ ∀ H' : Hp, Same H H' → Q (.int (Nat.gcd m.natAbs n.natAbs : Nat)) H'
theorem max_is (a b : Int) (m n : Nat) (ha : a = m) (hb : b = n) : (if b > a then b else a) = ((max m n : Nat) : Int) := by
  subst ha hb
  rw [Nat.max_def]
  split <;> split <;> lia
theorem min_is (a b : Int) (m n : Nat) (ha : a = m) (hb : b = n) : (if b < a then b else a) = ((min m n : Nat) : Int) := by
  subst ha hb
  rw [Nat.min_def]
  split <;> split <;> lia
theorem gcd_max_min (m n : Nat) : Nat.gcd (max m n) (min m n) = Nat.gcd m n := by
  rw [Nat.max_def, Nat.min_def]
  split
  · exact Nat.gcd_comm _ _
  · rfl
theorem min_few {m n k : Nat} (h : m < k ∨ n < k) : min m n < k := by
  rw [Nat.min_def]
  split <;> lia
theorem sc_common_divisor : FnScope ["m", "n", "left", "right", "lines", "rest"] ["m", "n"] (defScope s_common_divisor) := ⟨rfl, rfl, rfl, by decide +kernel, rfl, by decide +kernel, by decide +kernel⟩
theorem ok_common_divisor {P : Program} {w : World} {K : PySem.W.Frag} {mg : Str → Option Value} {base : Heap} {f : Addr} {fd : FuncData} (F : Fun K "common_divisor" "common_divisor" s_common_divisor f fd) (O : Own mg) (c_SHORT_TO_DIVIDE : Kst mg "SHORT_TO_DIVIDE" 2000) (C_halved : Cal P w K mg base 1 "halved" ["a", "b"] sp_never) :
    FnOk P w K mg base CX0 2 f fd ["m", "n"] sp_common_divisor := by
  refine F.ok sc_common_divisor (fun vs H Q E h => ?_) (fun cdv A outer s H vs Q E hr h => ?_)
  · obtain ⟨m, n, rfl, _⟩ := h
    rfl
  · obtain ⟨m, n, rfl, hs, k⟩ := h
    refine ⟨_, (pss_cons (ps_set (i := 2) sc_common_divisor.nd rfl (by first | exact Or.inl rfl | exact Or.inr rfl) (pe_callB (call_max2 rfl) (by rfl) O.max_ bt_max (pa_cons (pe_callB call_abs (by rfl) O.abs_ bt_abs (pa_cons (pv 0) pa_nil)) (pa_cons (pe_callB call_abs (by rfl) O.abs_ bt_abs (pa_cons (pv 1) pa_nil)) pa_nil))))
      (pss_cons (ps_set (i := 3) sc_common_divisor.nd rfl (by first | exact Or.inl rfl | exact Or.inr rfl) (pe_callB (call_min2 rfl) (by rfl) O.min_ bt_min (pa_cons (pe_callB call_abs (by rfl) O.abs_ bt_abs (pa_cons (pv 0) pa_nil)) (pa_cons (pe_callB call_abs (by rfl) O.abs_ bt_abs (pa_cons (pv 1) pa_nil)) pa_nil))))
      (pss_cons (ps_while PassesOwn.never (pt_cmpR op_gt (pe_bits (pv 3)) (pe_globK (by rfl) c_SHORT_TO_DIVIDE) (nomark _)) (pss_cons (ps_set (i := 4) sc_common_divisor.nd rfl (by first | exact Or.inl rfl | exact Or.inr rfl) (pe_cal C_halved (hr.mono (by decide)) (by rfl) (pa_cons (pv 3) (pa_cons (pe_op op_mod (pv 2) (pv 3)) pa_nil))))
      (pss_cons (ps_set (i := 2) sc_common_divisor.nd rfl (by first | exact Or.inl rfl | exact Or.inr rfl) (pe_ix (ix_listK (K := K) rfl) (pe_ix (ix_listK (K := K) rfl) (pv 4) pe_int (fun _ _ => rfl)) pe_int (fun _ _ => rfl)))
      (pss_one (ps_set (i := 3) sc_common_divisor.nd rfl (by first | exact Or.inl rfl | exact Or.inr rfl) (pe_ix (ix_listK (K := K) rfl) (pe_ix (ix_listK (K := K) rfl) (pv 4) pe_int (fun _ _ => rfl)) pe_int (fun _ _ => rfl)))))))
      (pss_cons (ps_while PassesOwn.never (pt_cmpR op_ne (pv 3) pe_int (nomark _)) (pss_cons (ps_set (i := 5) sc_common_divisor.nd rfl (by first | exact Or.inl rfl | exact Or.inr rfl) (pe_op op_mod (pv 2) (pv 3)))
      (pss_cons (ps_set (i := 2) sc_common_divisor.nd rfl (by first | exact Or.inl rfl | exact Or.inr rfl) (pv 3))
      (pss_one (ps_set (i := 3) sc_common_divisor.nd rfl (by first | exact Or.inl rfl | exact Or.inr rfl) (pv 5))))))
      (pss_one (ps_ret (pv 2))))))), ?_⟩
    refine ⟨_, rfl, m, rfl, _, rfl, n, rfl, _, _, rfl, _, rfl, m, rfl, _, rfl, n, rfl, _, _, rfl, ?_⟩
    rw [max_is _ _ m.natAbs n.natAbs (abs_is _) (abs_is _), min_is _ _ m.natAbs n.natAbs (abs_is _) (abs_is _)]
    refine while_by (fun σ H' => σ = [some (.int m), some (.int n), some (.int (max m.natAbs n.natAbs : Nat)), some (.int (min m.natAbs n.natAbs : Nat)), none, none] ∧ Same H H')
      (fun σ H' => 0) ⟨rfl, Same.refl H⟩ ?_ ?_
    · rintro σ H' ⟨rfl, hs'⟩
      refine ⟨_, rfl, _, rfl, _, _, rfl, rfl, _, rfl, ?_⟩
      have hb : Builtin.Int.intBits ((min m.natAbs n.natAbs : Nat) : Int) ≤ 2000 := bits_few (by rw [Int.natAbs_natCast]; exact min_few hs)
      refine ite2 (fun h1 => ?_) (fun h1 => ?_)
      · have := of_decide_eq_true h1
        lia
      refine while_by (fun σ H' => ∃ (a b : Nat) (v : Option V), σ = [some (.int m), some (.int n), some (.int a), some (.int b), none, v] ∧ Nat.gcd a b = Nat.gcd m.natAbs n.natAbs ∧ Same H H')
        (fun σ H' => match σ with | [_, _, _, some (.int b), _, _] => b.toNat | _ => 0) ⟨_, _, none, rfl, gcd_max_min _ _, hs'⟩ ?_ ?_
      · rintro σ H' ⟨a, b, v, rfl, hg, hs⟩
        refine ⟨_, rfl, rfl, _, rfl, ?_⟩
        refine ite2 (fun hb => ?_) (fun hb => ?_)
        · have hb' : ¬ (b : Int) = 0 := by simpa using hb
          refine ⟨_, rfl, _, rfl, _, _, rfl, rfl, (by show (0 : Int) < b; lia), _, rfl, _, rfl, ?_⟩
          refine ⟨⟨b, a % b, _, rfl, ?_, hs⟩, ?_⟩
          · rw [← hg, Nat.gcd_comm a b, Nat.gcd_rec b a, Nat.gcd_comm]
          · show ((a : Int) % (b : Int)).toNat < ((b : Int)).toNat
            have : a % b < b := Nat.mod_lt _ (by lia)
            rw [← Int.natCast_emod]
            lia
        · have hb' : (b : Int) = 0 := by simpa using hb
          have hb0 : b = 0 := by lia
          subst hb0
          refine ⟨_, rfl, ?_⟩
          rw [Nat.gcd_zero_right] at hg
          rw [hg]
          exact k H' hs
      · show Mono _
        (repeat first | exact MonoE.var | exact MonoE.c | exact MonoR.i0 | exact MonoR.i | exact MonoR.eq | exact MonoR.ne | exact MonoR.ix | exact MonoL.len | exact MonoA.nil | apply Mono.test | apply Mono.and | apply MonoE.cb | apply MonoE.op | apply MonoA.cons | apply MonoE.bits | apply MonoE.un)
    · show Mono _
      (repeat first | exact MonoE.var | exact MonoE.c | exact MonoR.i0 | exact MonoR.i | exact MonoR.eq | exact MonoR.ne | exact MonoR.ix | exact MonoL.len | exact MonoA.nil | apply Mono.test | apply Mono.and | apply MonoE.cb | apply MonoE.op | apply MonoA.cons | apply MonoE.bits | apply MonoE.un)
theorem lessRow_id {l : List Int} (h : gcdRow l = 0) : lessRow l = l := by
  unfold lessRow
  rw [h]
  have hz : ∀ z ∈ l, z = 0 := fun z hz => by
    have := gcdRow_dvd hz
    rw [h] at this
    have := Nat.eq_zero_of_zero_dvd this
    lia
  have e : l.map (fun (z : Int) => z / ((0 : Nat) : Int)) = l.map id := List.map_congr_left fun z hz' => by
    rw [hz z hz']
    rfl
  rw [e, List.map_id]
theorem gcdRow_log {l : List Int} {n : Nat} (h : ∀ z ∈ l, z.natAbs < 2 ^ n) (h0 : gcdRow l ≠ 0) : (gcdRow l).log2 < n := by
  have hex : ∃ z ∈ l, z ≠ 0 := by
    false_or_by_contra
    rename_i hn
    apply h0
    refine Nat.eq_zero_of_zero_dvd ((dvd_gcdRow l).mpr fun z hz => ?_)
    have : z = 0 := by
      false_or_by_contra
      rename_i hz0
      exact hn ⟨z, hz, hz0⟩
    rw [this]
    exact Nat.dvd_refl _
  obtain ⟨z, hz, hz0⟩ := hex
  have h1 : gcdRow l ≤ z.natAbs := Nat.le_of_dvd (by omega) (gcdRow_dvd hz)
  exact (Nat.log2_lt h0).mpr (Nat.lt_of_le_of_lt h1 (h z hz))
theorem gcdRow_rev (l : List Int) : gcdRow l.reverse = gcdRow l := by
  apply Nat.dvd_antisymm
  · exact (dvd_gcdRow l).mpr fun z hz => gcdRow_dvd (by simpa using hz)
  · exact (dvd_gcdRow l.reverse).mpr fun z hz => gcdRow_dvd (by simpa using hz)
theorem gcdRow_one {l : List Int} {i : Nat} (h : gcdRow (l.reverse.take i) = 1) : gcdRow l = 1 := by
  have : gcdRow l ∣ gcdRow (l.reverse.take i) := (dvd_gcdRow _).mpr fun z hz => gcdRow_dvd (by
    have := List.mem_of_mem_take hz
    simpa using this)
  rw [h] at this
  exact Nat.dvd_one.mp this
theorem lessRow_one {l : List Int} (h : gcdRow l = 1) : lessRow l = l := by
  unfold lessRow
  rw [h]
  have e : l.map (fun (z : Int) => z / ((1 : Nat) : Int)) = l.map id := List.map_congr_left fun z _ => Int.ediv_one z
  rw [e, List.map_id]
noncomputable def Divs (l : List Int) : Prop := (∀ z ∈ l, z.natAbs < 2 ^ 8000) ∧ (l.length ≤ 1 ∨ ∀ z ∈ l, z.natAbs < 2 ^ 2000)
theorem Divs.of {l : List Int} (h : FewI 2000 l) : Divs l := ⟨h.mono (by decide), .inr h⟩
noncomputable def sp_without_divisor (K : PySem.W.Frag) : Sp := fun vs H Q _ => ∃ (v : V) (l : List Int), vs = [v] ∧ IL K H v l ∧ l.length ≤ 1000 ∧ Divs l ∧ ∀ (H' : Hp) (u : V), Same H H' → OL H' u (lessRow l) → Q u H'
theorem sc_without_divisor : FnScope ["values", "divisor", "number"] ["values"] (defScope s_without_divisor) := ⟨rfl, rfl, rfl, by decide +kernel, rfl, by decide +kernel, by decide +kernel⟩
theorem ok_without_divisor {P : Program} {w : World} {K : PySem.W.Frag} {mg : Str → Option Value} {base : Heap} {f : Addr} {fd : FuncData} (F : Fun K "without_divisor" "without_divisor" s_without_divisor f fd) (O : Own mg) (C_common_divisor : Cal P w K mg base 2 "common_divisor" ["m", "n"] sp_common_divisor) :
    FnOk P w K mg base CX0 3 f fd ["values"] (sp_without_divisor K) := by
  refine F.ok sc_without_divisor (fun vs H Q E h => ?_) (fun cdv A outer s H vs Q E hr h => ?_)
  · obtain ⟨v, l, rfl, _⟩ := h
    rfl
  · obtain ⟨v, l, rfl, ⟨a, rfl, hc⟩, hl, hb, k⟩ := h
    refine ⟨_, (pss_cons (ps_set (i := 1) sc_without_divisor.nd rfl (by first | exact Or.inl rfl | exact Or.inr rfl) pe_int)
      (pss_cons (ps_for PassesOwn.never rfl (pi_reversed (by rfl) O.reversed_ (pa_cons (pv 0) pa_nil)) (pg_name (i := 2) sc_without_divisor.nd rfl (by first | exact Or.inl rfl | exact Or.inr rfl)) (pss_cons (ps_set (i := 1) sc_without_divisor.nd rfl (by first | exact Or.inl rfl | exact Or.inr rfl) (pe_cal C_common_divisor (hr.mono (by decide)) (by rfl) (pa_cons (pv 1) (pa_cons (pv 2) pa_nil))))
      (pss_one (ps_if (pt_cmpR op_eq (pv 1) pe_int (nomark _)) (pss_one (ps_ret (pe_callTy (call_list_ofK (K := K) rfl) (by rfl) O.list_ bt_list (pa_cons (pv 0) pa_nil)))) pss_nil))))
      (pss_cons (ps_if (pt_cmpR op_eq (pv 1) pe_int (nomark _)) (pss_one (ps_ret (pe_callTy (call_list_ofK (K := K) rfl) (by rfl) O.list_ bt_list (pa_cons (pv 0) pa_nil)))) pss_nil)
      (pss_one (ps_ret (pe_lc (own := [("number", 2)]) rfl sc_without_divisor.nd (pi_list (pv 0)) (show BlkOk ["values", "divisor", "number"] (defScope s_without_divisor) _ _ from ⟨rfl, by decide +kernel, by decide +kernel, by decide +kernel, by decide +kernel⟩) (fun _ _ _ _ _ => (pg_name (i := 2) sc_without_divisor.nd rfl (by first | exact Or.inl rfl | exact Or.inr rfl))) (fun _ _ _ _ _ => pts_nil) (fun _ _ _ _ _ => (pe_op op_fdivW (pv 2) (pv 1))))))))), ?_⟩
    refine ⟨_, rfl, a, _, rfl, hc, for_rev (K := K) (a := a) (xs := l.map V.int) (fun i σ H' => ∃ v2 : Option V, σ = [some (.ref a), some (.int (gcdRow (l.reverse.take i) : Nat)), v2] ∧ Same H H')
      ⟨none, rfl, Same.refl H⟩ (fun i σ H' _ h => ?_) ?_ ?_⟩
    · obtain ⟨_, _, s⟩ := h
      exact s.seq hc
    · rintro i x σ H' hx ⟨v2, rfl, s1⟩
      rw [← List.map_reverse, List.getElem?_map] at hx
      obtain ⟨z, hz, rfl⟩ := Option.map_eq_some_iff.mp hx
      have hzl : z ∈ l := by simpa using List.mem_of_getElem? hz
      have e : gcdRow (l.reverse.take (i + 1)) = Nat.gcd (gcdRow (l.reverse.take i)) z.natAbs := by
        unfold gcdRow
        rw [take_snoc' hz, List.foldl_append]
        rfl
      refine ⟨_, rfl, _, rfl, _, z, rfl, ?_, fun H2 s2 => ?_⟩
      · rcases hb.2 with h1 | h1
        · have h2 : i = 0 := by
            have := (List.getElem?_eq_some_iff.mp hz).1
            rw [List.length_reverse] at this
            lia
          subst h2
          exact .inl (by show (0 : Nat) < _; exact Nat.two_pow_pos _)
        · exact .inr (h1 z hzl)
      rw [Int.natAbs_natCast, ← e]
      refine ⟨_, rfl, rfl, _, rfl, ?_⟩
      refine ite2 (fun h1 => ?_) (fun h1 => ?_)
      · have h1' : ((gcdRow (l.reverse.take (i + 1)) : Nat) : Int) = 1 := int_eq h1
        refine ⟨_, rfl, a, _, rfl, .inl ((s1.trans s2).seq hc), fun p hp => k _ _ ((s1.trans s2).trans (same_upd hp)) ⟨p, rfl, ?_⟩⟩
        rw [upd_same, lessRow_one (gcdRow_one (i := i + 1) (by lia))]
      · exact ⟨some (.int z), rfl, s1.trans s2⟩
    · rintro σ H' ⟨v2, rfl, s1⟩
      have el : l.reverse.take (l.map V.int).length = l.reverse := List.take_of_length_le (by rw [List.length_map, List.length_reverse]; exact Nat.le_refl _)
      rw [el, gcdRow_rev]
      refine ⟨_, rfl, rfl, _, rfl, ?_⟩
      refine ite2 (fun h1 => ?_) (fun h1 => ?_)
      · have h1' : ((gcdRow l : Nat) : Int) = 0 := int_eq h1
        refine ⟨_, rfl, a, _, rfl, .inl (s1.seq hc), fun p hp => k _ _ (s1.trans (same_upd hp)) ⟨p, rfl, ?_⟩⟩
        rw [upd_same, lessRow_id (by lia)]
      · have h1' : ((gcdRow l : Nat) : Int) ≠ 0 := int_ne h1
        refine ⟨_, rfl, a, rfl, ⟨_, s1.seq hc⟩, fun D hD => ?_⟩
        refine lc_ints (K := K) (a := a) (ns := l) (fun _ => true) (fun z => V.int (z / ((gcdRow l : Nat) : Int))) (s1.seq hc) (small1000 hl) hD (fun z => rfl) (fun z hz H2 Rv R s2 hR => ?_) (fun H2 s2 e4 => ?_)
        · have hR' := hR H2 (Same.refl H2)
          rw [if_pos rfl] at hR'
          refine ⟨_, rfl, _, rfl, _, _, rfl, rfl, ⟨by lia, ?_⟩, hR'⟩
          rw [Int.natAbs_natCast]
          exact Nat.lt_of_lt_of_le (gcdRow_log hb.1 (by lia)) (by decide)
        · rw [filter_yes] at e4
          refine k _ _ (s1.trans s2) ⟨D, rfl, ?_⟩
          rw [e4]
          unfold lessRow
          rw [List.map_map]
          rfl
noncomputable def midRow (r G : List Int) (n f : Int) (i : Nat) : List Int :=
  (r.take (r.length - G.length)).map (fun (z : Int) => z * n) ++ (List.zipWith (fun (a b : Int) => a * n - f * b) ((r.drop (r.length - G.length)).take i) (G.take i) ++ ((r.drop (r.length - G.length)).drop i).map fun (z : Int) => z * n)
theorem midRow_zero (r G : List Int) (n f : Int) : midRow r G n f 0 = r.map fun (z : Int) => z * n := by
  unfold midRow
  rw [List.take_zero, List.zipWith_nil_left, List.drop_zero, List.nil_append, ← List.map_append, List.take_append_drop]
theorem midRow_end {r G : List Int} (h : G.length ≤ r.length) : midRow r G ((G.getLastD 0).natAbs : Int) (facI r G) G.length = iStep r G := by
  unfold midRow iStep
  have e : (r.drop (r.length - G.length)).length = G.length := by rw [List.length_drop]; lia
  rw [List.take_length, List.take_of_length_le (l := r.drop (r.length - G.length)) (by lia), List.drop_eq_nil_of_le (as := r.drop (r.length - G.length)) (by lia), List.map_nil, List.append_nil]
theorem midRow_length {r G : List Int} (n f : Int) {i : Nat} (h : G.length ≤ r.length) (hi : i ≤ G.length) : (midRow r G n f i).length = r.length := by
  have e : (r.drop (r.length - G.length)).length = G.length := by rw [List.length_drop]; exact Nat.sub_sub_self h
  unfold midRow
  rw [List.length_append, List.length_map, List.length_append, List.length_zipWith, List.length_map, List.length_take, List.length_take, List.length_take, e, List.length_drop, e, Nat.min_eq_left hi, Nat.min_self, Nat.add_sub_cancel' hi, Nat.min_eq_left (Nat.sub_le _ _), Nat.sub_add_cancel h]
theorem midRow_at {r G : List Int} (n f : Int) {i : Nat} (h : G.length ≤ r.length) (hi : i < G.length) : (midRow r G n f i)[r.length - G.length + i]? = some (r.getD (r.length - G.length + i) 0 * n) ∧
    (midRow r G n f i).set (r.length - G.length + i) (r.getD (r.length - G.length + i) 0 * n - f * G.getD i 0) = midRow r G n f (i + 1) := by
  have hlt : r.length - G.length + i < r.length := by lia
  have hd : i < (r.drop (r.length - G.length)).length := by rw [List.length_drop]; lia
  have e1 : ((r.take (r.length - G.length)).map (fun (z : Int) => z * n)).length = r.length - G.length := by rw [List.length_map, List.length_take]; lia
  have e2 : (List.zipWith (fun (a b : Int) => a * n - f * b) ((r.drop (r.length - G.length)).take i) (G.take i)).length = i := by
    rw [List.length_zipWith, List.length_take, List.length_take]
    lia
  have e3 : (r.drop (r.length - G.length)).drop i = r.getD (r.length - G.length + i) 0 :: (r.drop (r.length - G.length)).drop (i + 1) := by
    rw [List.drop_eq_getElem_cons hd]
    congr 1
    rw [List.getElem_drop, List.getD_eq_getElem?_getD, List.getElem?_eq_getElem hlt]
    rfl
  have e4 : (r.drop (r.length - G.length)).take (i + 1) = (r.drop (r.length - G.length)).take i ++ [r.getD (r.length - G.length + i) 0] := by
    refine take_snoc' ?_
    rw [List.getElem?_drop, List.getElem?_eq_getElem hlt, List.getD_eq_getElem?_getD, List.getElem?_eq_getElem hlt]
    rfl
  have e5 : G.take (i + 1) = G.take i ++ [G.getD i 0] := by
    refine take_snoc' ?_
    rw [List.getElem?_eq_getElem hi, List.getD_eq_getElem?_getD, List.getElem?_eq_getElem hi]
    rfl
  unfold midRow
  constructor
  · rw [List.getElem?_append_right (by lia), e1, List.getElem?_append_right (by lia), e2, e3, show r.length - G.length + i - (r.length - G.length) - i = 0 by lia]
    rfl
  · rw [List.set_append_right _ _ (by lia), e1, List.set_append_right _ _ (by lia), e2, e3, show r.length - G.length + i - (r.length - G.length) - i = 0 by lia, e4, e5, List.zipWith_append (by rw [List.length_take, List.length_take]; lia)]
    simp
theorem mem_zipW {α β γ : Type} {f : α → β → γ} {z : γ} : ∀ {l : List α} {m : List β}, z ∈ List.zipWith f l m → ∃ x ∈ l, ∃ y ∈ m, z = f x y
  | [], _, h => by simp at h
  | _ :: _, [], h => by simp at h
  | a :: l, b :: m, h => by
    rw [List.zipWith_cons_cons] at h
    rcases List.mem_cons.mp h with h | h
    · exact ⟨a, by simp, b, by simp, h⟩
    · obtain ⟨x, hx, y, hy, e⟩ := mem_zipW h
      exact ⟨x, by simp [hx], y, by simp [hy], e⟩
theorem iStep_few {r G : List Int} {a b : Nat} (hr : ∀ z ∈ r, z.natAbs < 2 ^ a) (hG : ∀ z ∈ G, z.natAbs < 2 ^ b) (hg : (G.getLastD 0).natAbs < 2 ^ b) (hf : (facI r G).natAbs < 2 ^ a) : ∀ z ∈ iStep r G, z.natAbs < 2 ^ (a + (b + 1)) := by
  have pm : ∀ x y : Int, x.natAbs < 2 ^ a → y.natAbs < 2 ^ b → (x * y).natAbs < 2 ^ a * 2 ^ b := fun x y hx hy => by
    rw [Int.natAbs_mul]
    exact Nat.mul_lt_mul_of_lt_of_lt hx hy
  have ep : 2 ^ (a + (b + 1)) = 2 ^ a * 2 ^ b + 2 ^ a * 2 ^ b := by
    rw [← Nat.add_assoc, Nat.pow_succ, Nat.pow_add]
    omega
  have hg' : ((((G.getLastD 0).natAbs : Nat) : Int)).natAbs < 2 ^ b := by
    rw [Int.natAbs_natCast]; exact hg
  intro z hz
  rw [ep]
  unfold iStep at hz
  rcases List.mem_append.mp hz with hz | hz
  · obtain ⟨y, hy, rfl⟩ := List.mem_map.mp hz
    have := pm y _ (hr y (List.mem_of_mem_take hy)) hg'
    omega
  · obtain ⟨x, hx, y, hy, rfl⟩ := mem_zipW hz
    have h1 := pm x _ (hr x (List.mem_of_mem_drop hx)) hg'
    have h2 := pm (facI r G) y hf (hG y hy)
    omega
theorem trimI_mem {z : Int} {P : List Int} (h : z ∈ trimI P) : z ∈ P := by
  unfold trimI at h
  rw [List.mem_reverse] at h
  exact List.mem_reverse.mp ((List.dropWhile_sublist _).mem h)
theorem lessRow_few {P : List Int} {n : Nat} (h : ∀ z ∈ P, z.natAbs < 2 ^ n) : ∀ z ∈ lessRow P, z.natAbs < 2 ^ n := by
  intro z hz
  unfold lessRow at hz
  obtain ⟨y, hy, rfl⟩ := List.mem_map.mp hz
  refine Nat.lt_of_le_of_lt ?_ (h y hy)
  have := Int.natAbs_ediv_le_natAbs y (gcdRow P : Int)
  exact this
theorem last_mem {G : List Int} (h : G ≠ []) : G.getLastD 0 ∈ G := by
  obtain ⟨m, z, rfl⟩ := snoc_of h
  simp
noncomputable def sp_scaled_remainder (K : PySem.W.Frag) : Sp := fun vs H Q _ => ∃ (v u : V) (F G : List Int) (a b : Nat), vs = [v, u] ∧ IL K H v F ∧ IL K H u G ∧ G ≠ [] ∧ G.getLastD 0 ≠ 0 ∧ TrI F ∧ F.length ≤ 8 ∧ G.length ≤ 8 ∧
  (∀ z ∈ F, z.natAbs < 2 ^ a) ∧ (∀ z ∈ G, z.natAbs < 2 ^ b) ∧ a + 8 * (b + 1) ≤ 8000 ∧ (G.length ≤ 2 ∨ a + 8 * (b + 1) ≤ 2000) ∧
  ∀ (H' : Hp) (y : V) (R : List Int), Same H H' → OL H' y R → (∀ α β : Rat, 0 < α → 0 < β → ∃ γ : Rat, 0 < γ ∧ Root.leftOf 8 (sc α F) (sc β G) = sc γ R) → (∀ z ∈ R, z.natAbs < 2 ^ (a + 8 * (b + 1))) → Q y H'
structure RestInv (F G : List Int) (a b : Nat) (r : List Int) (n : Nat) : Prop where
  n8 : n ≤ 8
  len : r.length < n + G.length
  few : r.length ≤ 8
  tr : TrI r
  bits : ∀ z ∈ r, z.natAbs < 2 ^ (a + (8 - n) * (b + 1))
  eq : ∀ α β : Rat, 0 < α → 0 < β → ∃ γ : Rat, 0 < γ ∧ Root.leftOf 8 (sc α F) (sc β G) = Root.leftOf n (sc γ r) (sc β G)
theorem facI_few {r G : List Int} {n : Nat} (hr : ∀ z ∈ r, z.natAbs < 2 ^ n) (h : r ≠ []) : (facI r G).natAbs < 2 ^ n := by
  have := hr _ (last_mem h)
  unfold facI
  split
  · exact this
  · rw [Int.natAbs_neg]; exact this
theorem RestInv.next {F G : List Int} {a b : Nat} {r : List Int} {n : Nat} (h : RestInv F G a b r n) (hG : G ≠ []) (hg : G.getLastD 0 ≠ 0) (hl : G.length ≤ r.length) (hb : ∀ z ∈ G, z.natAbs < 2 ^ b) : RestInv F G a b (trimI (iStep r G)) (n - 1) ∧ (trimI (iStep r G)).length < r.length := by
  have hs := iStep_shorter hG hg hl
  have h1 := h.len
  have h2 := h.n8
  have h3 := h.few
  have hr : r ≠ [] := by
    rintro rfl
    cases G with
    | nil => exact hG rfl
    | cons _ _ => simp at hl
  refine ⟨⟨by lia, by lia, by lia, trI_trimI _, fun z hz => ?_, fun α β ha hb' => ?_⟩, hs⟩
  · have := iStep_few h.bits hb (hb _ (last_mem hG)) (facI_few h.bits hr) z (trimI_mem hz)
    rw [show a + (8 - n) * (b + 1) + (b + 1) = a + (8 - (n - 1)) * (b + 1) by rw [show 8 - (n - 1) = (8 - n) + 1 by lia, Nat.add_mul]; lia] at this
    exact this
  · obtain ⟨γ, hc, e⟩ := h.eq α β ha hb'
    obtain ⟨m, rfl⟩ : ∃ m, n = m + 1 := ⟨n - 1, by lia⟩
    obtain ⟨δ, hd, e2⟩ := leftOf_sc hc hb' hG hg hl m
    exact ⟨δ, hd, by rw [e, e2]; rfl⟩
theorem sc_scaled_remainder : FnScope ["f", "g", "rest", "shift", "factor", "number", "k"] ["f", "g"] (defScope s_scaled_remainder) := ⟨rfl, rfl, rfl, by decide +kernel, rfl, by decide +kernel, by decide +kernel⟩
theorem ok_scaled_remainder {P : Program} {w : World} {K : PySem.W.Frag} {mg : Str → Option Value} {base : Heap} {f : Addr} {fd : FuncData} (F : Fun K "scaled_remainder" "scaled_remainder" s_scaled_remainder f fd) (O : Own mg) (C_without_end_zeros : Cal P w K mg base 1 "without_end_zeros" ["values"] (sp_without_end_zeros K)) (C_without_divisor : Cal P w K mg base 3 "without_divisor" ["values"] (sp_without_divisor K)) :
    FnOk P w K mg base CX0 4 f fd ["f", "g"] (sp_scaled_remainder K) := by
  refine F.ok sc_scaled_remainder (fun vs H Q E h => ?_) (fun cdv A outer s H vs Q E hr h => ?_)
  · obtain ⟨v, u, F, G, a, b, rfl, _⟩ := h
    rfl
  · obtain ⟨v, u, F, G, a, b, rfl, ⟨fa, rfl, hF⟩, ⟨ga, rfl, hG⟩, hne, hg0, htr, hl1, hl2, hb1, hb2, hbits, hfew2, k⟩ := h
    refine ⟨_, (pss_cons (ps_set (i := 2) sc_scaled_remainder.nd rfl (by first | exact Or.inl rfl | exact Or.inr rfl) (pe_callTy (call_list_ofK (K := K) rfl) (by rfl) O.list_ bt_list (pa_cons (pv 0) pa_nil)))
      (pss_cons (ps_while PassesOwn.never (pt_cmpR op_ge (pe_callB (call_lenK (K := K) rfl) (by rfl) O.len_ bt_len (pa_cons (pv 2) pa_nil)) (pe_callB (call_lenK (K := K) rfl) (by rfl) O.len_ bt_len (pa_cons (pv 1) pa_nil)) (nomark _)) (pss_cons (ps_set (i := 3) sc_scaled_remainder.nd rfl (by first | exact Or.inl rfl | exact Or.inr rfl) (pe_op op_sub (pe_callB (call_lenK (K := K) rfl) (by rfl) O.len_ bt_len (pa_cons (pv 2) pa_nil)) (pe_callB (call_lenK (K := K) rfl) (by rfl) O.len_ bt_len (pa_cons (pv 1) pa_nil))))
      (pss_cons (ps_set (i := 4) sc_scaled_remainder.nd rfl (by first | exact Or.inl rfl | exact Or.inr rfl) (pe_ifExp (pt_cmpR op_gt (pe_ix (ix_listK (K := K) rfl) (pv 1) (pe_un un_neg pe_int) (fun _ _ => rfl)) pe_int (nomark _)) (pe_ix (ix_listK (K := K) rfl) (pv 2) (pe_un un_neg pe_int) (fun _ _ => rfl)) (pe_un un_neg (pe_ix (ix_listK (K := K) rfl) (pv 2) (pe_un un_neg pe_int) (fun _ _ => rfl)))))
      (pss_cons (ps_setLc (i := 2) (own := [("number", 5)]) rfl sc_scaled_remainder.nd rfl rfl rfl (pi_list (pv 2)) (show BlkOk ["f", "g", "rest", "shift", "factor", "number", "k"] (defScope s_scaled_remainder) _ _ from ⟨rfl, by decide +kernel, by decide +kernel, by decide +kernel, by decide +kernel⟩) (fun _ _ _ _ _ => (pg_name (i := 5) sc_scaled_remainder.nd rfl (by first | exact Or.inl rfl | exact Or.inr rfl))) (fun _ _ _ _ _ => pts_nil) (fun _ _ _ _ _ => (pe_op op_mulW (pv 5) (pe_callB call_abs (by rfl) O.abs_ bt_abs (pa_cons (pe_ix (ix_listK (K := K) rfl) (pv 1) (pe_un un_neg pe_int) (fun _ _ => rfl)) pa_nil)))))
      (pss_cons (ps_for PassesOwn.never rfl (pi_range1 (by rfl) O.range_ (pa_cons (pe_callB (call_lenK (K := K) rfl) (by rfl) O.len_ bt_len (pa_cons (pv 1) pa_nil)) pa_nil)) (pg_name (i := 6) sc_scaled_remainder.nd rfl (by first | exact Or.inl rfl | exact Or.inr rfl)) (pss_one (ps_augS (pv 2) (pe_op op_add (pv 3) (pv 6)) (get_listK (K := K) rfl) (pe_op op_mulW (pv 4) (pe_ix (ix_listK (K := K) rfl) (pv 1) (pv 6) (fun _ _ => rfl))) ip_sub set_list)))
      (pss_one (ps_set (i := 2) sc_scaled_remainder.nd rfl (by first | exact Or.inl rfl | exact Or.inr rfl) (pe_cal C_without_end_zeros (hr.mono (by decide)) (by rfl) (pa_cons (pv 2) pa_nil)))))))))
      (pss_one (ps_ret (pe_cal C_without_divisor (hr.mono (by decide)) (by rfl) (pa_cons (pv 2) pa_nil)))))), ?_⟩
    have hgl : 1 ≤ G.length := by
      cases G with
      | nil => exact absurd rfl hne
      | cons _ _ => simp
    refine ⟨_, rfl, fa, _, rfl, .inl hF, fun p0 hp0 => ?_⟩
    refine while_by (fun σ H' => ∃ (p : Addr) (r : List Int) (n : Nat) (v3 v4 v5 v6 : Option V), σ = [some (.ref fa), some (.ref ga), some (.ref p), v3, v4, v5, v6] ∧ H' p = some (.lst (r.map V.int)) ∧ RestInv F G a b r n ∧ Same H H')
      (fun σ H' => match σ with | [_, _, some (.ref p), _, _, _, _] => (match H' p with | some (.lst xs) => xs.length | _ => 0) | _ => 0)
      ⟨p0, F, 8, none, none, none, none, rfl, upd_same, ⟨Nat.le_refl _, by lia, hl1, htr, fun z hz => by rw [Nat.sub_self, Nat.zero_mul, Nat.add_zero]; exact hb1 z hz, fun α β ha hb => ⟨α, ha, rfl⟩⟩, same_upd hp0⟩ ?_ ?_
    · rintro σ H1 ⟨p, r, n, v3, v4, v5, v6, rfl, hp, hI, s1⟩
      refine ⟨_, rfl, p, _, rfl, .inl (SqL.of hp), _, rfl, ga, _, rfl, .inl (s1.seq hG), _, _, rfl, rfl, _, rfl, ?_⟩
      rw [List.length_map, List.length_map]
      refine ite2 (fun hc => ?_) (fun hc => ?_)
      · have hle : G.length ≤ r.length := by
          have := of_decide_eq_true hc
          lia
        have hrn : r ≠ [] := ne_of_len (by lia)
        refine ⟨_, rfl, p, _, rfl, .inl (SqL.of hp), _, rfl, ga, _, rfl, .inl (s1.seq hG), _, _, rfl, rfl, ?_⟩
        rw [List.length_map, List.length_map]
        dsimp only [gName]
        refine asg_if (x := .int (facI r G)) (fun R hR => ?_) ?_
        · refine ⟨_, rfl, _, rfl, ga, _, _, _, rfl, rfl, s1.seq hG, at_last hne, _, _, rfl, rfl, _, rfl, ?_⟩
          unfold facI at hR
          refine ite2 (fun hb => ?_) (fun hb => ?_)
          · rw [if_pos (of_decide_eq_true hb)] at hR
            exact ⟨_, rfl, _, rfl, p, _, _, _, rfl, rfl, SqL.of hp, at_last hrn, hR⟩
          · rw [if_neg (fun z => hb (decide_eq_true z))] at hR
            exact ⟨_, rfl, _, rfl, p, _, _, _, rfl, rfl, SqL.of hp, at_last hrn, _, rfl, hR⟩
        have hbr := hI.bits
        have hn8 := hI.n8
        have hbb : a + (8 - n) * (b + 1) ≤ 8000 := Nat.le_trans (Nat.add_le_add_left (Nat.mul_le_mul_right _ (Nat.sub_le _ _)) _) hbits
        have hbG : b ≤ 8000 := by lia
        have hgb : (G.getLastD 0).natAbs < 2 ^ b := hb2 _ (last_mem hne)
        have hfb := facI_few (G := G) hbr hrn
        refine ⟨_, rfl, p, rfl, ⟨_, SqL.of hp⟩, fun D hD => ?_⟩
        refine lc_ints (K := K) (a := p) (ns := r) (fun _ => true) (fun z => V.int (z * (if G.getLastD 0 < 0 then -G.getLastD 0 else G.getLastD 0))) (SqL.of hp) (small1000 (by have := hI.few; lia)) hD (fun z => rfl) (fun z hz H2 Rv R s2 hR => ?_) (fun H2 s2 e4 => ?_)
        · have hR' := hR H2 (Same.refl H2)
          rw [if_pos rfl] at hR'
          refine ⟨_, rfl, _, rfl, _, rfl, ga, _, _, _, rfl, rfl, (s1.trans s2).seq hG, at_last hne, _, rfl, _, _, rfl, rfl, ?_, hR'⟩
          refine mul_few (hbr z hz) (n := b) ?_ hbb hbG
          rw [abs_is, Int.natAbs_natCast]
          exact hgb
        · rw [filter_yes] at e4
          have e5 : H2 D = some (.lst ((midRow r G ((G.getLastD 0).natAbs : Int) (facI r G) 0).map V.int)) := by
            rw [e4, midRow_zero, abs_is, List.map_map]
            rfl
          have hnG : (((G.map V.int).length : Nat) : Int).toNat = G.length := by rw [List.length_map]; lia
          refine ⟨_, rfl, ga, _, rfl, .inl ((s1.trans s2).seq hG), _, rfl, by lia, by rw [List.length_map]; lia, ?_⟩
          refine for_range (lo := 0) (n := (((G.map V.int).length : Nat) : Int).toNat) (fun i σ H' => ∃ v6 : Option V, σ = [some (.ref fa), some (.ref ga), some (.ref D), some (.int ((r.length : Int) - (G.length : Int))), some (.int (facI r G)), v5, v6] ∧ H' D = some (.lst ((midRow r G ((G.getLastD 0).natAbs : Int) (facI r G) i).map V.int)) ∧ Same H1 H')
            ⟨v6, ?_, e5, s2⟩ ?_ ?_
          · rfl
          · rintro i σ H3 hi ⟨w6, rfl, e6, s3⟩
            rw [hnG] at hi
            obtain ⟨m1, m2⟩ := midRow_at ((G.getLastD 0).natAbs : Int) (facI r G) hle hi
            have hml := midRow_length (r := r) (G := G) ((G.getLastD 0).natAbs : Int) (facI r G) hle (Nat.le_of_lt hi)
            have hix : (r.length : Int) - (G.length : Int) + (0 + (i : Int)) = ((r.length - G.length + i : Nat) : Int) := by lia
            refine ⟨_, rfl, _, rfl, _, rfl, _, _, rfl, rfl, D, _, _, _, rfl, rfl, SqL.of e6, at_ix hix (by rw [List.getElem?_map, m1]; rfl), _, rfl, _, rfl, _, rfl, ga, _, _, _, rfl, rfl, (s1.trans s3).seq hG, good_atI (by lia) (by lia), _, _, rfl, rfl, ?_, _, _, rfl, rfl, D, _, _, _, rfl, rfl, e6, ix_nat hix (by rw [List.length_map, hml]; lia), ?_⟩
            · refine mul_few hfb (n := b) (hb2 _ ?_) hbb hbG
              rw [List.getD_eq_getElem?_getD, List.getElem?_eq_getElem (by lia)]
              exact List.getElem_mem _
            · refine ⟨_, rfl, ?_, same_upd2 s3 hD⟩
              rw [upd_same, ← m2, show (0 + (i : Int)).toNat = i by lia, ← List.map_set]
          · rintro σ H3 ⟨w6, rfl, e6, s3⟩
            rw [hnG, midRow_end hle] at e6
            have s13 := s1.trans s3
            obtain ⟨nx, hlt⟩ := hI.next hne hg0 hle hb2
            refine ⟨_, rfl, _, iStep r G, rfl, ⟨D, rfl, SqL.of e6⟩, ?_, fun H4 u s4 hu => ?_⟩
            · have := midRow_length (r := r) (G := G) ((G.getLastD 0).natAbs : Int) (facI r G) hle (Nat.le_refl _)
              rw [midRow_end hle] at this
              have := hI.few
              lia
            · obtain ⟨q, rfl, hq⟩ := hu
              refine ⟨⟨q, _, _, _, _, _, _, rfl, hq, nx, s13.trans s4⟩, ?_⟩
              show (match H4 q with | some (HO.lst xs) => xs.length | _ => 0) < (match H1 p with | some (HO.lst xs) => xs.length | _ => 0)
              rw [hq, hp]
              show (List.map V.int _).length < (List.map V.int _).length
              rw [List.length_map, List.length_map]
              exact hlt
      · have hlt : r.length < G.length := by
          false_or_by_contra
          rename_i z
          exact hc (decide_eq_true (by lia))
        have hn8 := hI.n8
        have hbb : a + (8 - n) * (b + 1) ≤ a + 8 * (b + 1) := Nat.add_le_add_left (Nat.mul_le_mul_right _ (Nat.sub_le _ _)) _
        have hb' : ∀ z ∈ r, z.natAbs < 2 ^ (a + 8 * (b + 1)) := fun z hz => Nat.lt_of_lt_of_le (hI.bits z hz) (Nat.pow_le_pow_right (by decide) hbb)
        refine ⟨_, rfl, _, r, rfl, ⟨p, rfl, SqL.of hp⟩, by have := hI.few; lia, ⟨fun z hz => Nat.lt_of_lt_of_le (hb' z hz) (Nat.pow_le_pow_right (by decide) hbits), hfew2.imp (fun h => by lia) (fun h z hz => Nat.lt_of_lt_of_le (hb' z hz) (Nat.pow_le_pow_right (by decide) h))⟩, fun H4 y s4 hy => ?_⟩
        refine k H4 y (lessRow r) (s1.trans s4) hy (fun α β ha hb => ?_) (lessRow_few hb')
        obtain ⟨γ, hc1, e⟩ := hI.eq α β ha hb
        obtain ⟨δ, hd, e2⟩ := lessRow_sc hc1 hI.tr
        refine ⟨δ, hd, ?_⟩
        rw [e, leftOf_short (by rw [sc_length, sc_length]; exact hlt), e2]
    · show Mono _
      (repeat first | exact MonoE.var | exact MonoE.c | exact MonoR.i0 | exact MonoR.i | exact MonoR.eq | exact MonoR.ne | exact MonoR.ix | exact MonoL.len | exact MonoA.nil | apply Mono.test | apply Mono.and | apply MonoE.cb | apply MonoE.op | apply MonoA.cons | apply MonoE.bits | apply MonoE.un)
theorem atI_two {α : Type} (xs : List α) (u v : α) : atI (xs ++ [u, v]) (-2) = some u := by
  unfold atI ixN
  have e : (xs ++ [u, v]).length = xs.length + 2 := by rw [List.length_append]; rfl
  rw [e, if_neg (by decide), if_pos (by lia)]
  show (xs ++ [u, v])[((-2 : Int) + ((xs.length + 2 : Nat) : Int)).toNat]? = some u
  rw [show ((-2 : Int) + ((xs.length + 2 : Nat) : Int)).toNat = xs.length by lia, List.getElem?_append_right (Nat.le_refl _), Nat.sub_self]
  rfl
theorem atI_one {α : Type} (xs : List α) (u v : α) : atI (xs ++ [u, v]) (-1) = some v := by
  have := atI_last (xs ++ [u]) v
  rw [List.append_assoc] at this
  exact this
noncomputable abbrev Ent := Addr × List Int
noncomputable def sp_sturm_chain (K : PySem.W.Frag) : Sp := fun vs H Q _ => ∃ (v : V) (c : List Int), vs = [v] ∧ IL K H v (c ++ [1]) ∧ refusal c = 0 ∧
  ∀ (H' : Hp) (p : Addr) (L : List Ent), Same H H' → H' p = some (.lst (L.map fun (e : Ent) => V.ref e.1)) → (∀ e ∈ L, SqL K H' e.1 (e.2.map V.int)) → RelAll (Root.rowOf c) (L.map (·.2)) → L.length ≤ 8 → (∀ e ∈ L, e.2.length ≤ 8 ∧ FewI 8000 e.2) → (L.map (·.2)).head? = some (c ++ [1]) → Q (.ref p) H'
noncomputable def EntOk (H' : Hp) (fa p : Addr) (c : List Int) (e : Ent) : Prop := (e = (fa, c ++ [1]) ∨ (H' e.1 = some (.lst (e.2.map V.int)) ∧ e.1 ≠ p)) ∧ e.2.length ≤ 8 ∧ FewI 8000 e.2
theorem EntOk.seq {K : PySem.W.Frag} {H H' : Hp} {fa p : Addr} {c : List Int} {e : Ent} (h : EntOk H' fa p c e) (hf : SqL K H fa ((c ++ [1]).map V.int)) (s : Same H H') : SqL K H' e.1 (e.2.map V.int) := by
  rcases h.1 with rfl | ⟨h, _⟩
  · exact s.seq hf
  · exact SqL.of h
theorem EntOk.same {H' H'' : Hp} {fa p : Addr} {c : List Int} {e : Ent} (h : EntOk H' fa p c e) (s : Same H' H'') : EntOk H'' fa p c e := by
  refine ⟨?_, h.2⟩
  rcases h.1 with z | ⟨z, n⟩
  · exact .inl z
  · exact .inr ⟨s _ _ z, n⟩
theorem EntOk.put {H' : Hp} {fa p : Addr} {c : List Int} {e : Ent} {o : HO} (h : EntOk H' fa p c e) : EntOk (upd H' p o) fa p c e := by
  refine ⟨?_, h.2⟩
  rcases h.1 with z | ⟨z, n⟩
  · exact .inl z
  · exact .inr ⟨by rw [upd_ne n]; exact z, n⟩
theorem sc_sturm_chain : FnScope ["f", "chain", "rest", "number"] ["f"] (defScope s_sturm_chain) := ⟨rfl, rfl, rfl, by decide +kernel, rfl, by decide +kernel, by decide +kernel⟩
theorem ok_sturm_chain {P : Program} {w : World} {K : PySem.W.Frag} {mg : Str → Option Value} {base : Heap} {f : Addr} {fd : FuncData} (F : Fun K "sturm_chain" "sturm_chain" s_sturm_chain f fd) (O : Own mg) (C_derivative_of : Cal P w K mg base 1 "derivative_of" ["f"] (sp_derivative_of K)) (C_scaled_remainder : Cal P w K mg base 4 "scaled_remainder" ["f", "g"] (sp_scaled_remainder K)) :
    FnOk P w K mg base CX0 5 f fd ["f"] (sp_sturm_chain K) := by
  refine F.ok sc_sturm_chain (fun vs H Q E h => ?_) (fun cdv A outer s H vs Q E hr h => ?_)
  · obtain ⟨v, c, rfl, _⟩ := h
    rfl
  · obtain ⟨v, c, rfl, ⟨fa, rfl, hF⟩, hf, k⟩ := h
    obtain ⟨c1, c2, c3⟩ := ok_field hf
    have hlen : (c ++ [1]).length = c.length + 1 := by rw [List.length_append]; rfl
    refine ⟨_, (pss_cons (ps_set (i := 1) sc_sturm_chain.nd rfl (by first | exact Or.inl rfl | exact Or.inr rfl) (pe_lst (pa_cons (pv 0) (pa_cons (pe_cal C_derivative_of (hr.mono (by decide)) (by rfl) (pa_cons (pv 0) pa_nil)) pa_nil))))
      (pss_cons (ps_while PassesOwn.never (pt_cmpR op_gt (pe_callB (call_lenK (K := K) rfl) (by rfl) O.len_ bt_len (pa_cons (pe_ix (ix_listK (K := K) rfl) (pv 1) (pe_un un_neg pe_int) (fun _ _ => rfl)) pa_nil)) pe_int (nomark _)) (pss_cons (ps_set (i := 2) sc_sturm_chain.nd rfl (by first | exact Or.inl rfl | exact Or.inr rfl) (pe_cal C_scaled_remainder (hr.mono (by decide)) (by rfl) (pa_cons (pe_ix (ix_listK (K := K) rfl) (pv 1) (pe_un un_neg pe_int) (fun _ _ => rfl)) (pa_cons (pe_ix (ix_listK (K := K) rfl) (pv 1) (pe_un un_neg pe_int) (fun _ _ => rfl)) pa_nil))))
      (pss_one (ps_expr (pe_bm PySem.F.plainAttrs_list PySem.F.slot_list_append PySem.F.type_list_append mt_append (pv 1) (pa_cons (pe_lc (own := [("number", 3)]) rfl sc_sturm_chain.nd (pi_list (pv 2)) (show BlkOk ["f", "chain", "rest", "number"] (defScope s_sturm_chain) _ _ from ⟨rfl, by decide +kernel, by decide +kernel, by decide +kernel, by decide +kernel⟩) (fun _ _ _ _ _ => (pg_name (i := 3) sc_sturm_chain.nd rfl (by first | exact Or.inl rfl | exact Or.inr rfl))) (fun _ _ _ _ _ => pts_nil) (fun _ _ _ _ _ => (pe_un un_neg (pv 3)))) pa_nil))))))
      (pss_one (ps_ret (pv 1))))), ?_⟩
    refine ⟨_, rfl, _, rfl, _, c ++ [1], rfl, ⟨fa, rfl, hF⟩, by lia, by lia, fun H1 u s1 hu => ?_⟩
    obtain ⟨da, rfl, hd⟩ := hu
    refine ⟨(by show 2 ≤ sizeLine; decide), fun p hp => ?_⟩
    have s2 : Same H1 (upd H1 p (.lst [V.ref fa, V.ref da])) := same_upd hp
    have hdp : da ≠ p := ne_of_none hd hp
    refine while_by (fun σ H' => ∃ (pre : List Ent) (x y : Ent) (v2 v3 : Option V), σ = [some (.ref fa), some (.ref p), v2, v3] ∧ H' p = some (.lst ((pre ++ [x, y]).map fun (e : Ent) => V.ref e.1)) ∧ (∀ e ∈ pre ++ [x, y], EntOk H' fa p c e) ∧ MInv c (pre.map (·.2)) x.2 y.2 ∧ ((pre ++ [x, y]).map (·.2)).head? = some (c ++ [1]) ∧ Same H H')
      (fun σ H' => match H' p with | some (.lst xs) => 20 - xs.length | _ => 0)
      ⟨[], (fa, c ++ [1]), (da, derI (c ++ [1])), none, none, rfl, upd_same, fun e he => ?_, minv_start hf, rfl, s1.trans s2⟩ ?_ ?_
    · have he' : e = (fa, c ++ [1]) ∨ e = (da, derI (c ++ [1])) := by simpa using he
      rcases he' with rfl | rfl
      · exact ⟨.inl rfl, by show (c ++ [1]).length ≤ 8; lia, fun z hz => lt_up ((minv_start hf).bp z hz) (by decide)⟩
      · refine ⟨.inr ⟨s2 _ _ hd, hdp⟩, ?_, fun z hz => lt_up ((minv_start hf).bq z hz) (by decide)⟩
        show (derI (c ++ [1])).length ≤ 8
        rw [derI_length]
        lia
    · rintro σ H3 ⟨pre, x, y, v2, v3, rfl, hpl, hen, hI, hhd, s3⟩
      obtain ⟨f1, f2, f3, f4, f5⟩ := hI.facts
      have hlp : (pre.map (·.2)).length = pre.length := List.length_map _
      have hil := hI.len
      rw [hlp] at hil
      have ey := (hen y (by simp)).seq hF s3
      have ex := (hen x (by simp)).seq hF s3
      have hpl' : H3 p = some (.lst (pre.map (fun (e : Ent) => V.ref e.1) ++ [V.ref x.1, V.ref y.1])) := by
        rw [hpl, List.map_append]
        rfl
      refine ⟨_, rfl, _, rfl, p, _, _, _, rfl, rfl, SqL.of hpl', atI_one _ _ _, y.1, _, rfl, .inl ey, _, _, rfl, rfl, _, rfl, ?_⟩
      rw [List.length_map]
      refine ite2 (fun hb => ?_) (fun hb => ?_)
      · have hb' : 1 < y.2.length := by
          have := of_decide_eq_true hb
          lia
        refine ⟨_, rfl, _, rfl, p, _, _, _, rfl, rfl, SqL.of hpl', atI_two _ _ _, _, rfl, _, rfl, p, _, _, _, rfl, rfl, SqL.of hpl', atI_one _ _ _, ?_⟩
        have hbp := hI.bp
        have hbq := hI.bq
        rw [hlp] at hbp hbq
        refine ⟨_, _, x.2, y.2, ba pre.length, ba (pre.length + 1), rfl, ⟨x.1, rfl, ex⟩, ⟨y.1, rfl, ey⟩, f1, f2, f3, f4, f5, hbp, hbq, ?_, ?_, fun H4 u R s4 hu hR hRb => ?_⟩
        · rw [ba_next (by lia)]
          exact ba_few _
        · have : pre.length = 0 ∨ pre.length = 1 ∨ pre.length = 2 := by lia
          rcases this with e | e | e
          · rw [e]
            exact .inr (by decide)
          · rw [e]
            exact .inr (by decide)
          · exact .inl (by lia)
        obtain ⟨ra, rfl, hra⟩ := hu
        have nx := hI.next (R := R) (by lia) hR (by rw [hlp]; exact hRb)
        have hpl4 := s4 _ _ hpl'
        refine ⟨_, rfl, .inl ⟨rfl, _, SqL.of hpl4⟩, ?_⟩
        have hRl : R.length ≤ 8 := by
          have := nx.facts.2.2.2.2
          unfold negI at this
          rw [List.length_map] at this
          exact this
        refine ⟨_, rfl, ra, rfl, ⟨_, SqL.of hra⟩, fun D hD => ?_⟩
        refine lc_ints (K := K) (a := ra) (ns := R) (fun _ => true) (fun z => V.int (-z)) (SqL.of hra) (small1000 (by lia)) hD (fun z => rfl) (fun z hz H5 Rv R' s5 hR' => ?_) (fun H5 s5 e5 => ?_)
        · have hR2 := hR' H5 (Same.refl H5)
          rw [if_pos rfl] at hR2
          exact ⟨_, rfl, _, rfl, hR2⟩
        · rw [filter_yes] at e5
          have e6 : H5 D = some (.lst ((negI R).map V.int)) := by
            rw [e5]
            unfold negI
            rw [List.map_map]
            rfl
          have hpl5 := s5 _ _ hpl4
          have hDp : D ≠ p := fun z => by
            rw [z, hpl4] at hD
            cases hD
          refine ⟨p, _, _, rfl, rfl, hpl5, ?_, ?_⟩
          · rw [List.length_append, List.length_map]
            exact Nat.lt_of_le_of_lt (show pre.length + 2 ≤ 1000 by lia) (by decide)
          refine ⟨⟨pre ++ [x], y, (D, negI R), _, _, rfl, ?_, fun e he => ?_, ?_, ?_, same_upd2 (s3.trans (s4.trans s5)) (s1.free hp)⟩, ?_⟩
          · rw [upd_same]
            simp
          · have he' : e ∈ pre ++ [x, y] ∨ e = (D, negI R) := by
              rcases List.mem_append.mp he with he | he
              · rcases List.mem_append.mp he with he | he
                · exact .inl (List.mem_append.mpr (.inl he))
                · have : e = x := by simpa using he
                  exact .inl (by rw [this]; simp)
              · have : e = y ∨ e = (D, negI R) := by simpa using he
                rcases this with rfl | rfl
                · exact .inl (by simp)
                · exact .inr rfl
            rcases he' with he | rfl
            · exact ((hen e he).same (s4.trans s5)).put
            · exact ⟨.inr ⟨by rw [upd_ne hDp]; exact e6, hDp⟩, by show (negI R).length ≤ 8; exact nx.facts.2.2.2.2, fun z hz => lt_up (nx.bq z hz) (ba_few _)⟩
          · rw [List.map_append]
            exact nx
          · cases pre with
            | nil => exact hhd
            | cons e0 pre => exact hhd
          · show (match (upd H5 p _) p with | some (HO.lst xs) => 20 - xs.length | _ => 0) < (match H3 p with | some (HO.lst xs) => 20 - xs.length | _ => 0)
            rw [upd_same, hpl']
            show 20 - (List.map (fun (e : Ent) => V.ref e.1) pre ++ [V.ref x.1, V.ref y.1] ++ [V.ref D]).length < 20 - (List.map (fun (e : Ent) => V.ref e.1) pre ++ [V.ref x.1, V.ref y.1]).length
            rw [List.length_append, List.length_append, List.length_map]
            show 20 - (pre.length + 2 + 1) < 20 - (pre.length + 2)
            lia
      · have hb' : ¬ 1 < y.2.length := fun z => hb (decide_eq_true (by lia))
        refine ⟨_, rfl, k H3 p (pre ++ [x, y]) s3 hpl (fun e he => (hen e he).seq hF s3) ?_ ?_ (fun e he => (hen e he).2) hhd⟩
        · have := hI.done hb'
          rw [List.map_append]
          exact this
        · rw [List.length_append]
          show pre.length + 2 ≤ 8
          lia
    · show Mono _
      (repeat first | exact MonoE.var | exact MonoE.c | exact MonoR.i0 | exact MonoR.i | exact MonoR.eq | exact MonoR.ne | exact MonoR.ix | exact MonoL.len | exact MonoA.nil | apply Mono.test | apply Mono.and | apply MonoE.cb | apply MonoE.op | apply MonoA.cons | apply MonoE.bits | apply MonoE.un)
theorem bl_ne (p q : Bool) : (!decide (V.bl p = V.bl q)) = (p != q) := by cases p <;> cases q <;> decide
noncomputable def sp_count_changes (K : PySem.W.Frag) : Sp := fun vs H Q _ => ∃ (v : V) (l : List Int), vs = [v] ∧ IL K H v l ∧ 1 ≤ l.length ∧ l.length ≤ 1000 ∧ ∀ H' : Hp, Same H H' → Q (.int (chg l : Nat)) H'
theorem sc_count_changes : FnScope ["values", "k"] ["values"] (defScope s_count_changes) := ⟨rfl, rfl, rfl, by decide +kernel, rfl, by decide +kernel, by decide +kernel⟩
theorem ok_count_changes {P : Program} {w : World} {K : PySem.W.Frag} {mg : Str → Option Value} {base : Heap} {f : Addr} {fd : FuncData} (F : Fun K "count_changes" "count_changes" s_count_changes f fd) (O : Own mg) :
    FnOk P w K mg base CX0 1 f fd ["values"] (sp_count_changes K) := by
  refine F.ok sc_count_changes (fun vs H Q E h => ?_) (fun cdv A outer s H vs Q E hr h => ?_)
  · obtain ⟨v, P, rfl, _⟩ := h
    rfl
  · obtain ⟨v, P, rfl, ⟨a, rfl, hc⟩, hl1, hl, k⟩ := h
    refine ⟨_, (pss_one (ps_ret (pe_callB (call_lenK (K := K) rfl) (by rfl) O.len_ bt_len (pa_cons (pe_lc (own := [("k", 1)]) rfl sc_count_changes.nd (pi_range2 (by rfl) O.range_ (pa_cons pe_int (pa_cons (pe_callB (call_lenK (K := K) rfl) (by rfl) O.len_ bt_len (pa_cons (pv 0) pa_nil)) pa_nil))) (show BlkOk ["values", "k"] (defScope s_count_changes) _ _ from ⟨rfl, by decide +kernel, by decide +kernel, by decide +kernel, by decide +kernel⟩) (fun _ _ _ _ _ => (pg_name (i := 1) sc_count_changes.nd rfl (by first | exact Or.inl rfl | exact Or.inr rfl))) (fun _ _ _ _ _ => (pts_one (pt_cmpR op_ne (pe_cmpR op_gt (pe_ix (ix_listK (K := K) rfl) (pv 0) (pe_op op_sub (pv 1) pe_int) (fun _ _ => rfl)) pe_int (nomark _)) (pe_cmpR op_gt (pe_ix (ix_listK (K := K) rfl) (pv 0) (pv 1) (fun _ _ => rfl)) pe_int (nomark _)) (nomark _)))) (fun _ _ _ _ _ => (pv 1))) pa_nil)))), ?_⟩
    refine ⟨_, rfl, a, _, rfl, .inl hc, _, _, rfl, ?_, fun D hD => ?_⟩
    · rw [List.length_map]
      exact ⟨by decide, by decide, by lia, by lia⟩
    refine lc_rng (fun z => (decide (0 < P.getD (z.toNat - 1) 0)) != (decide (0 < P.getD z.toNat 0))) V.int ?_ hD (fun z => rfl) (fun i hi H1 Rv R s1 hR => ?_) (fun H1 s1 e1 => ?_)
    · rw [List.length_map]
      exact small1000 (by lia)
    · rw [List.length_map] at hi
      have hR' := hR H1 (Same.refl H1)
      refine ⟨_, rfl, _, rfl, _, _, rfl, rfl, a, _, _, _, rfl, rfl, s1.seq hc, good_atI (by lia) (by lia), _, _, rfl, rfl, _, rfl, _, rfl, a, _, _, _, rfl, rfl, s1.seq hc, good_atI (by lia) (by lia), _, _, rfl, rfl, rfl, _, rfl, ?_⟩
      show (if (!decide (V.bl (decide (0 < P.getD (1 + (i : Int) - 1).toNat 0)) = V.bl (decide (0 < P.getD (1 + (i : Int)).toNat 0)))) = true then _ else _)
      rw [bl_ne, show (1 + (i : Int) - 1).toNat = (1 + (i : Int)).toNat - 1 by lia]
      refine ite2 (fun hb => ?_) (fun hb => ?_)
      · rw [if_pos hb] at hR'
        exact ⟨_, rfl, hR'⟩
      · rw [if_neg hb] at hR'
        exact hR'
    · rw [List.length_map, show ((P.length : Int) - 1).toNat = P.length - 1 by lia] at e1
      refine ⟨D, _, rfl, .inl (SqL.of e1), ?_⟩
      rw [List.length_map]
      exact k _ s1
noncomputable def sp_far_below (K : PySem.W.Frag) : Sp := fun vs H Q _ => ∃ (p : Addr) (L : List Ent), vs = [.ref p] ∧ SqL K H p (L.map fun (e : Ent) => V.ref e.1) ∧ L.length ≤ 8 ∧ (∀ e ∈ L, SqL K H e.1 (e.2.map V.int) ∧ e.2 ≠ []) ∧
  ∀ (H' : Hp) (u : V), Same H H' → OL H' u ((L.map (·.2)).map below) → Q u H'
theorem sc_far_below : FnScope ["chain", "part"] ["chain"] (defScope s_far_below) := ⟨rfl, rfl, rfl, by decide +kernel, rfl, by decide +kernel, by decide +kernel⟩
theorem ok_far_below {P : Program} {w : World} {K : PySem.W.Frag} {mg : Str → Option Value} {base : Heap} {f : Addr} {fd : FuncData} (F : Fun K "far_below" "far_below" s_far_below f fd) (O : Own mg) :
    FnOk P w K mg base CX0 1 f fd ["chain"] (sp_far_below K) := by
  refine F.ok sc_far_below (fun vs H Q E h => ?_) (fun cdv A outer s H vs Q E hr h => ?_)
  · obtain ⟨p, L, rfl, _⟩ := h
    rfl
  · obtain ⟨p, L, rfl, hp, hl, hL, k⟩ := h
    refine ⟨_, (pss_one (ps_ret (pe_lc (own := [("part", 1)]) rfl sc_far_below.nd (pi_list (pv 0)) (show BlkOk ["chain", "part"] (defScope s_far_below) _ _ from ⟨rfl, by decide +kernel, by decide +kernel, by decide +kernel, by decide +kernel⟩) (fun _ _ _ _ _ => (pg_name (i := 1) sc_far_below.nd rfl (by first | exact Or.inl rfl | exact Or.inr rfl))) (fun _ _ _ _ _ => pts_nil) (fun _ _ _ _ _ => (pe_ifExp (pt_cmpR op_eq (pe_op op_mod (pe_callB (call_lenK (K := K) rfl) (by rfl) O.len_ bt_len (pa_cons (pv 1) pa_nil)) pe_int) pe_int (nomark _)) (pe_ix (ix_listK (K := K) rfl) (pv 1) (pe_un un_neg pe_int) (fun _ _ => rfl)) (pe_un un_neg (pe_ix (ix_listK (K := K) rfl) (pv 1) (pe_un un_neg pe_int) (fun _ _ => rfl)))))))), ?_⟩
    refine ⟨_, rfl, p, rfl, ⟨_, hp⟩, fun G hG => ?_⟩
    refine lc_any (fun (e : Ent) => V.ref e.1) (K := K) (a := p) (ns := L) (fun _ => true) (fun e => V.int (below e.2)) hp (small1000 (by lia)) hG (fun z => rfl) (fun e he H4 Rv R s4 hR => ?_) (fun H4 s4 e4 => ?_)
    · have hR' := hR H4 (Same.refl H4)
      rw [if_pos rfl] at hR'
      have hs := s4.seq (hL e he).1
      have hne := (hL e he).2
      refine ⟨_, rfl, e.1, _, rfl, .inl hs, _, _, rfl, rfl, (by show (0 : Int) < 2; decide), rfl, _, rfl, ?_⟩
      rw [List.length_map]
      unfold below at hR'
      refine ite2 (fun hb => ?_) (fun hb => ?_)
      · have h1 : e.2.length % 2 = 1 := by
          have := int_eq hb
          lia
        rw [if_pos h1] at hR'
        exact ⟨_, rfl, _, rfl, e.1, _, _, _, rfl, rfl, hs, at_last hne, hR'⟩
      · have h1 : ¬ e.2.length % 2 = 1 := fun z => int_ne hb (by lia)
        rw [if_neg h1] at hR'
        exact ⟨_, rfl, _, rfl, e.1, _, _, _, rfl, rfl, hs, at_last hne, _, rfl, hR'⟩
    · rw [filter_yes] at e4
      refine k _ _ s4 ⟨G, rfl, ?_⟩
      rw [e4, List.map_map, List.map_map]
      rfl
noncomputable def sp_count_places (K : PySem.W.Frag) : Sp := fun vs H Q _ => ∃ (v : V) (c : List Int), vs = [v] ∧ IL K H v c ∧ refusal c = 0 ∧ ∀ H' : Hp, Same H H' → Q (.int (Root.places c : Nat)) H'
theorem sc_count_places : FnScope ["field", "chain", "far_above", "part"] ["field"] (defScope s_count_places) := ⟨rfl, rfl, rfl, by decide +kernel, rfl, by decide +kernel, by decide +kernel⟩
theorem ok_count_places {P : Program} {w : World} {K : PySem.W.Frag} {mg : Str → Option Value} {base : Heap} {f : Addr} {fd : FuncData} (F : Fun K "count_places" "count_places" s_count_places f fd) (O : Own mg) (C_sturm_chain : Cal P w K mg base 5 "sturm_chain" ["f"] (sp_sturm_chain K)) (C_polynomial_of : Cal P w K mg base 1 "polynomial_of" ["field"] (sp_polynomial_of K)) (C_count_changes : Cal P w K mg base 1 "count_changes" ["values"] (sp_count_changes K)) (C_far_below : Cal P w K mg base 1 "far_below" ["chain"] (sp_far_below K)) :
    FnOk P w K mg base CX0 6 f fd ["field"] (sp_count_places K) := by
  refine F.ok sc_count_places (fun vs H Q E h => ?_) (fun cdv A outer s H vs Q E hr h => ?_)
  · obtain ⟨v, c, rfl, _⟩ := h
    rfl
  · obtain ⟨v, c, rfl, ⟨fa, rfl, hF⟩, hf, k⟩ := h
    obtain ⟨c1, c2, c3⟩ := ok_field hf
    refine ⟨_, (pss_cons (ps_set (i := 1) sc_count_places.nd rfl (by first | exact Or.inl rfl | exact Or.inr rfl) (pe_cal C_sturm_chain (hr.mono (by decide)) (by rfl) (pa_cons (pe_cal C_polynomial_of (hr.mono (by decide)) (by rfl) (pa_cons (pv 0) pa_nil)) pa_nil)))
      (pss_cons (ps_setLc (i := 2) (own := [("part", 3)]) rfl sc_count_places.nd rfl rfl rfl (pi_list (pv 1)) (show BlkOk ["field", "chain", "far_above", "part"] (defScope s_count_places) _ _ from ⟨rfl, by decide +kernel, by decide +kernel, by decide +kernel, by decide +kernel⟩) (fun _ _ _ _ _ => (pg_name (i := 3) sc_count_places.nd rfl (by first | exact Or.inl rfl | exact Or.inr rfl))) (fun _ _ _ _ _ => pts_nil) (fun _ _ _ _ _ => (pe_ix (ix_listK (K := K) rfl) (pv 3) (pe_un un_neg pe_int) (fun _ _ => rfl))))
      (pss_one (ps_ret (pe_op op_sub (pe_cal C_count_changes (hr.mono (by decide)) (by rfl) (pa_cons (pe_cal C_far_below (hr.mono (by decide)) (by rfl) (pa_cons (pv 1) pa_nil)) pa_nil)) (pe_cal C_count_changes (hr.mono (by decide)) (by rfl) (pa_cons (pv 2) pa_nil))))))), ?_⟩
    refine ⟨_, rfl, _, c, rfl, ⟨fa, rfl, hF⟩, by lia, fun H1 u s1 hu => ?_⟩
    obtain ⟨pa, rfl, hpa⟩ := hu
    refine ⟨_, c, rfl, ⟨pa, rfl, SqL.of hpa⟩, hf, fun H2 p L s2 hp hL hrel hl8 hl _ => ?_⟩
    obtain ⟨hpl, hnz⟩ := places_chg hf hrel
    have hne : ∀ e ∈ L, e.2 ≠ [] := fun e he z => by
      have := hnz e.2 (List.mem_map.mpr ⟨e, he, rfl⟩)
      rw [z] at this
      exact this rfl
    have hLp : 1 ≤ L.length := by
      obtain ⟨l, e, _⟩ := row_go hf
      have := hrel.length
      rw [e, List.length_map, List.length_cons] at this
      lia
    refine ⟨_, rfl, p, rfl, ⟨_, SqL.of hp⟩, fun D hD => ?_⟩
    refine lc_any (fun (e : Ent) => V.ref e.1) (K := K) (a := p) (ns := L) (fun _ => true) (fun e => V.int (above e.2)) (SqL.of hp) (small1000 (by lia)) hD (fun z => rfl) (fun e he H3 Rv R s3 hR => ?_) (fun H3 s3 e3 => ?_)
    · have hR' := hR H3 (Same.refl H3)
      rw [if_pos rfl] at hR'
      exact ⟨_, rfl, _, rfl, e.1, _, _, _, rfl, rfl, s3.seq (hL e he), at_last (hne e he), hR'⟩
    · rw [filter_yes] at e3
      have hp3 := s3 _ _ hp
      have a2 : H3 D = some (.lst (((L.map (·.2)).map above).map V.int)) := by
        rw [e3, List.map_map, List.map_map]
        rfl
      refine ⟨_, rfl, p, L, rfl, SqL.of hp3, by lia, fun e he => ⟨s3.seq (hL e he), hne e he⟩, fun H4 u s4 hu => ?_⟩
      obtain ⟨G, rfl, hG⟩ := hu
      refine ⟨_, _, rfl, ⟨G, rfl, SqL.of hG⟩, by simpa using hLp, by rw [List.length_map, List.length_map]; lia, fun H5 s5 => ?_⟩
      refine ⟨_, rfl, _, _, rfl, ⟨D, rfl, SqL.of (s5 _ _ (s4 _ _ a2))⟩, by simpa using hLp, by rw [List.length_map, List.length_map]; lia, fun H6 s6 => ?_⟩
      refine ⟨_, _, rfl, rfl, ?_⟩
      have fin := k _ (((s1.trans s2).trans (s3.trans s4)).trans (s5.trans s6))
      rw [← hpl] at fin
      exact fin
noncomputable def sp_refusal_at (K : PySem.W.Frag) : Sp := fun vs H Q _ => ∃ (k : Int) (v u : V) (c a : List Int), vs = [.int k, v, u] ∧ IL K H v c ∧ IL K H u a ∧ 0 ≤ k ∧ c.length ≤ 1000 ∧
  ∀ H' : Hp, Same H H' → Q (.int (if rowsRefusal c [a] = 0 then (if Root.places c ≤ k.toNat then -4 else 0) else rowsRefusal c [a])) H'
theorem sc_refusal_at : FnScope ["k", "field", "a", "refusal"] ["k", "field", "a"] (defScope s_refusal_at) := ⟨rfl, rfl, rfl, by decide +kernel, rfl, by decide +kernel, by decide +kernel⟩
theorem ok_refusal_at {P : Program} {w : World} {K : PySem.W.Frag} {mg : Str → Option Value} {base : Heap} {f : Addr} {fd : FuncData} (F : Fun K "refusal_at" "refusal_at" s_refusal_at f fd) (O : Own mg) (C_refusal_of : Cal P w K mg base 5 "refusal_of" ["field", "operands"] (sp_refusal_of K)) (C_count_places : Cal P w K mg base 6 "count_places" ["field"] (sp_count_places K)) :
    FnOk P w K mg base CX0 7 f fd ["k", "field", "a"] (sp_refusal_at K) := by
  refine F.ok sc_refusal_at (fun vs H Q E h => ?_) (fun cdv A outer s H vs Q E hr h => ?_)
  · obtain ⟨k, v, u, c, a, rfl, _⟩ := h
    rfl
  · obtain ⟨k, v, u, c, a, rfl, ⟨ca, rfl, hc⟩, ⟨b, rfl, hb⟩, hk, hl, kk⟩ := h
    refine ⟨_, (pss_cons (ps_set (i := 3) sc_refusal_at.nd rfl (by first | exact Or.inl rfl | exact Or.inr rfl) (pe_cal C_refusal_of (hr.mono (by decide)) (by rfl) (pa_cons (pv 1) (pa_cons (pe_lst (pa_cons (pv 2) pa_nil)) pa_nil))))
      (pss_cons (ps_if (pt_cmpR op_ne (pv 3) pe_int (nomark _)) (pss_one (ps_ret (pv 3))) pss_nil)
      (pss_cons (ps_if (pt_cmpR op_ge (pv 0) (pe_cal C_count_places (hr.mono (by decide)) (by rfl) (pa_cons (pv 1) pa_nil)) (nomark _)) (pss_one (ps_ret (pe_un un_neg pe_int))) pss_nil)
      (pss_one (ps_ret pe_int))))), ?_⟩
    refine ⟨_, rfl, _, rfl, (by show 1 ≤ sizeLine; decide), fun p hp => ?_⟩
    have s1 : Same H (upd H p (.lst [V.ref b])) := same_upd hp
    refine ⟨_, p, c, [(b, a)], rfl, ⟨ca, rfl, s1.seq hc⟩, hl, SqL.of upd_same, (by show 1 ≤ 1000; decide), fun q hq => ?_, fun H2 s2 => ?_⟩
    · have e : q = (b, a) := by simpa using hq
      subst e
      exact s1.seq hb
    refine ⟨_, rfl, rfl, _, rfl, ?_⟩
    refine ite2 (fun h1 => ?_) (fun h1 => ?_)
    · have h1' : rowsRefusal c [a] ≠ 0 := nq_ne h1
      have := kk H2 (s1.trans s2)
      rw [if_neg h1'] at this
      exact ⟨_, rfl, this⟩
    · have h1' : rowsRefusal c [a] = 0 := nq_eq h1
      have h0 := (rows1 h1').1
      refine ⟨_, rfl, _, rfl, _, c, rfl, ⟨ca, rfl, (s1.trans s2).seq hc⟩, h0, fun H3 s3 => ?_⟩
      have := kk H3 ((s1.trans s2).trans s3)
      rw [if_pos h1'] at this
      refine ⟨_, _, rfl, rfl, _, rfl, ?_⟩
      refine ite2 (fun h2 => ?_) (fun h2 => ?_)
      · have h2' := of_decide_eq_true h2
        rw [if_pos (by lia)] at this
        exact ⟨_, rfl, this⟩
      · have h2' : ¬ _ := fun z => h2 (decide_eq_true z)
        rw [if_neg (by lia)] at this
        exact this
noncomputable def sp_is_zero (K : PySem.W.Frag) : Sp := fun vs H Q _ => ∃ (v : V) (A : List Int) (p : Int), vs = [v] ∧ IL K H v (A ++ [p]) ∧ ∀ H' : Hp, Same H H' → Q (.bl (!(A.any fun (z : Int) => z != 0))) H'
theorem sc_is_zero : FnScope ["a"] ["a"] (defScope s_is_zero) := ⟨rfl, rfl, rfl, by decide +kernel, rfl, by decide +kernel, by decide +kernel⟩
theorem ok_is_zero {P : Program} {w : World} {K : PySem.W.Frag} {mg : Str → Option Value} {base : Heap} {f : Addr} {fd : FuncData} (F : Fun K "is_zero" "is_zero" s_is_zero f fd) (O : Own mg) :
    FnOk P w K mg base CX0 1 f fd ["a"] (sp_is_zero K) := by
  refine F.ok sc_is_zero (fun vs H Q E h => ?_) (fun cdv A outer s H vs Q E hr h => ?_)
  · obtain ⟨v, A, p, rfl, _⟩ := h
    rfl
  · obtain ⟨v, A, p, rfl, ⟨a, rfl, ha⟩, k⟩ := h
    refine ⟨_, (pss_one (ps_ret (pe_not (pe_callB (cr_anyIK (K := K) rfl rfl) (by rfl) O.any_ bt_any (pa_cons (pe_slice (sl_listK (K := K) rfl) (pv 0) po_none (po_some (pe_un un_neg pe_int))) pa_nil))))), ?_⟩
    refine ⟨_, rfl, _, rfl, _, rfl, a, _, rfl, ha, fun x hx => ?_⟩
    rw [cut_last]
    refine ⟨x, A, rfl, SqL.of upd_same, ?_⟩
    exact ⟨_, rfl, k _ (same_upd hx)⟩
noncomputable def sp_fraction_parts : Sp := fun vs H Q _ => ∃ (t b : Int), vs = [.int 1, .int t, .int b] ∧ 0 < b ∧ b.natAbs.log2 < 9000 ∧
  ∀ (H' : Hp) (y : V), Same H H' → OL H' y [t / b] → Q y H'
theorem sc_fraction_parts : FnScope ["n", "top", "bottom", "found", "left", "right", "rest"] ["n", "top", "bottom"] (defScope s_fraction_parts) := ⟨rfl, rfl, rfl, by decide +kernel, rfl, by decide +kernel, by decide +kernel⟩
theorem ok_fraction_parts {P : Program} {w : World} {K : PySem.W.Frag} {mg : Str → Option Value} {base : Heap} {f : Addr} {fd : FuncData} (F : Fun K "fraction_parts" "fraction_parts" s_fraction_parts f fd) (O : Own mg) :
    FnOk P w K mg base CX0 1 f fd ["n", "top", "bottom"] sp_fraction_parts := by
  refine F.ok sc_fraction_parts (fun vs H Q E h => ?_) (fun cdv A outer s H vs Q E hr h => ?_)
  · obtain ⟨t, b, rfl, _⟩ := h
    rfl
  · obtain ⟨t, b, rfl, hb, hlg, k⟩ := h
    refine ⟨_, (pss_cons (ps_set (i := 3) sc_fraction_parts.nd rfl (by first | exact Or.inl rfl | exact Or.inr rfl) (pe_lst pa_nil))
      (pss_cons (ps_set (i := 4) sc_fraction_parts.nd rfl (by first | exact Or.inl rfl | exact Or.inr rfl) (pv 1))
      (pss_cons (ps_set (i := 5) sc_fraction_parts.nd rfl (by first | exact Or.inl rfl | exact Or.inr rfl) (pv 2))
      (pss_cons (ps_while PassesOwn.never (PW.pt (pw_and (pt_cmpR op_lt (pe_callB (call_lenK (K := K) rfl) (by rfl) O.len_ bt_len (pa_cons (pv 3) pa_nil)) (pv 0) (nomark _)) (pw_and1 (pt_cmpR op_ne (pv 5) pe_int (nomark _))))) (pss_cons (ps_expr (pe_bm PySem.F.plainAttrs_list PySem.F.slot_list_append PySem.F.type_list_append mt_append (pv 3) (pa_cons (pe_op op_fdivW (pv 4) (pv 5)) pa_nil)))
      (pss_cons (ps_set (i := 6) sc_fraction_parts.nd rfl (by first | exact Or.inl rfl | exact Or.inr rfl) (pe_op op_mod (pv 4) (pv 5)))
      (pss_cons (ps_set (i := 4) sc_fraction_parts.nd rfl (by first | exact Or.inl rfl | exact Or.inr rfl) (pv 5))
      (pss_one (ps_set (i := 5) sc_fraction_parts.nd rfl (by first | exact Or.inl rfl | exact Or.inr rfl) (pv 6)))))))
      (pss_one (ps_ret (pv 3))))))), ?_⟩
    refine ⟨(by show 0 ≤ sizeLine; decide), fun q hq => ?_⟩
    have s0 : Same H (upd H q (.lst [])) := same_upd hq
    refine ⟨_, rfl, _, rfl, ?_⟩
    refine while_by (fun σ H' => (σ = [some (.int 1), some (.int t), some (.int b), some (.ref q), some (.int t), some (.int b), none] ∧ H' q = some (.lst []) ∧ Same H H') ∨ (∃ (u v w : Int), σ = [some (.int 1), some (.int t), some (.int b), some (.ref q), some (.int u), some (.int v), some (.int w)] ∧ H' q = some (.lst [V.int (t / b)]) ∧ Same H H'))
      (fun σ H' => match σ with | [_, _, _, _, _, _, none] => 1 | _ => 0)
      (.inl ⟨rfl, upd_same, s0⟩) ?_ ?_
    · rintro σ H1 (⟨rfl, h1, s1⟩ | ⟨u, v, w, rfl, h1, s1⟩)
      · refine ⟨_, rfl, q, _, rfl, .inl (SqL.of h1), _, rfl, _, _, rfl, rfl, _, rfl, ?_⟩
        refine iteT ?_
        refine ⟨_, rfl, rfl, _, rfl, ?_⟩
        refine ite2 (fun h2 => ?_) (fun h2 => absurd (nq_eq h2) (by lia))
        refine ⟨_, rfl, .inl ⟨rfl, _, SqL.of h1⟩, _, rfl, _, rfl, _, _, rfl, rfl, ⟨hb, hlg⟩, q, _, _, rfl, rfl, h1, (by show 0 < sizeLine; decide), ?_⟩
        refine ⟨_, rfl, _, rfl, _, _, rfl, rfl, hb, _, rfl, _, rfl, .inr ⟨b, t % b, t % b, rfl, upd_same, same_upd2 s1 hq⟩, ?_⟩
        show 0 < 1
        decide
      · refine ⟨_, rfl, q, _, rfl, .inl (SqL.of h1), _, rfl, _, _, rfl, rfl, _, rfl, ?_⟩
        refine iteF ?_
        refine iteF ?_
        exact ⟨_, rfl, k _ _ s1 ⟨q, rfl, h1⟩⟩
    · refine Mono.and ?_ ?_ <;> (repeat first | exact MonoE.var | exact MonoE.c | exact MonoR.i0 | exact MonoR.i | exact MonoR.eq | exact MonoR.ne | exact MonoR.ix | exact MonoL.len | exact MonoA.nil | apply Mono.test | apply Mono.and | apply MonoE.cb | apply MonoE.op | apply MonoA.cons | apply MonoE.bits | apply MonoE.un)
theorem svI_few {bp m : Nat} {t b : Int} (ht : t.natAbs < 2 ^ m) (hb : b.natAbs < 2 ^ m) : ∀ l : List Int, FewI bp l → (svI l t b).natAbs < 2 ^ (bp + l.length * (m + 1)) ∧ (b ^ l.length).natAbs < 2 ^ (l.length * m + 1)
  | [], _ => ⟨by show 0 < _; exact Nat.two_pow_pos _, by rw [List.length_nil, Int.pow_zero, Nat.zero_mul]; decide⟩
  | a :: l, h => by
    obtain ⟨h1, h2⟩ := svI_few ht hb l (fun z hz => h z (by simp [hz]))
    have ha := h a (by simp)
    have hn : l.length * (m + 1) = l.length * m + l.length := by rw [Nat.mul_add, Nat.mul_one]
    constructor
    · show (svI l t b * t + a * b ^ l.length).natAbs < 2 ^ (bp + (l.length + 1) * (m + 1))
      have e1 := lt_up (mul_lt2 h1 ht) (show bp + l.length * (m + 1) + m ≤ bp + l.length * (m + 1) + m by lia)
      have e3 : (a * b ^ l.length).natAbs < 2 ^ (bp + l.length * (m + 1) + m) := by
        by_cases h0 : l.length = 0
        · rw [h0, Int.pow_zero, Int.mul_one]
          exact lt_up ha (by lia)
        · by_cases hm : m = 0
          · have hb0 : b = 0 := by rw [hm] at hb; lia
            rw [hb0, Int.zero_pow (by lia), Int.mul_zero]
            exact Nat.two_pow_pos _
          · exact lt_up (mul_lt2 ha h2) (by lia)
      have e4 := add_lt2 e1 e3
      rw [show bp + (l.length + 1) * (m + 1) = bp + l.length * (m + 1) + m + 1 by rw [Nat.succ_mul]; lia]
      exact e4
    · rw [List.length_cons, Int.pow_succ, Nat.succ_mul]
      exact lt_up (mul_lt2 h2 hb) (by lia)
noncomputable def sp_scaled_value (K : PySem.W.Frag) : Sp := fun vs H Q _ => ∃ (v : V) (P : List Int) (t b : Int) (bp m : Nat), vs = [v, .int t, .int b] ∧ IL K H v P ∧ P.length ≤ 8 ∧ FewI bp P ∧ t.natAbs < 2 ^ m ∧ b.natAbs < 2 ^ m ∧ bp + 8 * (m + 1) ≤ 10000000 ∧
  ∀ H' : Hp, Same H H' → (svI P t b).natAbs < 2 ^ (bp + P.length * (m + 1)) → Q (.int (svI P t b)) H'
theorem sc_scaled_value : FnScope ["f", "top", "bottom", "total", "scale", "factor"] ["f", "top", "bottom"] (defScope s_scaled_value) := ⟨rfl, rfl, rfl, by decide +kernel, rfl, by decide +kernel, by decide +kernel⟩
theorem ok_scaled_value {P : Program} {w : World} {K : PySem.W.Frag} {mg : Str → Option Value} {base : Heap} {f : Addr} {fd : FuncData} (F : Fun K "scaled_value" "scaled_value" s_scaled_value f fd) (O : Own mg) :
    FnOk P w K mg base CX0 1 f fd ["f", "top", "bottom"] (sp_scaled_value K) := by
  refine F.ok sc_scaled_value (fun vs H Q E h => ?_) (fun cdv A outer s H vs Q E hr h => ?_)
  · obtain ⟨v, P, t, b, bp, m, rfl, _⟩ := h
    rfl
  · obtain ⟨v, P, t, b, bp, m, rfl, ⟨a, rfl, ha⟩, hl, hbp, ht, hb, hbb, k⟩ := h
    refine ⟨_, (pss_cons (ps_set (i := 3) sc_scaled_value.nd rfl (by first | exact Or.inl rfl | exact Or.inr rfl) pe_int)
      (pss_cons (ps_set (i := 4) sc_scaled_value.nd rfl (by first | exact Or.inl rfl | exact Or.inr rfl) pe_int)
      (pss_cons (ps_for PassesOwn.never rfl (pi_reversed (by rfl) O.reversed_ (pa_cons (pv 0) pa_nil)) (pg_name (i := 5) sc_scaled_value.nd rfl (by first | exact Or.inl rfl | exact Or.inr rfl)) (pss_cons (ps_set (i := 3) sc_scaled_value.nd rfl (by first | exact Or.inl rfl | exact Or.inr rfl) (pe_op op_add (pe_op op_mulW (pv 3) (pv 1)) (pe_op op_mulW (pv 5) (pv 4))))
      (pss_one (ps_set (i := 4) sc_scaled_value.nd rfl (by first | exact Or.inl rfl | exact Or.inr rfl) (pe_op op_mulW (pv 4) (pv 2))))))
      (pss_one (ps_ret (pv 3)))))), ?_⟩
    refine ⟨_, rfl, a, _, rfl, ha, for_rev (K := K) (a := a) (xs := P.map V.int) (fun i σ H' => ∃ v5 : Option V, σ = [some (.ref a), some (.int t), some (.int b), some (.int (svI (P.drop (P.length - i)) t b)), some (.int (b ^ i)), v5] ∧ Same H H')
      ⟨none, ?_, Same.refl H⟩ (fun i σ H' _ h => ?_) ?_ ?_⟩
    · rw [Nat.sub_zero, List.drop_length, Int.pow_zero]
      rfl
    · obtain ⟨_, _, s⟩ := h
      exact s.seq ha
    · rintro i x σ H1 hx ⟨v5, rfl, s1⟩
      rw [← List.map_reverse, List.getElem?_map] at hx
      obtain ⟨z, hz, rfl⟩ := Option.map_eq_some_iff.mp hx
      have hi : i < P.length := by
        have := (List.getElem?_eq_some_iff.mp hz).1
        rwa [List.length_reverse] at this
      rw [List.getElem?_reverse hi] at hz
      have hlt : P.length - 1 - i < P.length := by lia
      have hzm : z ∈ P := List.mem_of_getElem? hz
      have ez : P[P.length - 1 - i] = z := by
        rw [List.getElem?_eq_getElem hlt] at hz
        exact Option.some.inj hz
      have ed : P.drop (P.length - (i + 1)) = z :: P.drop (P.length - i) := by
        rw [show P.length - (i + 1) = P.length - 1 - i by lia, List.drop_eq_getElem_cons hlt, ez]
        congr 2
        lia
      have hdl : (P.drop (P.length - i)).length = i := by rw [List.length_drop]; lia
      obtain ⟨h1, h2⟩ := svI_few (bp := bp) ht hb (P.drop (P.length - i)) (fun z hz => hbp z (List.mem_of_mem_drop hz))
      rw [hdl] at h1 h2
      have hm1 : i * (m + 1) ≤ 8 * (m + 1) := Nat.mul_le_mul_right _ (by lia)
      have hm2 : i * m ≤ 8 * m := Nat.mul_le_mul_right _ (by lia)
      refine ⟨_, rfl, _, rfl, _, _, rfl, rfl, mul_big h1 ht (by lia), _, rfl, _, rfl, _, _, rfl, rfl, mul_big (hbp z hzm) h2 (by lia), _, _, rfl, rfl, _, rfl, _, rfl, _, _, rfl, rfl, mul_big h2 hb (by lia), some (.int z), ?_, s1⟩
      rw [ed, Int.pow_succ]
      show _ = [_, _, _, some (V.int (svI (P.drop (P.length - i)) t b * t + z * b ^ (P.drop (P.length - i)).length)), _, _]
      rw [hdl]
      rfl
    · rintro σ H1 ⟨v5, rfl, s1⟩
      rw [List.length_map, Nat.sub_self, List.drop_zero]
      exact ⟨_, rfl, k H1 s1 (svI_few ht hb P hbp).1⟩
structure ChainOk (K : PySem.W.Frag) (H : Hp) (p : Addr) (c : List Int) (L : List Ent) : Prop where
  fd : Fd c
  at_ : SqL K H p (L.map fun (e : Ent) => V.ref e.1)
  ent : ∀ e ∈ L, SqL K H e.1 (e.2.map V.int)
  rel : RelAll (Root.rowOf c) (L.map (·.2))
  len : L.length ≤ 8
  few : ∀ e ∈ L, e.2.length ≤ 8 ∧ FewI 8000 e.2
  hd : (L.map (·.2)).head? = some (c ++ [1])
theorem ChainOk.same {K : PySem.W.Frag} {H H' : Hp} {p : Addr} {c : List Int} {L : List Ent} (h : ChainOk K H p c L) (s : Same H H') : ChainOk K H' p c L := ⟨h.fd, s.seq h.at_, fun e he => s.seq (h.ent e he), h.rel, h.len, h.few, h.hd⟩
theorem ChainOk.ne {K : PySem.W.Frag} {H : Hp} {p : Addr} {c : List Int} {L : List Ent} (h : ChainOk K H p c L) : ∀ e ∈ L, e.2 ≠ [] := fun e he z => by
  have := (places_chg h.fd.ok h.rel).2 e.2 (List.mem_map.mpr ⟨e, he, rfl⟩)
  rw [z] at this
  exact this rfl
theorem ChainOk.pos {K : PySem.W.Frag} {H : Hp} {p : Addr} {c : List Int} {L : List Ent} (h : ChainOk K H p c L) : 1 ≤ L.length := by
  obtain ⟨l, e, _⟩ := row_go h.fd.ok
  have := h.rel.length
  rw [e, List.length_map, List.length_cons] at this
  lia
theorem ChainOk.some {K : PySem.W.Frag} {H : Hp} {p : Addr} {c : List Int} {L : List Ent} (h : ChainOk K H p c L) {b : Int} (hb : 0 < b) (t : Int) : 1 ≤ (((L.map (·.2)).map fun (P : List Int) => svI P t b).filter fun (z : Int) => z != 0).length := by
  obtain ⟨l, e, _⟩ := row_go h.fd.ok
  have hr := rel_vals h.rel hb t
  rw [e, List.map_cons] at hr
  cases hL : L.map (·.2) with
  | nil => rw [hL] at hr; simp at hr
  | cons P l2 =>
    rw [hL, List.map_cons, List.map_cons] at hr
    have h1 := (List.cons.inj hr).1
    have h2 : svI P t b ≠ 0 := fun z => by
      rw [z] at h1
      have h3 : Root.signOf (Root.polyAt (Root.polyOf c) ((t : Rat) / (b : Rat))) = 0 := h1
      have h4 := h.fd.nz ((t : Rat) / (b : Rat))
      have h6 : Root.polyAt (Root.polyOf c) ((t : Rat) / (b : Rat)) < 0 ∨ 0 < Root.polyAt (Root.polyOf c) ((t : Rat) / (b : Rat)) := by
        generalize Root.polyAt (Root.polyOf c) ((t : Rat) / (b : Rat)) = y at *
        clear hr h1 h3
        grind
      rcases h6 with h5 | h5
      · rw [sign_neg h5] at h3
        cases h3
      · rw [sign_pos h5] at h3
        cases h3
    rw [List.map_cons, List.filter_cons, if_pos (by simpa using h2), List.length_cons]
    lia
noncomputable def sp_is_root_below (K : PySem.W.Frag) : Sp := fun vs H Q _ => ∃ (k : Nat) (p : Addr) (c : List Int) (L : List Ent) (t : Int) (n m : Nat), vs = [.int k, .ref p, .int t, .int n] ∧ ChainOk K H p c L ∧ t.natAbs < 2 ^ m ∧ n < m ∧ m ≤ 100000 ∧
  ∀ (H' : Hp) (b : Bool), Same H H' → (b = true ↔ ¬ Lo c k ((t : Rat) / (((2 ^ n : Nat) : Int) : Rat))) → Q (.bl b) H'
theorem is_root_below_mono {K : PySem.W.Frag} {E : XK} (vs : List V) (H : Hp) (Q Q' : VK) (hq : ∀ v H1, Q v H1 → Q' v H1) (h : sp_is_root_below K vs H Q E) : sp_is_root_below K vs H Q' E := by
  obtain ⟨k, p, c, L, t, n, m, e1, e2, e3, e4, e5, k'⟩ := h
  exact ⟨k, p, c, L, t, n, m, e1, e2, e3, e4, e5, fun H' b s hb => hq _ _ (k' H' b s hb)⟩
theorem sc_is_root_below : FnScope ["k", "chain", "number", "bits", "values", "part", "here", "value"] ["k", "chain", "number", "bits"] (defScope s_is_root_below) := ⟨rfl, rfl, rfl, by decide +kernel, rfl, by decide +kernel, by decide +kernel⟩
theorem ok_is_root_below {P : Program} {w : World} {K : PySem.W.Frag} {mg : Str → Option Value} {base : Heap} {f : Addr} {fd : FuncData} (F : Fun K "is_root_below" "is_root_below" s_is_root_below f fd) (O : Own mg) (C_scaled_value : Cal P w K mg base 1 "scaled_value" ["f", "top", "bottom"] (sp_scaled_value K)) (C_far_below : Cal P w K mg base 1 "far_below" ["chain"] (sp_far_below K)) (C_count_changes : Cal P w K mg base 1 "count_changes" ["values"] (sp_count_changes K)) :
    FnOk P w K mg base CX0 2 f fd ["k", "chain", "number", "bits"] (sp_is_root_below K) := by
  refine F.ok sc_is_root_below (fun vs H Q E h => ?_) (fun cdv A outer s H vs Q E hr h => ?_)
  · obtain ⟨k, p, c, L, t, n, m, rfl, _⟩ := h
    rfl
  · obtain ⟨kk, p, c, L, t, n, m, rfl, hC, ht, hn, hm, k⟩ := h
    refine ⟨_, (pss_cons (ps_setLc (i := 4) (own := [("part", 5)]) rfl sc_is_root_below.nd rfl rfl rfl (pi_list (pv 1)) (show BlkOk ["k", "chain", "number", "bits", "values", "part", "here", "value"] (defScope s_is_root_below) _ _ from ⟨rfl, by decide +kernel, by decide +kernel, by decide +kernel, by decide +kernel⟩) (fun _ _ _ _ _ => (pg_name (i := 5) sc_is_root_below.nd rfl (by first | exact Or.inl rfl | exact Or.inr rfl))) (fun _ _ _ _ _ => pts_nil) (fun _ _ _ _ _ => (pe_cal C_scaled_value (hr.mono (by decide)) (by rfl) (pa_cons (pv 5) (pa_cons (pv 2) (pa_cons (pe_op op_shlW pe_int (pv 3)) pa_nil))))))
      (pss_cons (ps_setLc (i := 6) (own := [("value", 7)]) rfl sc_is_root_below.nd rfl rfl rfl (pi_list (pv 4)) (show BlkOk ["k", "chain", "number", "bits", "values", "part", "here", "value"] (defScope s_is_root_below) _ _ from ⟨rfl, by decide +kernel, by decide +kernel, by decide +kernel, by decide +kernel⟩) (fun _ _ _ _ _ => (pg_name (i := 7) sc_is_root_below.nd rfl (by first | exact Or.inl rfl | exact Or.inr rfl))) (fun _ _ _ _ _ => (pts_one (pt_cmpR op_ne (pv 7) pe_int (nomark _)))) (fun _ _ _ _ _ => (pv 7)))
      (pss_one (ps_ret (pe_cmpR op_gt (pe_op op_sub (pe_cal C_count_changes (hr.mono (by decide)) (by rfl) (pa_cons (pe_cal C_far_below (hr.mono (by decide)) (by rfl) (pa_cons (pv 1) pa_nil)) pa_nil)) (pe_cal C_count_changes (hr.mono (by decide)) (by rfl) (pa_cons (pv 6) pa_nil))) (pv 0) (nomark _)))))), ?_⟩
    have hb0 : (0 : Int) < ((2 ^ n : Nat) : Int) := by
      have := Nat.two_pow_pos n
      lia
    have hb : (((2 ^ n : Nat) : Int)).natAbs < 2 ^ m := two_few hn
    have e2 := shl_one n
    have hsh := one_shl (Nat.le_trans (Nat.le_of_lt hn) hm)
    generalize hbb : ((2 ^ n : Nat) : Int) = b at *
    refine ⟨_, rfl, p, rfl, ⟨_, hC.at_⟩, fun D hD => ?_⟩
    refine lc_any (fun (e : Ent) => V.ref e.1) (K := K) (a := p) (ns := L) (fun _ => true) (fun e => V.int (svI e.2 t b)) hC.at_ (small1000 (by have := hC.len; lia)) hD (fun z => rfl) (fun e he H3 Rv R s3 hR => ?_) (fun H3 s3 e3 => ?_)
    · refine ⟨_, rfl, _, rfl, _, rfl, _, _, rfl, rfl, hsh, ?_⟩
      refine ⟨_, e.2, t, b, 8000, m, ?_, ⟨e.1, rfl, s3.seq (hC.ent e he)⟩, (hC.few e he).1, (hC.few e he).2, ht, hb, by lia, fun H4 s4 _ => ?_⟩
      · rw [← e2]
        rfl
      have hR' := hR H4 s4
      rw [if_pos rfl] at hR'
      exact hR'
    · rw [filter_yes] at e3
      have a1 : H3 D = some (.lst ((((L.map (·.2)).map fun (P : List Int) => svI P t b)).map V.int)) := by
        rw [e3, List.map_map, List.map_map]
        rfl
      have hlen : ((L.map (·.2)).map fun (P : List Int) => svI P t b).length ≤ 8 := by
        rw [List.length_map, List.length_map]
        exact hC.len
      generalize hv : ((L.map (·.2)).map fun (P : List Int) => svI P t b) = vals at *
      refine ⟨_, rfl, D, rfl, ⟨_, SqL.of a1⟩, fun G hG => ?_⟩
      refine lc_ints (K := K) (a := D) (ns := vals) (fun z => z != 0) (fun z => V.int z) (SqL.of a1) (small1000 (by lia)) hG (fun z => rfl) (fun z hz H4 Rv R s4 hR => ?_) (fun H4 s4 e4 => ?_)
      · have hR' := hR H4 (Same.refl H4)
        refine ⟨_, rfl, rfl, _, rfl, ?_⟩
        refine ite2 (fun h1 => ?_) (fun h1 => ?_)
        · have h2 := nq_ne h1
          rw [if_pos (by simpa using h2)] at hR'
          exact ⟨_, rfl, hR'⟩
        · have h2 := nq_eq h1
          rw [if_neg (by simpa using h2)] at hR'
          exact hR'
      · have hC4 := hC.same (s3.trans s4)
        refine ⟨_, rfl, p, L, rfl, hC4.at_, hC.len, fun e he => ⟨hC4.ent e he, hC.ne e he⟩, fun H5 u s5 hu => ?_⟩
        obtain ⟨B, rfl, hB⟩ := hu
        refine ⟨_, _, rfl, ⟨B, rfl, SqL.of hB⟩, by simpa using hC.pos, by rw [List.length_map, List.length_map]; have := hC.len; lia, fun H6 s6 => ?_⟩
        have e5 := s6 _ _ (s5 _ _ e4)
        refine ⟨_, rfl, _, vals.filter fun (z : Int) => z != 0, rfl, ⟨G, rfl, SqL.of e5⟩, by rw [← hv]; exact hC.some hb0 t, Nat.le_trans (List.length_filter_le _ _) (by lia), fun H7 s7 => ?_⟩
        refine ⟨_, _, rfl, rfl, _, rfl, _, _, rfl, rfl, ?_⟩
        refine k _ _ (((s3.trans s4).trans (s5.trans s6)).trans s7) ?_
        have v1 := below_chg hC.fd.ok hC.rel
        have v2 := vv_chg hC.rel hb0 (t := t)
        rw [hv] at v2
        unfold Lo
        rw [v1, v2]
        refine Iff.trans decide_eq_true_iff ?_
        lia
noncomputable def sp_root_between (K : PySem.W.Frag) : Sp := fun vs H Q _ => ∃ (k : Nat) (p : Addr) (c : List Int) (L : List Ent) (lo hi : Int) (n m : Nat), vs = [.int k, .ref p, .int lo, .int hi, .int n] ∧ ChainOk K H p c L ∧ Lo c k ((lo : Rat) / (((2 ^ n : Nat) : Int) : Rat)) ∧ ¬ Lo c k ((hi : Rat) / (((2 ^ n : Nat) : Int) : Rat)) ∧
  lo.natAbs < 2 ^ m ∧ hi.natAbs < 2 ^ m ∧ n < m ∧ m ≤ 100000 ∧
  ∀ (H' : Hp) (r : Int), Same H H' → Lo c k ((r : Rat) / (((2 ^ n : Nat) : Int) : Rat)) → ¬ Lo c k (((r + 1 : Int) : Rat) / (((2 ^ n : Nat) : Int) : Rat)) → lo ≤ r → r + 1 ≤ hi → Q (.int r) H'
theorem lo_less {c : List Int} (h : Fd c) {k : Nat} {x y b : Int} (hb : 0 < b) (hx : Lo c k ((x : Rat) / (b : Rat))) (hy : ¬ Lo c k ((y : Rat) / (b : Rat))) : x < y := by
  have h1 := h.lo_lt hx hy
  have b1 : 0 < (b : Rat) := Rat.intCast_pos.mpr hb
  have b2 : (b : Rat) ≠ 0 := fun z => by rw [z] at b1; exact absurd b1 (by decide)
  have e1 : (x : Rat) / (b : Rat) * (b : Rat) = (x : Rat) := Rat.div_mul_cancel b2
  have e2 : (y : Rat) / (b : Rat) * (b : Rat) = (y : Rat) := Rat.div_mul_cancel b2
  refine Rat.intCast_lt_intCast.mp ?_
  generalize (x : Rat) / (b : Rat) = u at *
  generalize (y : Rat) / (b : Rat) = v at *
  have : 0 < (v - u) * (b : Rat) := Rat.mul_pos (by grind) b1
  grind
theorem sc_root_between : FnScope ["k", "chain", "low", "high", "bits", "below", "above", "middle"] ["k", "chain", "low", "high", "bits"] (defScope s_root_between) := ⟨rfl, rfl, rfl, by decide +kernel, rfl, by decide +kernel, by decide +kernel⟩
theorem ok_root_between {P : Program} {w : World} {K : PySem.W.Frag} {mg : Str → Option Value} {base : Heap} {f : Addr} {fd : FuncData} (F : Fun K "root_between" "root_between" s_root_between f fd) (O : Own mg) (C_is_root_below : Cal P w K mg base 2 "is_root_below" ["k", "chain", "number", "bits"] (sp_is_root_below K)) :
    FnOk P w K mg base CX0 3 f fd ["k", "chain", "low", "high", "bits"] (sp_root_between K) := by
  refine F.ok sc_root_between (fun vs H Q E h => ?_) (fun cdv A outer s H vs Q E hr h => ?_)
  · obtain ⟨k, p, c, L, lo, hi, n, m, rfl, _⟩ := h
    rfl
  · obtain ⟨k, p, c, L, lo, hi, n, m, rfl, hC, hlo, hhi, hlb, hhb, hn, hm, kk⟩ := h
    refine ⟨_, (pss_cons (ps_set (i := 5) sc_root_between.nd rfl (by first | exact Or.inl rfl | exact Or.inr rfl) (pv 2))
      (pss_cons (ps_set (i := 6) sc_root_between.nd rfl (by first | exact Or.inl rfl | exact Or.inr rfl) (pv 3))
      (pss_cons (ps_while PassesOwn.never (pt_cmpR op_gt (pe_op op_sub (pv 6) (pv 5)) pe_int (nomark _)) (pss_cons (ps_set (i := 7) sc_root_between.nd rfl (by first | exact Or.inl rfl | exact Or.inr rfl) (pe_op op_fdiv (pe_op op_add (pv 5) (pv 6)) pe_int))
      (pss_one (ps_if (pt_val (pe_cal C_is_root_below (hr.mono (by decide)) (by rfl) (pa_cons (pv 0) (pa_cons (pv 1) (pa_cons (pv 7) (pa_cons (pv 4) pa_nil)))))) (pss_one (ps_set (i := 6) sc_root_between.nd rfl (by first | exact Or.inl rfl | exact Or.inr rfl) (pv 7))) (pss_one (ps_set (i := 5) sc_root_between.nd rfl (by first | exact Or.inl rfl | exact Or.inr rfl) (pv 7)))))))
      (pss_one (ps_ret (pv 5)))))), ?_⟩
    have hB : (0 : Int) < ((2 ^ n : Nat) : Int) := by
      have := Nat.two_pow_pos n
      lia
    refine ⟨_, rfl, _, rfl, ?_⟩
    refine while_by (fun σ H' => ∃ (x y : Int) (v7 : Option V), σ = [some (.int k), some (.ref p), some (.int lo), some (.int hi), some (.int n), some (.int x), some (.int y), v7] ∧ Lo c k ((x : Rat) / (((2 ^ n : Nat) : Int) : Rat)) ∧ ¬ Lo c k ((y : Rat) / (((2 ^ n : Nat) : Int) : Rat)) ∧ lo ≤ x ∧ y ≤ hi ∧ Same H H')
      (fun σ H' => match σ with | [_, _, _, _, _, some (.int x), some (.int y), _] => (y - x).toNat | _ => 0)
      ⟨lo, hi, none, rfl, hlo, hhi, Int.le_refl _, Int.le_refl _, Same.refl H⟩ ?_ ?_
    · rintro σ H1 ⟨x, y, v7, rfl, hx, hy, h1, h2, s1⟩
      have hxy := lo_less hC.fd hB hx hy
      refine ⟨_, rfl, _, rfl, _, _, rfl, rfl, _, _, rfl, rfl, _, rfl, ?_⟩
      refine ite2 (fun hc => ?_) (fun hc => ?_)
      · have hc' : 1 < y - x := of_decide_eq_true hc
        refine ⟨_, rfl, _, rfl, _, _, rfl, rfl, _, _, rfl, rfl, ⟨by decide, by decide⟩, ?_⟩
        have hmb : ((x + y) / 2).natAbs < 2 ^ m := by omega
        refine ⟨_, rfl, _, rfl, _, rfl, _, rfl, k, p, c, L, (x + y) / 2, n, m, rfl, hC.same s1, hmb, hn, hm, fun H2 bb s2 hbb => ?_⟩
        refine ⟨_, rfl, ?_⟩
        cases bb with
        | true =>
          refine iteT ?_
          have hd' := hbb.mp rfl
          refine ⟨_, rfl, ⟨x, (x + y) / 2, _, rfl, hx, hd', h1, by lia, s1.trans s2⟩, ?_⟩
          show ((x + y) / 2 - x).toNat < (y - x).toNat
          lia
        | false =>
          refine iteF ?_
          have hd' : Lo c k ((((x + y) / 2 : Int) : Rat) / (((2 ^ n : Nat) : Int) : Rat)) := by
            false_or_by_contra
            rename_i z
            exact Bool.noConfusion (hbb.mpr z)
          refine ⟨_, rfl, ⟨(x + y) / 2, y, _, rfl, hd', hy, by lia, h2, s1.trans s2⟩, ?_⟩
          show (y - (x + y) / 2).toNat < (y - x).toNat
          lia
      · have hc' : ¬ 1 < y - x := fun z => hc (decide_eq_true z)
        have e : y = x + 1 := by lia
        subst e
        exact ⟨_, rfl, kk H1 x s1 hx hy h1 h2⟩
    · show Mono _
      (repeat first | exact MonoE.var | exact MonoE.c | exact MonoR.i0 | exact MonoR.i | exact MonoR.eq | exact MonoR.ne | exact MonoR.ix | exact MonoL.len | exact MonoA.nil | apply Mono.test | apply Mono.and | apply MonoE.cb | apply MonoE.op | apply MonoA.cons | apply MonoE.bits | apply MonoE.un)
noncomputable def vbt (A : List Int) (low : Int) (n : Nat) (s : Int) : Int := svI A low ((2 ^ n : Nat) : Int) + s * (slI 1 (A.drop 1) * ((2 ^ n : Nat) : Int) ^ (A.length - 2))
noncomputable def vbs (A : List Int) (p : Int) (n : Nat) : Int := p * ((2 ^ n : Nat) : Int) ^ (A.length - 1)
noncomputable def flo (A : List Int) (p low : Int) (n : Nat) (s : Int) : Int := (svI A low ((2 ^ n : Nat) : Int) + s * (slI 1 (A.drop 1) * ((2 ^ n : Nat) : Int) ^ (A.length - 2))) / (p * ((2 ^ n : Nat) : Int) ^ (A.length - 1))
theorem log_few {z : Int} {n : Nat} (h : z.natAbs < 2 ^ n) (hn : n ≤ 9000) (h0 : 0 < z) : z.natAbs.log2 < 9000 := Nat.lt_of_lt_of_le ((Nat.log2_lt (by lia)).mpr h) hn
theorem pow_two_mul (n m : Nat) : ((2 ^ n : Nat) : Int) ^ m = ((2 ^ (n * m) : Nat) : Int) := by
  rw [Nat.pow_mul]
  push_cast
  rfl
theorem cmn {n : Nat} {b : Int} (h : n ≤ 2500) : CMul (n : Int) b := .inl ⟨by lia, by lia⟩
theorem cmk {n : Nat} {a b : Int} (e : a = (n : Int)) (h : n ≤ 10) : CMul a b := .inl ⟨by lia, by lia⟩
noncomputable def sp_value_bounds (K : PySem.W.Frag) : Sp := fun vs H Q _ => ∃ (v : V) (A : List Int) (p low : Int) (n b : Nat), vs = [v, .int low, .int n] ∧ IL K H v (A ++ [p]) ∧ 2 ≤ A.length ∧ A.length ≤ 4 ∧ 0 < p ∧ FewI b (A ++ [p]) ∧ b ≤ 200 ∧ n ≤ 2500 ∧ low.natAbs < 2 ^ (n + 11) ∧
  ∀ (H' : Hp) (y : V), Same H H' → OL H' y [vbt A low n (-1), vbt A low n 1, vbs A p n] → 0 < vbs A p n → (vbs A p n).natAbs.log2 < 9000 → Q y H'
theorem sc_value_bounds : FnScope ["a", "low", "bits", "numerators", "middle", "slope", "k", "gap", "scale"] ["a", "low", "bits"] (defScope s_value_bounds) := ⟨rfl, rfl, rfl, by decide +kernel, rfl, by decide +kernel, by decide +kernel⟩
theorem ok_value_bounds {P : Program} {w : World} {K : PySem.W.Frag} {mg : Str → Option Value} {base : Heap} {f : Addr} {fd : FuncData} (F : Fun K "value_bounds" "value_bounds" s_value_bounds f fd) (O : Own mg) (c_ROOT_BOUND : Kst mg "ROOT_BOUND" 1001) (C_scaled_value : Cal P w K mg base 1 "scaled_value" ["f", "top", "bottom"] (sp_scaled_value K)) :
    FnOk P w K mg base CX0 2 f fd ["a", "low", "bits"] (sp_value_bounds K) := by
  refine F.ok sc_value_bounds (fun vs H Q E h => ?_) (fun cdv A outer s H vs Q E hr h => ?_)
  · obtain ⟨v, A, p, low, n, b, rfl, _⟩ := h
    rfl
  · obtain ⟨v, A, p, low, n, b, rfl, ⟨a, rfl, ha⟩, hl2, hl4, hp, hb, hbb, hn, hlow, k⟩ := h
    refine ⟨_, (pss_cons (ps_set (i := 3) sc_value_bounds.nd rfl (by first | exact Or.inl rfl | exact Or.inr rfl) (pe_slice (sl_listK (K := K) rfl) (pv 0) po_none (po_some (pe_un un_neg pe_int))))
      (pss_cons (ps_set (i := 4) sc_value_bounds.nd rfl (by first | exact Or.inl rfl | exact Or.inr rfl) (pe_cal C_scaled_value (hr.mono (by decide)) (by rfl) (pa_cons (pv 3) (pa_cons (pv 1) (pa_cons (pe_op op_shlW pe_int (pv 2)) pa_nil)))))
      (pss_cons (ps_set (i := 5) sc_value_bounds.nd rfl (by first | exact Or.inl rfl | exact Or.inr rfl) pe_int)
      (pss_cons (ps_for PassesOwn.never rfl (pi_range3 (by rfl) O.range_ (pa_cons (pe_op op_sub (pe_callB (call_lenK (K := K) rfl) (by rfl) O.len_ bt_len (pa_cons (pv 3) pa_nil)) pe_int) (pa_cons pe_int (pa_cons (pe_un un_neg pe_int) pa_nil)))) (pg_name (i := 6) sc_value_bounds.nd rfl (by first | exact Or.inl rfl | exact Or.inr rfl)) (pss_one (ps_set (i := 5) sc_value_bounds.nd rfl (by first | exact Or.inl rfl | exact Or.inr rfl) (pe_op op_add (pe_op op_mul (pv 5) (pe_globK (by rfl) c_ROOT_BOUND)) (pe_op op_mul (pv 6) (pe_callB call_abs (by rfl) O.abs_ bt_abs (pa_cons (pe_ix (ix_listK (K := K) rfl) (pv 3) (pv 6) (fun _ _ => rfl)) pa_nil)))))))
      (pss_cons (ps_set (i := 7) sc_value_bounds.nd rfl (by first | exact Or.inl rfl | exact Or.inr rfl) (pe_op op_shlW (pv 5) (pe_op op_mul (pv 2) (pe_op op_sub (pe_callB (call_lenK (K := K) rfl) (by rfl) O.len_ bt_len (pa_cons (pv 3) pa_nil)) pe_int))))
      (pss_cons (ps_set (i := 8) sc_value_bounds.nd rfl (by first | exact Or.inl rfl | exact Or.inr rfl) (pe_op op_shlW (pe_ix (ix_listK (K := K) rfl) (pv 0) (pe_un un_neg pe_int) (fun _ _ => rfl)) (pe_op op_mul (pv 2) (pe_op op_sub (pe_callB (call_lenK (K := K) rfl) (by rfl) O.len_ bt_len (pa_cons (pv 3) pa_nil)) pe_int))))
      (pss_one (ps_ret (pe_lst (pa_cons (pe_op op_sub (pv 4) (pv 7)) (pa_cons (pe_op op_add (pv 4) (pv 7)) (pa_cons (pv 8) pa_nil)))))))))))), ?_⟩
    refine ⟨_, rfl, _, rfl, _, rfl, a, _, rfl, ha, fun x hx => ?_⟩
    rw [cut_last]
    have s1 : Same H (upd H x (.lst (A.map V.int))) := same_upd hx
    refine ⟨_, rfl, _, rfl, _, rfl, _, _, rfl, rfl, one_shl (Nat.le_trans hn (by decide)), ?_⟩
    have e2 := shl_one n
    have hB2 : (((2 ^ n : Nat) : Int)).natAbs < 2 ^ (n + 11) := two_few (Nat.lt_add_of_pos_right (by decide))
    refine ⟨_, A, low, ((2 ^ n : Nat) : Int), b, n + 11, ?_, ⟨x, rfl, SqL.of upd_same⟩, by lia, hb.left, hlow, hB2, by lia, fun H2 s2 _ => ?_⟩
    · rw [← e2]
      rfl
    have s3 := s1.trans s2
    have hx2 := s2 _ _ upd_same
    refine ⟨_, rfl, x, _, rfl, .inl (SqL.of hx2), _, _, rfl, rfl, ?_⟩
    rw [List.length_map]
    refine ⟨_, rfl, _, _, _, A.length - 1, rfl, ?_, ?_⟩
    · have := RgC.neg (i := (A.length : Int) - 1) (j := 0) (by lia) (by lia) (by lia) (by lia)
      rw [show ((A.length : Int) - 1 - 0).toNat = A.length - 1 by lia] at this
      exact this
    refine for_rangeC (lo := (A.length : Int) - 1) (c := -1) (n := A.length - 1) (fun i σ H' => ∃ v6 : Option V, σ = [some (.ref a), some (.int low), some (.int n), some (.ref x), some (.int (svI A low ((2 ^ n : Nat) : Int))), some (.int (slI (A.length - i) (A.drop (A.length - i)))), v6, none, none] ∧ Same H2 H')
      ⟨none, ?_, Same.refl _⟩ ?_ ?_
    · rw [Nat.sub_zero, List.drop_length]
      rfl
    · rintro i σ H3 hi ⟨v6, rfl, s4⟩
      have hlt : A.length - 1 - i < A.length := by lia
      have hix : (A.length : Int) - 1 + (i : Nat) * (-1) = ((A.length - 1 - i : Nat) : Int) := by lia
      have ed : A.drop (A.length - (i + 1)) = A.getD (A.length - 1 - i) 0 :: A.drop (A.length - i) := by
        rw [show A.length - (i + 1) = A.length - 1 - i by lia, List.drop_eq_getElem_cons hlt, List.getD_eq_getElem?_getD, List.getElem?_eq_getElem hlt]
        show A[A.length - 1 - i] :: _ = A[A.length - 1 - i] :: _
        congr 2
        lia
      refine ⟨_, rfl, _, _, rfl, rfl, .inr ⟨by decide, by decide⟩, _, rfl, _, rfl, _, rfl, x, _, _, _, rfl, rfl, SqL.of (s4 _ _ hx2), at_getD hix hlt, _, rfl, _, _, rfl, rfl, cmk hix (Nat.le_trans (Nat.le_of_lt hlt) (Nat.le_trans hl4 (by decide))), _, _, rfl, rfl, some (.int ((A.length : Int) - 1 + (i : Nat) * (-1))), ?_, s4⟩
      · rw [ed, show A.length - (i + 1) = A.length - 1 - i by lia]
        show _ = [_, _, _, _, _, some (V.int (slI (A.length - 1 - i + 1) (A.drop (A.length - i)) * 1001 + ((A.length - 1 - i : Nat) : Int) * ((A.getD (A.length - 1 - i) 0).natAbs : Int))), _, _, _]
        rw [show A.length - 1 - i + 1 = A.length - i by lia, abs_is, hix]
        rfl
    · rintro σ H3 ⟨v6, rfl, s4⟩
      rw [show A.length - (A.length - 1) = 1 by lia]
      have s5 := s3.trans s4
      have hx3 := s4 _ _ hx2
      have hsl := slI_few (b := b) (l := A.drop 1) (by rw [List.length_drop]; lia) (fun z hz => Nat.le_of_lt (hb.left z (List.mem_of_mem_drop hz)))
      have hsl0 := slI_nonneg (A.drop 1) 1
      generalize hS : slI 1 (A.drop 1) = S at *
      have hSb : S.natAbs < 2 ^ (b + 23) := by
        have h1 := Nat.two_pow_pos (b + 22)
        have h2 : 2 ^ (b + 23) = 2 ^ (b + 22) * 2 := Nat.pow_succ ..
        rw [h2]
        generalize 2 ^ (b + 22) = M at *
        lia
      have hpw : ∀ m : Nat, ((n : Int) * (m : Int)).toNat = n * m := fun m => by
        rw [← Int.natCast_mul, Int.toNat_natCast]
      have hnm : ∀ m : Nat, m ≤ 4 → n * m ≤ 10000 := fun m hm => Nat.le_trans (Nat.mul_le_mul hn hm) (by decide)
      have eL2 : (A.length : Int) - 2 = ((A.length - 2 : Nat) : Int) := by lia
      have eL1 : (A.length : Int) - 1 = ((A.length - 1 : Nat) : Int) := by lia
      refine ⟨_, rfl, _, rfl, _, rfl, x, _, rfl, .inl (SqL.of hx3), _, _, rfl, rfl, _, _, rfl, rfl, cmn hn, ?_⟩
      rw [List.length_map, eL2]
      refine ⟨_, _, rfl, rfl, ⟨?_, ?_⟩, ?_⟩
      · show (0 : Int) ≤ (n : Int) * ((A.length - 2 : Nat) : Int)
        rw [← Int.natCast_mul]
        lia
      · show ((Builtin.Int.intBits S : Nat) : Int) + (n : Int) * ((A.length - 2 : Nat) : Int) ≤ 2 ^ 27
        have h1 := bits_few hSb
        have h2 := hnm (A.length - 2) (by lia)
        rw [← Int.natCast_mul]
        lia
      refine ⟨_, rfl, _, rfl, a, _, _, _, rfl, rfl, s5.seq ha, at_end _ _, _, rfl, _, rfl, x, _, rfl, .inl (SqL.of hx3), _, _, rfl, rfl, _, _, rfl, rfl, cmn hn, ?_⟩
      rw [List.length_map, eL1]
      refine ⟨_, _, rfl, rfl, ⟨?_, ?_⟩, ?_⟩
      · show (0 : Int) ≤ (n : Int) * ((A.length - 1 : Nat) : Int)
        rw [← Int.natCast_mul]
        lia
      · show ((Builtin.Int.intBits p : Nat) : Int) + (n : Int) * ((A.length - 1 : Nat) : Int) ≤ 2 ^ 27
        have h1 := bits_few hb.last
        have h2 := hnm (A.length - 1) (by lia)
        rw [← Int.natCast_mul]
        lia
      have g1 : S * 2 ^ ((n : Int) * ((A.length - 2 : Nat) : Int)).toNat = S * ((2 ^ n : Nat) : Int) ^ (A.length - 2) := by
        rw [hpw, pow_two_mul]
        push_cast
        rfl
      have g2 : p * 2 ^ ((n : Int) * ((A.length - 1 : Nat) : Int)).toNat = p * ((2 ^ n : Nat) : Int) ^ (A.length - 1) := by
        rw [hpw, pow_two_mul]
        push_cast
        rfl
      have hsc : 0 < p * ((2 ^ n : Nat) : Int) ^ (A.length - 1) := by
        rw [pow_two_mul]
        have := Nat.two_pow_pos (n * (A.length - 1))
        exact Int.mul_pos hp (by lia)
      have hlg : (p * ((2 ^ n : Nat) : Int) ^ (A.length - 1)).natAbs.log2 < 9000 := by
        refine log_few (n := b + (n * (A.length - 1) + 1)) ?_ ?_ hsc
        · refine mul_lt2 hb.last ?_
          rw [pow_two_mul, Int.natAbs_natCast]
          exact Nat.pow_lt_pow_right (by decide) (by lia)
        · have : n * (A.length - 1) ≤ 2500 * 3 := Nat.mul_le_mul hn (by lia)
          lia
      refine ⟨_, rfl, _, rfl, _, _, rfl, rfl, _, rfl, _, rfl, _, _, rfl, rfl, _, rfl, ?_⟩
      refine ⟨(by show 3 ≤ sizeLine; decide), fun q hq => k _ _ (s5.trans (same_upd hq)) ⟨q, rfl, ?_⟩ hsc hlg⟩
      rw [upd_same, g1]
      dsimp only
      rw [g2]
      unfold vbt vbs
      rw [hS, Int.one_mul, show ∀ u v : Int, u + -1 * v = u - v by intro u v; lia]
      rfl
noncomputable def sp_parts_within (K : PySem.W.Frag) : Sp := fun vs H Q _ => ∃ (v : V) (x y s : Int), vs = [.int 1, v] ∧ IL K H v [x, y, s] ∧ 0 < s ∧ s.natAbs.log2 < 9000 ∧
  ∀ (H' : Hp) (u : V), Same H H' → OL H' u (if x / s = y / s then [x / s] else []) → Q u H'
theorem sc_parts_within : FnScope ["n", "bounds", "below", "above", "end"] ["n", "bounds"] (defScope s_parts_within) := ⟨rfl, rfl, rfl, by decide +kernel, rfl, by decide +kernel, by decide +kernel⟩
theorem ok_parts_within {P : Program} {w : World} {K : PySem.W.Frag} {mg : Str → Option Value} {base : Heap} {f : Addr} {fd : FuncData} (F : Fun K "parts_within" "parts_within" s_parts_within f fd) (O : Own mg) (C_fraction_parts : Cal P w K mg base 1 "fraction_parts" ["n", "top", "bottom"] sp_fraction_parts) :
    FnOk P w K mg base CX0 2 f fd ["n", "bounds"] (sp_parts_within K) := by
  refine F.ok sc_parts_within (fun vs H Q E h => ?_) (fun cdv A outer s H vs Q E hr h => ?_)
  · obtain ⟨v, x, y, s, rfl, _⟩ := h
    rfl
  · obtain ⟨v, x, y, s, rfl, ⟨a, rfl, ha⟩, hs, hlg, k⟩ := h
    refine ⟨_, (pss_cons (ps_set (i := 2) sc_parts_within.nd rfl (by first | exact Or.inl rfl | exact Or.inr rfl) (pe_cal C_fraction_parts (hr.mono (by decide)) (by rfl) (pa_cons (pv 0) (pa_cons (pe_ix (ix_listK (K := K) rfl) (pv 1) pe_int (fun _ _ => rfl)) (pa_cons (pe_ix (ix_listK (K := K) rfl) (pv 1) pe_int (fun _ _ => rfl)) pa_nil)))))
      (pss_cons (ps_set (i := 3) sc_parts_within.nd rfl (by first | exact Or.inl rfl | exact Or.inr rfl) (pe_cal C_fraction_parts (hr.mono (by decide)) (by rfl) (pa_cons (pv 0) (pa_cons (pe_ix (ix_listK (K := K) rfl) (pv 1) pe_int (fun _ _ => rfl)) (pa_cons (pe_ix (ix_listK (K := K) rfl) (pv 1) pe_int (fun _ _ => rfl)) pa_nil)))))
      (pss_cons (ps_set (i := 4) sc_parts_within.nd rfl (by first | exact Or.inl rfl | exact Or.inr rfl) pe_int)
      (pss_cons (ps_while PassesOwn.never (PW.pt (pw_and (pt_cmpR op_lt (pv 4) (pe_callB (call_min2 rfl) (by rfl) O.min_ bt_min (pa_cons (pe_callB (call_lenK (K := K) rfl) (by rfl) O.len_ bt_len (pa_cons (pv 2) pa_nil)) (pa_cons (pe_callB (call_lenK (K := K) rfl) (by rfl) O.len_ bt_len (pa_cons (pv 3) pa_nil)) pa_nil))) (nomark _)) (pw_and1 (pt_cmpR op_eq (pe_ix (ix_listK (K := K) rfl) (pv 2) (pv 4) (fun _ _ => rfl)) (pe_ix (ix_listK (K := K) rfl) (pv 3) (pv 4) (fun _ _ => rfl)) (nomark _))))) (pss_one (ps_aug (i := 4) sc_parts_within.nd rfl (by first | exact Or.inl rfl | exact Or.inr rfl) pe_int ip_add)))
      (pss_one (ps_ret (pe_slice (sl_listK (K := K) rfl) (pv 2) po_none (po_some (pv 4))))))))), ?_⟩
    refine ⟨_, rfl, _, rfl, a, _, _, _, rfl, rfl, ha, at_ix (j := 0) rfl rfl, _, rfl, a, _, _, _, rfl, rfl, ha, at_ix (j := 2) rfl rfl, x, s, rfl, hs, hlg, fun H1 y1 s1 hy1 => ?_⟩
    obtain ⟨b, rfl, hb⟩ := hy1
    refine ⟨_, rfl, _, rfl, a, _, _, _, rfl, rfl, s1.seq ha, at_ix (j := 1) rfl rfl, _, rfl, a, _, _, _, rfl, rfl, s1.seq ha, at_ix (j := 2) rfl rfl, y, s, rfl, hs, hlg, fun H2 y2 s2 hy2 => ?_⟩
    obtain ⟨d, rfl, hd⟩ := hy2
    have hb2 := s2 _ _ hb
    refine while_by (fun σ H' => ∃ e : Nat, σ = [some (.int 1), some (.ref a), some (.ref b), some (.ref d), some (.int e)] ∧ (e = 0 ∨ (e = 1 ∧ x / s = y / s)) ∧ Same H2 H')
      (fun σ H' => match σ with | [_, _, _, _, some (.int e)] => (1 - e).toNat | _ => 0)
      ⟨0, rfl, .inl rfl, Same.refl _⟩ ?_ ?_
    · rintro σ H3 ⟨e, rfl, he, s3⟩
      have hb3 := s3 _ _ hb2
      have hd3 := s3 _ _ hd
      refine ⟨_, rfl, _, rfl, b, _, rfl, .inl (SqL.of hb3), _, rfl, d, _, rfl, .inl (SqL.of hd3), _, _, rfl, _, _, rfl, rfl, _, rfl, ?_⟩
      rcases he with rfl | ⟨rfl, he⟩
      · refine iteT ?_
        refine ⟨_, rfl, _, rfl, b, _, _, _, rfl, rfl, SqL.of hb3, at_ix (j := 0) rfl rfl, _, rfl, _, rfl, d, _, _, _, rfl, rfl, SqL.of hd3, at_ix (j := 0) rfl rfl, rfl, _, rfl, ?_⟩
        refine ite2 (fun h1 => ?_) (fun h1 => ?_)
        · have h2 : x / s = y / s := int_eq h1
          refine ⟨_, rfl, _, _, rfl, rfl, ⟨1, rfl, .inr ⟨rfl, h2⟩, s3⟩, ?_⟩
          show ((1 : Int) - ((0 : Int) + 1)).toNat < ((1 : Int) - 0).toNat
          decide
        · have h2 : ¬ x / s = y / s := int_ne h1
          rw [if_neg h2] at k
          refine ⟨_, rfl, _, rfl, _, rfl, b, _, rfl, SqL.of hb3, fun z hz => k _ _ (((s1.trans s2).trans s3).trans (same_upd hz)) ⟨z, rfl, ?_⟩⟩
          rw [upd_same]
          rfl
      · refine iteF ?_
        refine iteF ?_
        rw [if_pos he] at k
        refine ⟨_, rfl, _, rfl, _, rfl, b, _, rfl, SqL.of hb3, fun z hz => k _ _ (((s1.trans s2).trans s3).trans (same_upd hz)) ⟨z, rfl, ?_⟩⟩
        rw [upd_same]
        rfl
    · show Mono _
      (repeat first | exact MonoE.var | exact MonoE.c | exact MonoR.i0 | exact MonoR.i | exact MonoR.eq | exact MonoR.ne | exact MonoR.ix | exact MonoL.len | exact MonoL.min2 | exact MonoA.nil | apply Mono.test | apply Mono.and | apply MonoE.cb | apply MonoE.op | apply MonoA.cons | apply MonoE.bits | apply MonoE.un)
theorem op_fdivN {X : Cx} : OpR X (binaryOp .FloorDiv) (L2.rI (fun _ j => j ≠ 0 ∧ j.natAbs.log2 < 9000) fun i j => .int (Int.fdiv i j)) := opI fun i j _ _ _ _ _ hc q => by
  exact floordiv_int hc.1 q (.inl (PyProof.noPylong_of_log2 hc.2))
theorem fdiv_few {a b : Int} : (Int.fdiv a b).natAbs ≤ a.natAbs := by
  rcases Int.lt_or_le b 0 with h | h
  · have e : Int.fdiv a b = Int.fdiv (-a) (-b) := (Int.neg_fdiv_neg a b).symm
    rw [e, Int.fdiv_eq_ediv_of_nonneg _ (by omega)]
    have := Int.natAbs_ediv_le_natAbs (-a) (-b)
    omega
  · rw [Int.fdiv_eq_ediv_of_nonneg _ h]
    exact Int.natAbs_ediv_le_natAbs a b
theorem wide_far {G W : Int} {n m : Nat} (hG : G.natAbs < 2 ^ m) (hn : n + 10 ≤ m) (hW : (2 ^ (m + 1) : Nat) ≤ W.toNat) : G - W ≤ -(1001 * ((2 ^ n : Nat) : Int)) ∧ 1001 * ((2 ^ n : Nat) : Int) ≤ G + W := by
  have h1 : 2 ^ n * 1024 ≤ 2 ^ m := by
    rw [show 1024 = 2 ^ 10 from rfl, ← Nat.pow_add]
    exact pow2_mono hn
  have h2 : 2 ^ (m + 1) = 2 ^ m * 2 := Nat.pow_succ ..
  rw [h2] at hW
  generalize 2 ^ m = M at *
  generalize 2 ^ n = N at *
  lia
theorem gw_few {G : Int} {W m : Nat} (hG : G.natAbs < 2 ^ m) (hW : W < 2 ^ (m + 2)) : (G - (W : Int)).natAbs < 2 ^ (m + 3) ∧ (G + (W : Int)).natAbs < 2 ^ (m + 3) := by
  have h2 : 2 ^ (m + 2) = 2 ^ m * 4 := Nat.pow_add ..
  have h3 : 2 ^ (m + 3) = 2 ^ m * 8 := Nat.pow_add ..
  rw [h2] at hW
  rw [h3]
  generalize 2 ^ m = M at *
  omega
theorem near_sz {l n k : Nat} (h1 : l ≤ 4) (h2 : n ≤ 1500) (e : k = l + 1) : 10 + k * (n + 10 + 1) ≤ 7600 ∧ 10 + 8 * (n + 10 + 1) ≤ 10000000 ∧ k ≤ 8 := by
  subst e
  have : (l + 1) * (n + 10 + 1) ≤ 5 * 1511 := Nat.mul_le_mul (by lia) (by lia)
  lia
theorem two_pn (n : Nat) : ((2 : Int) ^ n).natAbs < 2 ^ (n + 1) := by
  rw [show (2 : Int) ^ n = ((2 ^ n : Nat) : Int) by push_cast; rfl]
  exact two_few (Nat.lt_succ_self n)
theorem near_lg {u1 u2 : Int} (h1 : u1.natAbs < 2 ^ 7600) (h2 : u2.natAbs < 2 ^ 7600) (hne : u1 - u2 ≠ 0) : u1.natAbs < 2 ^ 7600 ∧ (u1 - u2).natAbs.log2 < 9000 := by
  have hdf : (u1 - u2).natAbs < 2 ^ 7601 := by
    have := add_lt2 h1 (show (-u2).natAbs < 2 ^ 7600 by rw [Int.natAbs_neg]; exact h2)
    rwa [← Int.sub_eq_add_neg] at this
  exact ⟨h1, Nat.lt_of_lt_of_le ((Nat.log2_lt (fun z => hne (Int.natAbs_eq_zero.mp z))).mpr hdf) (by decide)⟩
theorem near_sh {z : Int} {n k : Nat} (h : Builtin.Int.intBits z ≤ n + k) (hn : n ≤ 1500) (hk : k ≤ 100) : (0 : Int) ≤ (n : Int) ∧ ((Builtin.Int.intBits z : Nat) : Int) + (n : Int) ≤ 2 ^ 27 := by lia
theorem near_sh2 {z : Int} {n : Nat} (h : Builtin.Int.intBits z ≤ 7600) (hn : n ≤ 1500) : (0 : Int) ≤ (n : Int) ∧ ((Builtin.Int.intBits z : Nat) : Int) + (n : Int) ≤ 2 ^ 27 := by lia
theorem near_g {low u1 d : Int} {n m : Nat} (h1 : low.natAbs < 2 ^ (n + 10)) (h2 : u1.natAbs < 2 ^ 7600) (hn : n ≤ 1500) (hm : m = 9200) : (low * 2 ^ n + Int.fdiv (u1 * 2 ^ n) d).natAbs < 2 ^ m := by
  have g1 := lt_up (mul_lt2 h1 (two_pn n)) (show n + 10 + (n + 1) ≤ m - 1 by lia)
  have g2 := lt_up (mul_lt2 h2 (two_pn n)) (show 7600 + (n + 1) ≤ m - 1 by lia)
  exact lt_up (add_lt2 g1 (Nat.lt_of_le_of_lt fdiv_few g2)) (by lia)
noncomputable def sp_nearer_root (K : PySem.W.Frag) : Sp := fun vs H Q _ => ∃ (k : Nat) (p : Addr) (c : List Int) (L : List Ent) (low : Int) (n : Nat), vs = [.int k, .ref p, .int low, .int n] ∧ ChainOk K H p c L ∧ k < Root.places c ∧ At c k low ((2 ^ n : Nat) : Int) ∧ low.natAbs < 2 ^ (n + 10) ∧ (low + 1).natAbs < 2 ^ (n + 10) ∧ 64 ≤ n ∧ n ≤ 1500 ∧
  ∀ (H' : Hp) (r : Int), Same H H' → At c k r ((2 ^ (n + n) : Nat) : Int) → Q (.int r) H'
theorem sc_nearer_root : FnScope ["k", "chain", "low", "bits", "first", "second", "guess", "width"] ["k", "chain", "low", "bits"] (defScope s_nearer_root) := ⟨rfl, rfl, rfl, by decide +kernel, rfl, by decide +kernel, by decide +kernel⟩
theorem ok_nearer_root {P : Program} {w : World} {K : PySem.W.Frag} {mg : Str → Option Value} {base : Heap} {f : Addr} {fd : FuncData} (F : Fun K "nearer_root" "nearer_root" s_nearer_root f fd) (O : Own mg) (C_scaled_value : Cal P w K mg base 1 "scaled_value" ["f", "top", "bottom"] (sp_scaled_value K)) (C_is_root_below : Cal P w K mg base 2 "is_root_below" ["k", "chain", "number", "bits"] (sp_is_root_below K)) (C_root_between : Cal P w K mg base 3 "root_between" ["k", "chain", "low", "high", "bits"] (sp_root_between K)) :
    FnOk P w K mg base CX0 4 f fd ["k", "chain", "low", "bits"] (sp_nearer_root K) := by
  refine F.ok sc_nearer_root (fun vs H Q E h => ?_) (fun cdv A outer s H vs Q E hr h => ?_)
  · obtain ⟨k, p, c, L, low, n, rfl, _⟩ := h
    rfl
  · obtain ⟨kk, p, c, L, low, n, rfl, hC, hk, hA, hlo1, hlo2, hn1, hn2, k⟩ := h
    refine ⟨_, (pss_cons (ps_set (i := 4) sc_nearer_root.nd rfl (by first | exact Or.inl rfl | exact Or.inr rfl) (pe_cal C_scaled_value (hr.mono (by decide)) (by rfl) (pa_cons (pe_ix (ix_listK (K := K) rfl) (pv 1) pe_int (fun _ _ => rfl)) (pa_cons (pv 2) (pa_cons (pe_op op_shlW pe_int (pv 3)) pa_nil)))))
      (pss_cons (ps_set (i := 5) sc_nearer_root.nd rfl (by first | exact Or.inl rfl | exact Or.inr rfl) (pe_cal C_scaled_value (hr.mono (by decide)) (by rfl) (pa_cons (pe_ix (ix_listK (K := K) rfl) (pv 1) pe_int (fun _ _ => rfl)) (pa_cons (pe_op op_add (pv 2) pe_int) (pa_cons (pe_op op_shlW pe_int (pv 3)) pa_nil)))))
      (pss_cons (ps_set (i := 6) sc_nearer_root.nd rfl (by first | exact Or.inl rfl | exact Or.inr rfl) (pe_op op_add (pe_op op_shlW (pv 2) (pv 3)) (pe_op op_fdivN (pe_op op_shlW (pv 4) (pv 3)) (pe_op op_sub (pv 4) (pv 5)))))
      (pss_cons (ps_set (i := 7) sc_nearer_root.nd rfl (by first | exact Or.inl rfl | exact Or.inr rfl) pe_int)
      (pss_cons (ps_while PassesOwn.never (PW.pt (pw_or (pt_val (pe_cal C_is_root_below (hr.mono (by decide)) (by rfl) (pa_cons (pv 0) (pa_cons (pv 1) (pa_cons (pe_op op_sub (pv 6) (pv 7)) (pa_cons (pe_op op_mul pe_int (pv 3)) pa_nil)))))) (pw_or1 (pt_not (pt_val (pe_cal C_is_root_below (hr.mono (by decide)) (by rfl) (pa_cons (pv 0) (pa_cons (pv 1) (pa_cons (pe_op op_add (pv 6) (pv 7)) (pa_cons (pe_op op_mul pe_int (pv 3)) pa_nil)))))))))) (pss_one (ps_set (i := 7) sc_nearer_root.nd rfl (by first | exact Or.inl rfl | exact Or.inr rfl) (pe_op op_mul pe_int (pv 7)))))
      (pss_one (ps_ret (pe_cal C_root_between (hr.mono (by decide)) (by rfl) (pa_cons (pv 0) (pa_cons (pv 1) (pa_cons (pe_op op_sub (pv 6) (pv 7)) (pa_cons (pe_op op_add (pv 6) (pv 7)) (pa_cons (pe_op op_mul pe_int (pv 3)) pa_nil))))))))))))), ?_⟩
    have hF := hC.fd
    obtain ⟨f1, f2, f3⟩ := ok_field hF.ok
    obtain ⟨e0, L0, rfl, he0⟩ : ∃ (e0 : Ent) (L0 : List Ent), L = e0 :: L0 ∧ e0.2 = c ++ [1] := by
      cases L with
      | nil => exact absurd hC.hd (by simp)
      | cons e0 L0 => exact ⟨e0, L0, rfl, by simpa using hC.hd⟩
    have hent := hC.ent e0 (by simp)
    rw [he0] at hent
    have hfc : FewI 10 (c ++ [1]) := fun z hz => by
      rcases List.mem_append.mp hz with h1 | h1
      · exact Nat.lt_of_le_of_lt (f3 z h1) (by decide)
      · have : z = 1 := by simpa using h1
        rw [this]; decide
    have hcl : (c ++ [1]).length = c.length + 1 := by rw [List.length_append]; rfl
    have e2 := shl_one n
    have hB2 : (((2 ^ n : Nat) : Int)).natAbs < 2 ^ (n + 10) := two_few (Nat.lt_add_of_pos_right (by decide))
    have hsh := one_shl (Nat.le_trans hn2 (by decide))
    obtain ⟨hsz, hsz2, hcl8⟩ := near_sz f2 hn2 hcl
    refine ⟨_, rfl, p, _, _, _, rfl, rfl, hC.at_, at_ix (j := 0) rfl rfl, _, rfl, _, rfl, _, _, rfl, rfl, hsh, ?_⟩
    refine ⟨_, c ++ [1], low, ((2 ^ n : Nat) : Int), 10, n + 10, ?_, ⟨e0.1, rfl, hent⟩, hcl8, hfc, hlo1, hB2, hsz2, fun H1 s1 hv1 => ?_⟩
    · rw [← e2]
      rfl
    have hC1 := hC.same s1
    refine ⟨_, rfl, p, _, _, _, rfl, rfl, hC1.at_, at_ix (j := 0) rfl rfl, _, rfl, _, _, rfl, rfl, _, rfl, _, _, rfl, rfl, hsh, ?_⟩
    refine ⟨_, c ++ [1], low + 1, ((2 ^ n : Nat) : Int), 10, n + 10, ?_, ⟨e0.1, rfl, s1.seq hent⟩, hcl8, hfc, hlo2, hB2, hsz2, fun H2 s2 hv2 => ?_⟩
    · rw [← e2]
      rfl
    have hne := svI_apart f1 (show 1 ≤ n by lia) low
    generalize svI (c ++ [1]) low ((2 ^ n : Nat) : Int) = u1 at *
    generalize svI (c ++ [1]) (low + 1) ((2 ^ n : Nat) : Int) = u2 at *
    obtain ⟨hv1', hlg⟩ := near_lg (lt_up hv1 hsz) (lt_up hv2 hsz) hne
    have e0n : ((n : Int)).toNat = n := Int.toNat_natCast n
    have hpn := two_pn n
    refine ⟨_, rfl, _, rfl, _, _, rfl, rfl, near_sh (bits_few hlo1) hn2 (by decide), _, rfl, _, rfl, _, _, rfl, rfl, near_sh2 (bits_few hv1') hn2, _, rfl, _, rfl, _, _, rfl, rfl, _, _, rfl, rfl, ⟨hne, hlg⟩, _, _, rfl, rfl, ?_⟩
    rw [e0n]
    dsimp only
    obtain ⟨m, hm⟩ : ∃ m : Nat, m = 9200 := ⟨_, rfl⟩
    have hG : (low * 2 ^ n + Int.fdiv (u1 * 2 ^ n) (u1 - u2)).natAbs < 2 ^ m := near_g hlo1 hv1' hn2 hm
    generalize low * 2 ^ n + Int.fdiv (u1 * 2 ^ n) (u1 - u2) = G at *
    have e2n : (2 : Int) * (n : Int) = ((n + n : Nat) : Int) := by lia
    have s12 := s1.trans s2
    clear hv1 hv2 hv1' hlg hpn hsz hsz2 hB2 hfc
    refine while_by (fun σ H' => ∃ (W : Nat), σ = [some (.int kk), some (.ref p), some (.int low), some (.int n), some (.int u1), some (.int u2), some (.int G), some (.int W)] ∧ 1 ≤ W ∧ W < 2 ^ (m + 2) ∧ Same H2 H')
      (fun σ H' => match σ with | [_, _, _, _, _, _, _, some (.int W)] => 2 ^ (m + 2) - W.toNat | _ => 0)
      ⟨1, rfl, by decide, Nat.one_lt_two_pow (by lia), Same.refl _⟩ ?_ ?_
    · rintro σ H3 ⟨W, rfl, hW1, hW2, s3⟩
      have hC3 := hC.same (s12.trans s3)
      obtain ⟨hm1, hm2⟩ := gw_few hG hW2
      have hp2 : 2 ^ (m + 2) = 2 ^ (m + 1) * 2 := Nat.pow_succ ..
      have hmu : W < 2 ^ (m + 1) → 2 ^ (m + 2) - (2 * (W : Int)).toNat < 2 ^ (m + 2) - ((W : Int)).toNat := fun h => by
        rw [hp2]
        generalize 2 ^ (m + 1) = M at *
        lia
      have hfar := fun h : ¬ W < 2 ^ (m + 1) => wide_far (G := G) (W := (W : Int)) (n := n + n) hG (by lia) (by rw [Int.toNat_natCast]; lia)
      refine ⟨_, rfl, _, rfl, _, rfl, _, rfl, _, _, rfl, rfl, _, rfl, _, _, rfl, rfl, .inl ⟨by decide, by decide⟩, ?_⟩
      refine ⟨kk, p, c, e0 :: L0, G - (W : Int), n + n, m + 3, ?_, hC3, hm1, by lia, by lia, fun H4 b1 s4 hb1 => ?_⟩
      · rw [← e2n]
        rfl
      refine ⟨_, rfl, ?_⟩
      cases b1 with
      | true =>
        refine iteT ?_
        refine iteT ?_
        have hW3 : W < 2 ^ (m + 1) := by
          false_or_by_contra
          rename_i z
          exact hb1.mp rfl (wide_lo hF (hfar z).1)
        refine ⟨_, rfl, _, _, rfl, rfl, .inl ⟨by decide, by decide⟩, ⟨2 * W, ?_, by lia, by lia, s3.trans s4⟩, hmu hW3⟩
        rw [Int.natCast_mul]
        rfl
      | false =>
        refine iteF ?_
        have hlo : Lo c kk (((G - (W : Int) : Int) : Rat) / (((2 ^ (n + n) : Nat) : Int) : Rat)) := by
          false_or_by_contra
          rename_i z
          exact Bool.noConfusion (hb1.mpr z)
        refine ⟨_, rfl, _, rfl, _, rfl, _, rfl, _, _, rfl, rfl, _, rfl, _, _, rfl, rfl, .inl ⟨by decide, by decide⟩, ?_⟩
        refine ⟨kk, p, c, e0 :: L0, G + (W : Int), n + n, m + 3, ?_, hC3.same s4, hm2, by lia, by lia, fun H5 b2 s5 hb2 => ?_⟩
        · rw [← e2n]
          rfl
        refine ⟨_, rfl, ?_⟩
        cases b2 with
        | false =>
          refine iteT ?_
          have hW3 : W < 2 ^ (m + 1) := by
            false_or_by_contra
            rename_i z
            exact Bool.noConfusion (hb2.mpr (wide_hi hF hk (hfar z).2))
          refine ⟨_, rfl, _, _, rfl, rfl, .inl ⟨by decide, by decide⟩, ⟨2 * W, ?_, by lia, by lia, (s3.trans s4).trans s5⟩, hmu hW3⟩
          rw [Int.natCast_mul]
          rfl
        | true =>
          refine iteF ?_
          have hhi := hb2.mp rfl
          refine ⟨_, rfl, _, rfl, _, rfl, _, rfl, _, _, rfl, rfl, _, rfl, _, rfl, _, _, rfl, rfl, _, rfl, _, _, rfl, rfl, .inl ⟨by decide, by decide⟩, ?_⟩
          refine ⟨kk, p, c, e0 :: L0, G - (W : Int), G + (W : Int), n + n, m + 3, ?_, (hC3.same s4).same s5, hlo, hhi, hm1, hm2, by lia, by lia, fun H6 r s6 k1 k2 k3 k4 => ?_⟩
          · rw [← e2n]
            rfl
          exact k _ r (s12.trans (((s3.trans s4).trans s5).trans s6)) (At.of hF hk k1 k2)
    · show Mono _
      (repeat first | exact MonoE.var | exact MonoE.c | exact MonoR.i0 | exact MonoR.i | exact MonoA.nil | exact is_root_below_mono | apply Mono.or | apply Mono.not | apply Mono.test | apply MonoE.call | apply MonoA.cons | apply MonoE.op)
theorem cut_in (a : Int) (l : List Int) (z : Int) : cutV ((a :: l ++ [z]).map V.int) (some 1) (some (-1)) = l.map V.int := by
  unfold cutV
  have e : ((a :: l ++ [z]).map V.int).length = l.length + 2 := by simp
  have e1 : HT.sIx (l.length + 2) (l.length + 2) (some (-1)) = l.length + 1 := by
    unfold HT.sIx
    dsimp only
    rw [if_pos (by decide)]
    lia
  have e2 : HT.sIx (l.length + 2) 0 (some 1) = 1 := by
    unfold HT.sIx
    dsimp only
    rw [if_neg (by decide)]
    lia
  rw [e, e1, e2, Nat.add_sub_cancel]
  show List.take l.length ((l ++ [z]).map V.int) = _
  rw [List.map_append]
  exact List.take_left' (by simp)
theorem flo_two (a a1 : Int) (l : List Int) (p low : Int) (n : Nat) (s : Int) : flo (a :: a1 :: l) p low n s = (svI (a :: a1 :: l) low ((2 ^ n : Nat) : Int) + s * (slI 1 (a1 :: l) * ((2 ^ n : Nat) : Int) ^ l.length)) / (p * ((2 ^ n : Nat) : Int) ^ (l.length + 1)) := rfl
theorem flo_scale {p : Int} (hp : 0 < p) (n m : Nat) : 0 < p * ((2 ^ n : Nat) : Int) ^ m := by
  rw [pow_two_mul]
  have := Nat.two_pow_pos (n * m)
  exact Int.mul_pos hp (by lia)
theorem flo_ne {c : List Int} (hF : Fd c) {k : Nat} {low : Int} {n b : Nat} (h : At c k low ((2 ^ n : Nat) : Int)) {A : List Int} {p : Int} (hp : 0 < p) (hA : A.length = c.length) (hb : FewI b (A ++ [p])) (hnz : ((A.drop 1).any fun (z : Int) => z != 0) = true) (hne : flo A p low n (-1) ≠ flo A p low n 1) : n < 4 * b + 500 := by
  have h2 := hF.two
  match A, hA, hb, hnz, hne with
  | [], hA, _, _, _ => simp at hA; lia
  | [_], hA, _, _, _ => simp at hA; lia
  | a :: a1 :: l, hA, hb, hnz, hne =>
    false_or_by_contra
    rename_i hn
    rw [flo_two, flo_two] at hne
    have hsc := flo_scale hp n (l.length + 1)
    have hG : 0 ≤ slI 1 (a1 :: l) * ((2 ^ n : Nat) : Int) ^ l.length := by
      have h5 := slI_nonneg (a1 :: l) 1
      rw [pow_two_mul]
      exact Int.mul_nonneg h5 (Int.natCast_nonneg _)
    obtain ⟨z, hz1, hz2⟩ := List.any_eq_true.mp hnz
    refine fl_ends hF h rfl (b := b) (by lia) (a := a) (a1 := a1) (l := l) (p := p) (t := (svI (a :: a1 :: l) low ((2 ^ n : Nat) : Int) + 1 * (slI 1 (a1 :: l) * ((2 ^ n : Nat) : Int) ^ l.length)) / (p * ((2 ^ n : Nat) : Int) ^ (l.length + 1))) (by simpa using hA) (fun z hz => Nat.le_of_lt (hb.left z hz)) ⟨z, hz1, by simpa using hz2⟩ ?_ ?_
    · have := Int.ediv_mul_le (svI (a :: a1 :: l) low ((2 ^ n : Nat) : Int) + 1 * (slI 1 (a1 :: l) * ((2 ^ n : Nat) : Int) ^ l.length)) (b := p * ((2 ^ n : Nat) : Int) ^ (l.length + 1)) (by lia)
      lia
    · generalize svI (a :: a1 :: l) low ((2 ^ n : Nat) : Int) = M at *
      generalize slI 1 (a1 :: l) * ((2 ^ n : Nat) : Int) ^ l.length = G at *
      generalize p * ((2 ^ n : Nat) : Int) ^ (l.length + 1) = S at *
      have k1 : (M + -1 * G) / S ≤ (M + 1 * G) / S := Int.ediv_le_ediv hsc (by lia)
      have k2 : (M + -1 * G) / S + 1 ≤ (M + 1 * G) / S := by lia
      have k3 := Int.lt_ediv_add_one_mul_self (M + -1 * G) hsc
      have k4 : ((M + -1 * G) / S + 1) * S ≤ (M + 1 * G) / S * S := Int.mul_le_mul_of_nonneg_right k2 (by lia)
      lia
theorem flo_eq {c : List Int} (hF : Fd c) {k : Nat} (hk : k < Root.places c) {low : Int} {n : Nat} (h : At c k low ((2 ^ n : Nat) : Int)) {A : List Int} {p : Int} (hp : 0 < p) (hA : A.length = c.length) (he : flo A p low n (-1) = flo A p low n 1) : flo A p low n (-1) = Root.floorOf c (dv p A) k := by
  have h2 := hF.two
  match A, hA, he with
  | [], hA, _ => simp at hA; lia
  | [_], hA, _ => simp at hA; lia
  | a :: a1 :: l, hA, he =>
    have hsc := flo_scale hp n (l.length + 1)
    refine Fl.unique hF (fl_of h hp ?_ ?_) (floor_ok hF hk (by rw [dv_length]; exact hA))
    · rw [flo_two]
      have := Int.ediv_mul_le (svI (a :: a1 :: l) low ((2 ^ n : Nat) : Int) + -1 * (slI 1 (a1 :: l) * ((2 ^ n : Nat) : Int) ^ l.length)) (b := p * ((2 ^ n : Nat) : Int) ^ (l.length + 1)) (by lia)
      lia
    · rw [he, flo_two]
      have := Int.lt_ediv_add_one_mul_self (svI (a :: a1 :: l) low ((2 ^ n : Nat) : Int) + 1 * (slI 1 (a1 :: l) * ((2 ^ n : Nat) : Int) ^ l.length)) hsc
      lia
theorem At.few {c : List Int} {k : Nat} {low : Int} {n : Nat} (h : At c k low ((2 ^ n : Nat) : Int)) : low.natAbs < 2 ^ (n + 10) ∧ (low + 1).natAbs < 2 ^ (n + 10) := by
  have h1 := h.far
  have h2 := h.near
  have e : 2 ^ (n + 10) = 2 ^ n * 1024 := Nat.pow_add ..
  have := Nat.two_pow_pos n
  rw [e]
  generalize 2 ^ n = M at *
  omega
noncomputable def fnd (A : List Int) (p low : Int) (n : Nat) : List Int := if vbt A low n (-1) / vbs A p n = vbt A low n 1 / vbs A p n then [vbt A low n (-1) / vbs A p n] else []
theorem fnd_ne {c : List Int} (hF : Fd c) {k : Nat} {low : Int} {n b : Nat} (h : At c k low ((2 ^ n : Nat) : Int)) {A : List Int} {p : Int} (hp : 0 < p) (hA : A.length = c.length) (hb : FewI b (A ++ [p])) (hnz : ((A.drop 1).any fun (z : Int) => z != 0) = true) (hne : (fnd A p low n).length < 1) : n < 4 * b + 500 := by
  refine flo_ne hF h hp hA hb hnz fun z => ?_
  unfold fnd at hne
  rw [if_pos (show vbt A low n (-1) / vbs A p n = vbt A low n 1 / vbs A p n from z)] at hne
  exact absurd hne (by simp)
theorem fnd_eq {c : List Int} (hF : Fd c) {k : Nat} (hk : k < Root.places c) {low : Int} {n : Nat} (h : At c k low ((2 ^ n : Nat) : Int)) {A : List Int} {p : Int} (hp : 0 < p) (hA : A.length = c.length) (he : ¬ (fnd A p low n).length < 1) : fnd A p low n = [Root.floorOf c (dv p A) k] := by
  unfold fnd at he ⊢
  by_cases z : vbt A low n (-1) / vbs A p n = vbt A low n 1 / vbs A p n
  · rw [if_pos z]
    congr 1
    exact flo_eq hF hk h hp hA z
  · rw [if_neg z] at he
    exact absurd (by simp) he
noncomputable def sp_parts_at (K : PySem.W.Frag) : Sp := fun vs H Q _ => ∃ (kk : Nat) (v u : V) (c A : List Int) (p : Int) (b : Nat), vs = [.int kk, .int 1, v, u] ∧ IL K H v c ∧ IL K H u (A ++ [p]) ∧ refusal c = 0 ∧ kk < Root.places c ∧ A.length = c.length ∧ 0 < p ∧ FewI b (A ++ [p]) ∧ b ≤ 180 ∧
  ∀ (H' : Hp) (y : V), Same H H' → OL H' y [Root.floorOf c (dv p A) kk] → Q y H'
theorem sc_parts_at : FnScope ["k", "n", "field", "a", "chain", "bits", "low", "found"] ["k", "n", "field", "a"] (defScope s_parts_at) := ⟨rfl, rfl, rfl, by decide +kernel, rfl, by decide +kernel, by decide +kernel⟩
theorem ok_parts_at {P : Program} {w : World} {K : PySem.W.Frag} {mg : Str → Option Value} {base : Heap} {f : Addr} {fd : FuncData} (F : Fun K "parts_at" "parts_at" s_parts_at f fd) (O : Own mg) (c_FIRST_BITS : Kst mg "FIRST_BITS" 64) (c_ROOT_BOUND : Kst mg "ROOT_BOUND" 1001) (C_fraction_parts : Cal P w K mg base 1 "fraction_parts" ["n", "top", "bottom"] sp_fraction_parts) (C_sturm_chain : Cal P w K mg base 5 "sturm_chain" ["f"] (sp_sturm_chain K)) (C_polynomial_of : Cal P w K mg base 1 "polynomial_of" ["field"] (sp_polynomial_of K)) (C_root_between : Cal P w K mg base 3 "root_between" ["k", "chain", "low", "high", "bits"] (sp_root_between K)) (C_value_bounds : Cal P w K mg base 2 "value_bounds" ["a", "low", "bits"] (sp_value_bounds K)) (C_parts_within : Cal P w K mg base 2 "parts_within" ["n", "bounds"] (sp_parts_within K)) (C_nearer_root : Cal P w K mg base 4 "nearer_root" ["k", "chain", "low", "bits"] (sp_nearer_root K)) :
    FnOk P w K mg base CX0 6 f fd ["k", "n", "field", "a"] (sp_parts_at K) := by
  refine F.ok sc_parts_at (fun vs H Q E h => ?_) (fun cdv A outer s H vs Q E hr h => ?_)
  · obtain ⟨kk, v, u, c, A, p, b, rfl, _⟩ := h
    rfl
  · obtain ⟨kk, v, u, c, A, p, b, rfl, ⟨ca, rfl, hC⟩, ⟨na, rfl, hN⟩, hc0, hk, hl, hp, hb, hbb, k⟩ := h
    obtain ⟨f1, f2, f3⟩ := ok_field hc0
    refine ⟨_, (pss_cons (ps_if (pt_not (pt_val (pe_callB (cr_anyIK (K := K) rfl rfl) (by rfl) O.any_ bt_any (pa_cons (pe_slice (sl_listK (K := K) rfl) (pv 3) (po_some pe_int) (po_some (pe_un un_neg pe_int))) pa_nil)))) (pss_one (ps_ret (pe_cal C_fraction_parts (hr.mono (by decide)) (by rfl) (pa_cons (pv 1) (pa_cons (pe_ix (ix_listK (K := K) rfl) (pv 3) pe_int (fun _ _ => rfl)) (pa_cons (pe_ix (ix_listK (K := K) rfl) (pv 3) (pe_un un_neg pe_int) (fun _ _ => rfl)) pa_nil)))))) pss_nil)
      (pss_cons (ps_set (i := 4) sc_parts_at.nd rfl (by first | exact Or.inl rfl | exact Or.inr rfl) (pe_cal C_sturm_chain (hr.mono (by decide)) (by rfl) (pa_cons (pe_cal C_polynomial_of (hr.mono (by decide)) (by rfl) (pa_cons (pv 2) pa_nil)) pa_nil)))
      (pss_cons (ps_set (i := 5) sc_parts_at.nd rfl (by first | exact Or.inl rfl | exact Or.inr rfl) (pe_globK (by rfl) c_FIRST_BITS))
      (pss_cons (ps_set (i := 6) sc_parts_at.nd rfl (by first | exact Or.inl rfl | exact Or.inr rfl) (pe_cal C_root_between (hr.mono (by decide)) (by rfl) (pa_cons (pv 0) (pa_cons (pv 4) (pa_cons (pe_op op_shlW (pe_un un_neg (pe_globK (by rfl) c_ROOT_BOUND)) (pv 5)) (pa_cons (pe_op op_shlW (pe_globK (by rfl) c_ROOT_BOUND) (pv 5)) (pa_cons (pv 5) pa_nil)))))))
      (pss_cons (ps_set (i := 7) sc_parts_at.nd rfl (by first | exact Or.inl rfl | exact Or.inr rfl) (pe_cal C_parts_within (hr.mono (by decide)) (by rfl) (pa_cons (pv 1) (pa_cons (pe_cal C_value_bounds (hr.mono (by decide)) (by rfl) (pa_cons (pv 3) (pa_cons (pv 6) (pa_cons (pv 5) pa_nil)))) pa_nil))))
      (pss_cons (ps_while PassesOwn.never (pt_cmpR op_lt (pe_callB (call_lenK (K := K) rfl) (by rfl) O.len_ bt_len (pa_cons (pv 7) pa_nil)) (pv 1) (nomark _)) (pss_cons (ps_set (i := 6) sc_parts_at.nd rfl (by first | exact Or.inl rfl | exact Or.inr rfl) (pe_cal C_nearer_root (hr.mono (by decide)) (by rfl) (pa_cons (pv 0) (pa_cons (pv 4) (pa_cons (pv 6) (pa_cons (pv 5) pa_nil))))))
      (pss_cons (ps_set (i := 5) sc_parts_at.nd rfl (by first | exact Or.inl rfl | exact Or.inr rfl) (pe_op op_mul pe_int (pv 5)))
      (pss_one (ps_set (i := 7) sc_parts_at.nd rfl (by first | exact Or.inl rfl | exact Or.inr rfl) (pe_cal C_parts_within (hr.mono (by decide)) (by rfl) (pa_cons (pv 1) (pa_cons (pe_cal C_value_bounds (hr.mono (by decide)) (by rfl) (pa_cons (pv 3) (pa_cons (pv 6) (pa_cons (pv 5) pa_nil)))) pa_nil))))))))
      (pss_one (ps_ret (pv 7))))))))), ?_⟩
    obtain ⟨a0, l0, rfl⟩ : ∃ a0 l0, A = a0 :: l0 := by
      cases A with
      | nil => simp at hl; lia
      | cons a l => exact ⟨a, l, rfl⟩
    refine ⟨_, rfl, _, rfl, _, rfl, _, rfl, na, _, rfl, hN, fun x hx => ?_⟩
    rw [cut_in]
    have s1 : Same H (upd H x (.lst (l0.map V.int))) := same_upd hx
    refine ⟨x, l0, rfl, SqL.of upd_same, ?_⟩
    have hfr := frac_dv hp (a0 :: l0)
    have hdr : (a0 :: l0).drop 1 = l0 := rfl
    rw [hdr] at hfr
    generalize hany : (l0.any fun (z : Int) => z != 0) = bb
    rw [hany] at hfr
    refine ⟨_, rfl, ?_⟩
    cases bb with
    | false =>
      refine iteT ?_
      refine ⟨_, rfl, _, rfl, na, _, _, _, rfl, rfl, s1.seq hN, at_ix (j := 0) rfl rfl, _, rfl, _, rfl, na, _, _, _, rfl, rfl, s1.seq hN, at_end _ _, a0, p, rfl, hp, ?_, fun H2 y2 s2 hy2 => ?_⟩
      · exact log_few (lt_up hb.last (show b ≤ 9000 by lia)) (by decide) hp
      · refine k _ _ (s1.trans s2) ?_
        rw [floor_frac hp a0 l0 kk (by rw [hfr]; rfl)]
        exact hy2
    | true =>
      refine iteF ?_
      have hF : Fd c := ⟨hc0, by
        have : 1 ≤ l0.length := by
          cases l0 with
          | nil => simp at hany
          | cons _ _ => simp
        simp at hl
        lia⟩
      refine ⟨_, rfl, _, c, rfl, ⟨ca, rfl, s1.seq hC⟩, by lia, fun H2 u2 s2 hu2 => ?_⟩
      obtain ⟨pa, rfl, hpa⟩ := hu2
      refine ⟨_, c, rfl, ⟨pa, rfl, SqL.of hpa⟩, hc0, fun H3 q L s3 hq hL hrel hl8 hfw hhd => ?_⟩
      have hCh : ChainOk K H3 q c L := ⟨hF, SqL.of hq, hL, hrel, hl8, hfw, hhd⟩
      have s4 := (s1.trans s2).trans s3
      have p64 : ((2 ^ 64 : Nat) : Int) = 2 ^ 64 := by decide
      refine ⟨_, rfl, _, rfl, _, rfl, _, rfl, _, _, rfl, rfl, ⟨by decide, by decide⟩, _, rfl, _, _, rfl, rfl, ⟨by decide, by decide⟩, _, rfl, ?_⟩
      refine ⟨kk, q, c, L, -1001 * 2 ^ 64, 1001 * 2 ^ 64, 64, 75, rfl, hCh, ?_, ?_, by decide, by decide, by decide, by decide, fun H5 r s5 hr1 hr2 hr3 hr4 => ?_⟩
      · rw [div_whole]
        exact lo_far hF kk
      · rw [div_whole]
        exact hi_far hF hk
      have hAt : At c kk r ((2 ^ 64 : Nat) : Int) := ⟨by decide, hr1, hr2, by rw [p64]; exact hr3, by rw [p64]; exact hr4⟩
      have s6 := s4.trans s5
      refine ⟨_, rfl, _, rfl, _, rfl, _, rfl, _, a0 :: l0, p, r, 64, b, rfl, ⟨na, rfl, s6.seq hN⟩, by have := hF.two; lia, by lia, hp, hb, by lia, by decide, lt_up hAt.few.1 (by decide), fun H7 y7 s7 hy7 hs7 hg7 => ?_⟩
      refine ⟨_, _, _, _, rfl, hy7.il, hs7, hg7, fun H8 y8 s8' hy8 => ?_⟩
      obtain ⟨fl, rfl, hfl⟩ := hy8
      have hfl' : H8 fl = some (.lst ((fnd (a0 :: l0) p r 64).map V.int)) := hfl
      have s78 := s7.trans s8'
      refine while_by (fun σ H' => ∃ (low : Int) (n : Nat) (g : Addr), σ = [some (.int kk), some (.int 1), some (.ref ca), some (.ref na), some (.ref q), some (.int n), some (.int low), some (.ref g)] ∧ H' g = some (.lst ((fnd (a0 :: l0) p low n).map V.int)) ∧ At c kk low ((2 ^ n : Nat) : Int) ∧ 64 ≤ n ∧ n < 2 * (4 * b + 500) ∧ Same H5 H')
        (fun σ H' => match σ with | [_, _, _, _, _, some (.int n), _, _] => (2 * (4 * (b : Int) + 500) - n).toNat | _ => 0)
        ⟨r, 64, fl, rfl, hfl', hAt, by decide, by lia, s78⟩ ?_ ?_
      · rintro σ H8 ⟨low, n, g, rfl, hg, hA, hn1, hn2, s8⟩
        refine ⟨_, rfl, g, _, rfl, .inl (SqL.of hg), _, rfl, _, _, rfl, rfl, _, rfl, ?_⟩
        rw [List.length_map]
        refine ite2 (fun h1 => ?_) (fun h1 => ?_)
        · have hne : (fnd (a0 :: l0) p low n).length < 1 := by
            have := of_decide_eq_true h1
            lia
          have hn := fnd_ne hF hA hp hl hb hany hne
          have hCh8 := hCh.same (s5.trans s8)
          have e2n : (2 : Int) * (n : Int) = ((n + n : Nat) : Int) := by lia
          refine ⟨_, rfl, _, rfl, _, rfl, _, rfl, kk, q, c, L, low, n, rfl, hCh8, hk, hA, hA.few.1, hA.few.2, hn1, by lia, fun H9 r2 s9 hA2 => ?_⟩
          have s10 := s6.trans (s8.trans s9)
          refine ⟨_, rfl, _, _, rfl, rfl, .inl ⟨by decide, by decide⟩, _, rfl, _, rfl, _, rfl, _, rfl, ?_⟩
          refine ⟨_, a0 :: l0, p, r2, n + n, b, ?_, ⟨na, rfl, s10.seq hN⟩, by have := hF.two; lia, by lia, hp, hb, by lia, by lia, lt_up hA2.few.1 (by lia), fun H11 y11 s11 hy11 hs11 hg11 => ?_⟩
          · rw [← e2n]
            rfl
          refine ⟨_, _, _, _, rfl, hy11.il, hs11, hg11, fun H12 y12 s12 hy12 => ?_⟩
          obtain ⟨g2, rfl, hg2⟩ := hy12
          have hg2' : H12 g2 = some (.lst ((fnd (a0 :: l0) p r2 (n + n)).map V.int)) := hg2
          refine ⟨⟨r2, n + n, g2, ?_, hg2', hA2, by lia, by lia, ((s8.trans s9).trans s11).trans s12⟩, ?_⟩
          · rw [← e2n]
            rfl
          show (2 * (4 * (b : Int) + 500) - 2 * (n : Int)).toNat < (2 * (4 * (b : Int) + 500) - (n : Int)).toNat
          lia
        · have heq : ¬ (fnd (a0 :: l0) p low n).length < 1 := fun z => h1 (decide_eq_true (by lia))
          rw [fnd_eq hF hk hA hp hl heq] at hg
          exact ⟨_, rfl, k _ _ (s6.trans s8) ⟨g, rfl, hg⟩⟩
      · show Mono _
        (repeat first | exact MonoE.var | exact MonoE.c | exact MonoR.i0 | exact MonoR.i | exact MonoR.eq | exact MonoR.ne | exact MonoR.ix | exact MonoL.len | exact MonoA.nil | apply Mono.test | apply Mono.and | apply MonoE.cb | apply MonoE.op | apply MonoA.cons | apply MonoE.bits | apply MonoE.un)
noncomputable def sp_floor_at (K : PySem.W.Frag) : Sp := fun vs H Q _ => ∃ (kk : Nat) (v u : V) (c A : List Int) (p : Int) (b : Nat), vs = [.int kk, v, u] ∧ IL K H v c ∧ IL K H u (A ++ [p]) ∧ refusal c = 0 ∧ kk < Root.places c ∧ A.length = c.length ∧ 0 < p ∧ FewI b (A ++ [p]) ∧ b ≤ 180 ∧
  ∀ H' : Hp, Same H H' → Q (.int (Root.floorOf c (dv p A) kk)) H'
theorem sc_floor_at : FnScope ["k", "field", "a"] ["k", "field", "a"] (defScope s_floor_at) := ⟨rfl, rfl, rfl, by decide +kernel, rfl, by decide +kernel, by decide +kernel⟩
theorem ok_floor_at {P : Program} {w : World} {K : PySem.W.Frag} {mg : Str → Option Value} {base : Heap} {f : Addr} {fd : FuncData} (F : Fun K "floor_at" "floor_at" s_floor_at f fd) (O : Own mg) (C_parts_at : Cal P w K mg base 6 "parts_at" ["k", "n", "field", "a"] (sp_parts_at K)) :
    FnOk P w K mg base CX0 7 f fd ["k", "field", "a"] (sp_floor_at K) := by
  refine F.ok sc_floor_at (fun vs H Q E h => ?_) (fun cdv A outer s H vs Q E hr h => ?_)
  · obtain ⟨kk, v, u, c, A, p, b, rfl, _⟩ := h
    rfl
  · obtain ⟨kk, v, u, c, A, p, b, rfl, hC, hN, hc0, hk, hl, hp, hb, hbb, k⟩ := h
    refine ⟨_, (pss_one (ps_ret (pe_ix (ix_listK (K := K) rfl) (pe_cal C_parts_at (hr.mono (by decide)) (by rfl) (pa_cons (pv 0) (pa_cons pe_int (pa_cons (pv 1) (pa_cons (pv 2) pa_nil))))) pe_int (fun _ _ => rfl)))), ?_⟩
    refine ⟨_, rfl, _, rfl, _, rfl, kk, v, u, c, A, p, b, rfl, hC, hN, hc0, hk, hl, hp, hb, hbb, fun H1 y s1 hy => ?_⟩
    obtain ⟨g, rfl, hg⟩ := hy
    exact ⟨g, _, _, _, rfl, rfl, SqL.of hg, at_ix (j := 0) rfl rfl, k _ s1⟩
theorem sign_zero {c A : List Int} {p : Int} (hp : 0 < p) (hA : 1 ≤ A.length) (h : (A.any fun (z : Int) => z != 0) = false) (k : Nat) : Root.signIn c (dv p A) k = 0 := by
  have hz : ∀ z ∈ A, z = 0 := fun z hz => by
    have := List.any_eq_false.mp h z hz
    simpa using this
  have hfr : Root.isFraction (dv p A) = true := by
    rw [frac_dv hp]
    have : ((A.drop 1).any fun (z : Int) => z != 0) = false := List.any_eq_false.mpr fun z hz' => by
      have := hz z (List.mem_of_mem_drop hz')
      simpa using this
    rw [this]
    rfl
  unfold Root.signIn
  rw [if_pos hfr]
  obtain ⟨a, l, rfl⟩ : ∃ a l, A = a :: l := by
    cases A with
    | nil => simp at hA
    | cons a l => exact ⟨a, l, rfl⟩
  have ha := hz a (by simp)
  subst ha
  show Root.signOf (((0 : Int) : Rat) / (p : Rat)) = 0
  rw [Rat.intCast_zero, Rat.div_def, Rat.zero_mul]
  decide
noncomputable def sp_sign_at (K : PySem.W.Frag) : Sp := fun vs H Q _ => ∃ (kk : Nat) (v u : V) (c A : List Int) (p : Int) (b : Nat), vs = [.int kk, v, u] ∧ IL K H v c ∧ IL K H u (A ++ [p]) ∧ refusal c = 0 ∧ kk < Root.places c ∧ A.length = c.length ∧ 0 < p ∧ FewI b (A ++ [p]) ∧ b ≤ 180 ∧
  ∀ H' : Hp, Same H H' → Q (.int (Root.signIn c (dv p A) kk)) H'
theorem sc_sign_at : FnScope ["k", "field", "a"] ["k", "field", "a"] (defScope s_sign_at) := ⟨rfl, rfl, rfl, by decide +kernel, rfl, by decide +kernel, by decide +kernel⟩
theorem ok_sign_at {P : Program} {w : World} {K : PySem.W.Frag} {mg : Str → Option Value} {base : Heap} {f : Addr} {fd : FuncData} (F : Fun K "sign_at" "sign_at" s_sign_at f fd) (O : Own mg) (C_is_zero : Cal P w K mg base 1 "is_zero" ["a"] (sp_is_zero K)) (C_floor_at : Cal P w K mg base 7 "floor_at" ["k", "field", "a"] (sp_floor_at K)) :
    FnOk P w K mg base CX0 8 f fd ["k", "field", "a"] (sp_sign_at K) := by
  refine F.ok sc_sign_at (fun vs H Q E h => ?_) (fun cdv A outer s H vs Q E hr h => ?_)
  · obtain ⟨kk, v, u, c, A, p, b, rfl, _⟩ := h
    rfl
  · obtain ⟨kk, v, u, c, A, p, b, rfl, ⟨ca, rfl, hC⟩, ⟨na, rfl, hN⟩, hc0, hk, hl, hp, hb, hbb, k⟩ := h
    obtain ⟨f1, f2, f3⟩ := ok_field hc0
    refine ⟨_, (pss_cons (ps_if (pt_val (pe_cal C_is_zero (hr.mono (by decide)) (by rfl) (pa_cons (pv 2) pa_nil))) (pss_one (ps_ret pe_int)) pss_nil)
      (pss_one (ps_ret (pe_ifExp (pt_cmpR op_lt (pe_cal C_floor_at (hr.mono (by decide)) (by rfl) (pa_cons (pv 0) (pa_cons (pv 1) (pa_cons (pv 2) pa_nil)))) pe_int (nomark _)) (pe_un un_neg pe_int) pe_int)))), ?_⟩
    refine ⟨_, rfl, _, A, p, rfl, ⟨na, rfl, hN⟩, fun H1 s1 => ⟨_, rfl, ?_⟩⟩
    cases hz : A.any fun (z : Int) => z != 0 with
    | false =>
      refine iteT ?_
      have := k H1 s1
      rw [sign_zero hp (by lia) hz] at this
      exact this
    | true =>
      refine iteF ?_
      have hnz : ∃ z ∈ A, z ≠ 0 := by
        obtain ⟨z, h1, h2⟩ := List.any_eq_true.mp hz
        exact ⟨z, h1, by simpa using h2⟩
      refine ⟨_, rfl, _, rfl, _, rfl, kk, _, _, c, A, p, b, rfl, ⟨ca, rfl, s1.seq hC⟩, ⟨na, rfl, s1.seq hN⟩, hc0, hk, hl, hp, hb, hbb, fun H2 s2 => ?_⟩
      have := k H2 (s1.trans s2)
      rw [sign_floor hc0 hk hp hl hnz] at this
      refine ⟨_, _, rfl, rfl, _, rfl, ?_⟩
      refine ite2 (fun h1 => ?_) (fun h1 => ?_)
      · rw [if_pos (of_decide_eq_true h1)] at this
        exact ⟨_, rfl, this⟩
      · rw [if_neg (fun z => h1 (decide_eq_true z))] at this
        exact this
noncomputable def sp_added (K : PySem.W.Frag) : Sp := fun vs H Q _ => ∃ (v u : V) (ms ns : List Int) (p q : Int) (bm bn : Nat), vs = [v, u] ∧ IL K H v (ms ++ [p]) ∧ IL K H u (ns ++ [q]) ∧ ms.length = ns.length ∧ ms.length ≤ 100 ∧
  FewI bm (ms ++ [p]) ∧ FewI bn (ns ++ [q]) ∧ bm + bn ≤ 134217728 ∧ ∀ (H' : Hp) (y : V), Same H H' → OL H' y (addRow ms p ns q) → Q y H'
theorem sc_added : FnScope ["a", "b", "numerators", "m", "n"] ["a", "b"] (defScope s_added) := ⟨rfl, rfl, rfl, by decide +kernel, rfl, by decide +kernel, by decide +kernel⟩
theorem ok_added {P : Program} {w : World} {K : PySem.W.Frag} {mg : Str → Option Value} {base : Heap} {f : Addr} {fd : FuncData} (F : Fun K "added" "added" s_added f fd) (O : Own mg) :
    FnOk P w K mg base CX0 1 f fd ["a", "b"] (sp_added K) := by
  refine F.ok sc_added (fun vs H Q E h => ?_) (fun cdv A outer s H vs Q E hr h => ?_)
  · obtain ⟨v, u, ms, ns, p, q, bm, bn, rfl, _⟩ := h
    rfl
  · obtain ⟨v, u, ms, ns, p, q, bm, bn, rfl, ⟨a, rfl, ha⟩, ⟨b, rfl, hb⟩, hl, hl2, hm, hn, hbb, k⟩ := h
    have hp := hm.last
    have hq := hn.last
    refine ⟨_, (pss_cons (ps_setLc (i := 2) (own := [("m", 3), ("n", 4)]) rfl sc_added.nd rfl rfl rfl (pi_zip (by rfl) O.zip_ (pa_cons (pe_slice (sl_listK (K := K) rfl) (pv 0) po_none (po_some (pe_un un_neg pe_int))) (pa_cons (pe_slice (sl_listK (K := K) rfl) (pv 1) po_none (po_some (pe_un un_neg pe_int))) pa_nil))) (show BlkOk ["a", "b", "numerators", "m", "n"] (defScope s_added) _ _ from ⟨rfl, by decide +kernel, by decide +kernel, by decide +kernel, by decide +kernel⟩) (fun _ _ _ _ _ => (pg_tupK (K := K) (n := 2) rfl rfl (pgs_cons (pg_name (i := 3) sc_added.nd rfl (by first | exact Or.inl rfl | exact Or.inr rfl)) (pgs_cons (pg_name (i := 4) sc_added.nd rfl (by first | exact Or.inl rfl | exact Or.inr rfl)) pgs_nil)))) (fun _ _ _ _ _ => pts_nil) (fun _ _ _ _ _ => (pe_op op_add (pe_op op_mulW (pv 3) (pe_ix (ix_listK (K := K) rfl) (pv 1) (pe_un un_neg pe_int) (fun _ _ => rfl))) (pe_op op_mulW (pv 4) (pe_ix (ix_listK (K := K) rfl) (pv 0) (pe_un un_neg pe_int) (fun _ _ => rfl))))))
      (pss_one (ps_ret (pe_op op_cat (pv 2) (pe_lst (pa_cons (pe_op op_mulW (pe_ix (ix_listK (K := K) rfl) (pv 0) (pe_un un_neg pe_int) (fun _ _ => rfl)) (pe_ix (ix_listK (K := K) rfl) (pv 1) (pe_un un_neg pe_int) (fun _ _ => rfl))) pa_nil)))))), ?_⟩
    refine ⟨_, rfl, _, rfl, _, rfl, a, _, rfl, ha, fun x hx => ?_⟩
    rw [cut_last]
    have s1 : Same H (upd H x (.lst (ms.map V.int))) := same_upd hx
    refine ⟨_, rfl, _, rfl, _, rfl, b, _, rfl, s1.seq hb, fun y hy => ?_⟩
    rw [cut_last]
    have s2 : Same (upd H x (.lst (ms.map V.int))) (upd (upd H x (.lst (ms.map V.int))) y (.lst (ns.map V.int))) := same_upd hy
    refine ⟨x, y, _, _, rfl, SqL.of (s2 _ _ upd_same), SqL.of upd_same, fun D hD => ?_⟩
    refine lc_zip2 (K := K) (a := x) (b := y) (ms := ms) (ns := ns) (fun m n => V.int (m * q + n * p)) (SqL.of (s2 _ _ upd_same)) (SqL.of upd_same) hl (small1000 (by lia)) hD (fun _ _ => rfl) (fun m hm' n hn' H2 Rv s3 hR => ?_) (fun H2 s3 e => ?_)
    · have s4 := (s1.trans s2).trans s3
      have hm1 := hm m (by simp [hm'])
      have hn1 := hn n (by simp [hn'])
      exact ⟨_, rfl, _, rfl, _, rfl, b, _, _, _, rfl, rfl, s4.seq hb, at_end _ _, _, _, rfl, rfl, mul_big hm1 hq hbb, _, rfl, _, rfl, _, rfl, a, _, _, _, rfl, rfl, s4.seq ha, at_end _ _, _, _, rfl, rfl, mul_big hn1 hp (by lia), _, _, rfl, rfl, hR H2 (Same.refl H2)⟩
    · have s4 := (s1.trans s2).trans s3
      have e' : H2 D = some (.lst ((List.zipWith (fun (m n : Int) => m * q + n * p) ms ns).map V.int)) := by
        rw [e, List.map_zipWith]
      refine ⟨_, rfl, _, rfl, _, rfl, a, _, _, _, rfl, rfl, s4.seq ha, at_end _ _, _, rfl, _, rfl, b, _, _, _, rfl, rfl, s4.seq hb, at_end _ _, _, _, rfl, rfl, mul_big hp hq hbb, (by show 1 ≤ sizeLine; decide), fun t ht => ?_⟩
      have s5 : Same H2 (upd H2 t (.lst [V.int (p * q)])) := same_upd ht
      refine ⟨D, t, _, _, rfl, rfl, s5 _ _ e', upd_same, ?_, fun r hr' => ?_⟩
      · rw [List.length_map, List.length_zipWith]
        exact Nat.le_trans (Nat.add_le_add_right (Nat.le_trans (Nat.min_le_left _ _) hl2) 1) (by decide)
      · have s6 := s5.trans (same_upd (o := .lst ((List.zipWith (fun (m n : Int) => m * q + n * p) ms ns).map V.int ++ [V.int (p * q)])) hr')
        refine k _ _ (s4.trans s6) ⟨r, rfl, ?_⟩
        rw [upd_same]
        unfold addRow
        rw [List.map_append]
        rfl
noncomputable def sp_negated (K : PySem.W.Frag) : Sp := fun vs H Q _ => ∃ (v : V) (ns : List Int) (q : Int), vs = [v] ∧ IL K H v (ns ++ [q]) ∧ ns.length ≤ 100 ∧ ∀ (H' : Hp) (y : V), Same H H' → OL H' y ((ns.map fun (z : Int) => -z) ++ [q]) → Q y H'
theorem sc_negated : FnScope ["a", "number"] ["a"] (defScope s_negated) := ⟨rfl, rfl, rfl, by decide +kernel, rfl, by decide +kernel, by decide +kernel⟩
theorem ok_negated {P : Program} {w : World} {K : PySem.W.Frag} {mg : Str → Option Value} {base : Heap} {f : Addr} {fd : FuncData} (F : Fun K "negated" "negated" s_negated f fd) (O : Own mg) :
    FnOk P w K mg base CX0 1 f fd ["a"] (sp_negated K) := by
  refine F.ok sc_negated (fun vs H Q E h => ?_) (fun cdv A outer s H vs Q E hr h => ?_)
  · obtain ⟨v, ns, q, rfl, _⟩ := h
    rfl
  · obtain ⟨v, ns, q, rfl, ⟨a, rfl, ha⟩, hl, k⟩ := h
    refine ⟨_, (pss_one (ps_ret (pe_op op_cat (pe_lc (own := [("number", 1)]) rfl sc_negated.nd (pi_list (pe_slice (sl_listK (K := K) rfl) (pv 0) po_none (po_some (pe_un un_neg pe_int)))) (show BlkOk ["a", "number"] (defScope s_negated) _ _ from ⟨rfl, by decide +kernel, by decide +kernel, by decide +kernel, by decide +kernel⟩) (fun _ _ _ _ _ => (pg_name (i := 1) sc_negated.nd rfl (by first | exact Or.inl rfl | exact Or.inr rfl))) (fun _ _ _ _ _ => pts_nil) (fun _ _ _ _ _ => (pe_un un_neg (pv 1)))) (pe_lst (pa_cons (pe_ix (ix_listK (K := K) rfl) (pv 0) (pe_un un_neg pe_int) (fun _ _ => rfl)) pa_nil))))), ?_⟩
    refine ⟨_, rfl, _, rfl, _, rfl, a, _, rfl, ha, fun x hx => ?_⟩
    rw [cut_last]
    have s1 : Same H (upd H x (.lst (ns.map V.int))) := same_upd hx
    refine ⟨x, rfl, ⟨_, SqL.of upd_same⟩, fun D hD => ?_⟩
    refine lc_ints (K := K) (a := x) (ns := ns) (fun _ => true) (fun z => V.int (-z)) (SqL.of upd_same) (small1000 (by lia)) hD (fun z => rfl) (fun z hz H2 Rv R s2 hR => ?_) (fun H2 s2 e4 => ?_)
    · have hR' := hR H2 (Same.refl H2)
      rw [if_pos rfl] at hR'
      exact ⟨_, rfl, _, rfl, hR'⟩
    · rw [filter_yes] at e4
      have s3 := s1.trans s2
      refine ⟨_, rfl, _, rfl, a, _, _, _, rfl, rfl, s3.seq ha, at_end _ _, (by show 1 ≤ sizeLine; decide), fun t ht => ?_⟩
      have s5 : Same H2 (upd H2 t (.lst [V.int q])) := same_upd ht
      refine ⟨D, t, _, _, rfl, rfl, s5 _ _ e4, upd_same, ?_, fun r hr' => k _ _ (s3.trans (s5.trans (same_upd hr'))) ⟨r, rfl, ?_⟩⟩
      · rw [List.length_map]
        exact Nat.le_trans (Nat.add_le_add_right hl 1) (by decide)
      · rw [upd_same, List.map_append, List.map_map]
        rfl
theorem rep_zeros' : ∀ n : Nat, (List.replicate n [V.int 0]).flatten = (List.replicate n (0 : Int)).map V.int
  | 0 => rfl
  | n + 1 => by
    rw [List.replicate_succ, List.flatten_cons, rep_zeros' n, List.replicate_succ]
    rfl
noncomputable def sp_nearest_at (K : PySem.W.Frag) : Sp := fun vs H Q _ => ∃ (kk : Nat) (v u : V) (c A : List Int) (p : Int) (b : Nat), vs = [.int kk, v, u] ∧ IL K H v c ∧ IL K H u (A ++ [p]) ∧ refusal c = 0 ∧ kk < Root.places c ∧ A.length = c.length ∧ 0 < p ∧ FewI b (A ++ [p]) ∧ b ≤ 170 ∧
  ∀ H' : Hp, Same H H' → (near c (dv p A) kk).natAbs ≤ 2 ^ (b + 56) → Q (.int (near c (dv p A) kk)) H'
theorem sc_nearest_at : FnScope ["k", "field", "a", "half"] ["k", "field", "a"] (defScope s_nearest_at) := ⟨rfl, rfl, rfl, by decide +kernel, rfl, by decide +kernel, by decide +kernel⟩
theorem ok_nearest_at {P : Program} {w : World} {K : PySem.W.Frag} {mg : Str → Option Value} {base : Heap} {f : Addr} {fd : FuncData} (F : Fun K "nearest_at" "nearest_at" s_nearest_at f fd) (O : Own mg) (C_sign_at : Cal P w K mg base 8 "sign_at" ["k", "field", "a"] (sp_sign_at K)) (C_floor_at : Cal P w K mg base 7 "floor_at" ["k", "field", "a"] (sp_floor_at K)) (C_added : Cal P w K mg base 1 "added" ["a", "b"] (sp_added K)) (C_negated : Cal P w K mg base 1 "negated" ["a"] (sp_negated K)) :
    FnOk P w K mg base CX0 9 f fd ["k", "field", "a"] (sp_nearest_at K) := by
  refine F.ok sc_nearest_at (fun vs H Q E h => ?_) (fun cdv A outer s H vs Q E hr h => ?_)
  · obtain ⟨kk, v, u, c, A, p, b, rfl, _⟩ := h
    rfl
  · obtain ⟨kk, v, u, c, A, p, b, rfl, ⟨ca, rfl, hC⟩, ⟨na, rfl, hN⟩, hc0, hk, hl, hp, hb, hbb, k⟩ := h
    obtain ⟨f1, f2, f3⟩ := ok_field hc0
    refine ⟨_, (pss_cons (ps_set (i := 3) sc_nearest_at.nd rfl (by first | exact Or.inl rfl | exact Or.inr rfl) (pe_op op_cat (pe_op op_cat (pe_lst (pa_cons pe_int pa_nil)) (pe_op op_rep (pe_lst (pa_cons pe_int pa_nil)) (pe_op op_sub (pe_callB (call_lenK (K := K) rfl) (by rfl) O.len_ bt_len (pa_cons (pv 1) pa_nil)) pe_int))) (pe_lst (pa_cons pe_int pa_nil))))
      (pss_cons (ps_if (pt_cmpR op_lt (pe_cal C_sign_at (hr.mono (by decide)) (by rfl) (pa_cons (pv 0) (pa_cons (pv 1) (pa_cons (pv 2) pa_nil)))) pe_int (nomark _)) (pss_one (ps_ret (pe_un un_neg (pe_cal C_floor_at (hr.mono (by decide)) (by rfl) (pa_cons (pv 0) (pa_cons (pv 1) (pa_cons (pe_cal C_added (hr.mono (by decide)) (by rfl) (pa_cons (pe_cal C_negated (hr.mono (by decide)) (by rfl) (pa_cons (pv 2) pa_nil)) (pa_cons (pv 3) pa_nil))) pa_nil))))))) pss_nil)
      (pss_one (ps_ret (pe_cal C_floor_at (hr.mono (by decide)) (by rfl) (pa_cons (pv 0) (pa_cons (pv 1) (pa_cons (pe_cal C_added (hr.mono (by decide)) (by rfl) (pa_cons (pv 2) (pa_cons (pv 3) pa_nil))) pa_nil)))))))), ?_⟩
    refine ⟨(by show 1 ≤ sizeLine; decide), fun l1 hl1 => ⟨(by show 1 ≤ sizeLine; decide), fun l2 hl2 => ?_⟩⟩
    have s1 : Same H (upd H l1 (.lst [V.int 1])) := same_upd hl1
    have s2 : Same (upd H l1 (.lst [V.int 1])) (upd (upd H l1 (.lst [V.int 1])) l2 (.lst [V.int 0])) := same_upd hl2
    refine ⟨_, rfl, ca, _, rfl, .inl ((s1.trans s2).seq hC), _, _, rfl, rfl, l2, _, _, rfl, rfl, upd_same, ?_⟩
    rw [List.length_map]
    refine ⟨by lia, by lia, ?_, fun l3 hl3 => ?_⟩
    · show 1 * _ ≤ sizeLine
      exact Nat.le_trans (show 1 * ((c.length : Int) - 1).toNat ≤ 10 by lia) (by decide)
    have e1 : ((c.length : Int) - 1).toNat = c.length - 1 := by lia
    rw [rep_zeros', e1]
    have s3 := same_upd (o := .lst ((List.replicate (c.length - 1) (0 : Int)).map V.int)) hl3
    refine ⟨l1, l3, _, _, rfl, rfl, s3 _ _ (s2 _ _ upd_same), upd_same, ?_, fun D hD => ?_⟩
    · rw [List.length_map, List.length_replicate]
      exact Nat.le_trans (show 1 + (c.length - 1) ≤ 10 by lia) (by decide)
    have s4 := same_upd (o := .lst ([V.int 1] ++ (List.replicate (c.length - 1) (0 : Int)).map V.int)) hD
    refine ⟨(by show 1 ≤ sizeLine; decide), fun l5 hl5 => ?_⟩
    have s5 := same_upd (o := .lst [V.int 2]) hl5
    refine ⟨D, l5, _, _, rfl, rfl, s5 _ _ upd_same, upd_same, ?_, fun hf hhf => ?_⟩
    · rw [List.length_append, List.length_map, List.length_replicate]
      exact Nat.le_trans (show 1 + (c.length - 1) + 1 ≤ 11 by lia) (by decide)
    have s6 := ((s1.trans s2).trans (s3.trans s4)).trans (s5.trans (same_upd (o := .lst ([V.int 1] ++ (List.replicate (c.length - 1) (0 : Int)).map V.int ++ [V.int 2])) hhf))
    generalize hHH : upd _ hf (.lst ([V.int 1] ++ (List.replicate (c.length - 1) (0 : Int)).map V.int ++ [V.int 2])) = HH at *
    have hhalf : HH hf = some (.lst ((((1 : Int) :: List.replicate (c.length - 1) 0) ++ [2]).map V.int)) := by
      rw [← hHH, upd_same, List.map_append, List.map_cons]
      rfl
    have hhl : (1 :: List.replicate (c.length - 1) (0 : Int)).length = c.length := by
      rw [List.length_cons, List.length_replicate]
      lia
    have hhfew : FewI 2 ((1 :: List.replicate (c.length - 1) 0) ++ [2]) := fun z hz => by
      rcases List.mem_append.mp hz with h3 | h3
      · rcases List.mem_cons.mp h3 with h4 | h4
        · rw [h4]; decide
        · rw [List.eq_of_mem_replicate h4]; decide
      · have : z = 2 := by simpa using h3
        rw [this]; decide
    have hnum : ∀ B : List Int, Root.plus (dv p B) (Root.scaled (1 / 2) (Root.oneIn c.length)) = dv (p * 2) (List.zipWith (fun (m n : Int) => m * 2 + n * p) B (1 :: List.replicate (c.length - 1) 0)) := fun B => by
      rw [← half_num f1, plus_dv hp (by decide)]
    refine ⟨_, rfl, _, rfl, _, rfl, kk, _, _, c, A, p, b, rfl, ⟨ca, rfl, s6.seq hC⟩, ⟨na, rfl, s6.seq hN⟩, hc0, hk, hl, hp, hb, by lia, fun H7 s7 => ?_⟩
    have s8 := s6.trans s7
    refine ⟨_, _, rfl, rfl, _, rfl, ?_⟩
    refine ite2 (fun h1 => ?_) (fun h1 => ?_)
    · refine ⟨_, rfl, _, rfl, _, rfl, _, A, p, rfl, ⟨na, rfl, s8.seq hN⟩, by lia, fun H9 y9 s9 hy9 => ?_⟩
      have hfn : FewI b ((A.map fun (z : Int) => -z) ++ [p]) := fun z hz => by
        rcases List.mem_append.mp hz with hz | hz
        · obtain ⟨x, hx, rfl⟩ := List.mem_map.mp hz
          rw [Int.natAbs_neg]
          exact hb.left x hx
        · have e5 : z = p := by simpa using hz
          rw [e5]
          exact hb.last
      refine ⟨_, rfl, _, _, A.map fun (z : Int) => -z, 1 :: List.replicate (c.length - 1) 0, p, 2, b, 2, rfl, hy9.il, ⟨hf, rfl, SqL.of (s9 _ _ (s7 _ _ hhalf))⟩, by rw [List.length_map]; lia, by rw [List.length_map]; lia, hfn, hhfew, by lia, fun H10 y10 s10 hy10 => ?_⟩
      have hal : (List.zipWith (fun (m n : Int) => m * 2 + n * p) (A.map fun (z : Int) => -z) (1 :: List.replicate (c.length - 1) 0)).length = c.length := by
        rw [List.length_zipWith, List.length_map, hhl]
        lia
      refine ⟨kk, _, _, c, _, p * 2, b + 2 + 1, rfl, ⟨ca, rfl, ((s8.trans s9).trans s10).seq hC⟩, hy10.il, hc0, hk, hal, by lia, few_addRow hfn hhfew, by lia, fun H11 s11 => ?_⟩
      have hbd := floor_bd hc0 hk (p := p * 2) (by lia) hal (b := b + 3) (fun z hz => Nat.le_of_lt ((few_addRow hfn hhfew).left z hz))
      have := k H11 (((s8.trans s9).trans s10).trans s11)
      unfold near at this
      rw [if_pos (of_decide_eq_true h1), ← dv_neg, hnum] at this
      exact ⟨_, rfl, this (by rw [Int.natAbs_neg]; exact hbd)⟩
    · refine ⟨_, rfl, _, rfl, _, rfl, _, rfl, _, _, A, 1 :: List.replicate (c.length - 1) 0, p, 2, b, 2, rfl, ⟨na, rfl, s8.seq hN⟩, ⟨hf, rfl, SqL.of (s7 _ _ hhalf)⟩, by lia, by lia, hb, hhfew, by lia, fun H10 y10 s10 hy10 => ?_⟩
      have hal : (List.zipWith (fun (m n : Int) => m * 2 + n * p) A (1 :: List.replicate (c.length - 1) 0)).length = c.length := by
        rw [List.length_zipWith, hhl]
        lia
      refine ⟨kk, _, _, c, _, p * 2, b + 2 + 1, rfl, ⟨ca, rfl, (s8.trans s10).seq hC⟩, hy10.il, hc0, hk, hal, by lia, few_addRow hb hhfew, by lia, fun H11 s11 => ?_⟩
      have hbd := floor_bd hc0 hk (p := p * 2) (by lia) hal (b := b + 3) (fun z hz => Nat.le_of_lt ((few_addRow hb hhfew).left z hz))
      have := k H11 ((s8.trans s10).trans s11)
      unfold near at this
      rw [if_neg (fun z => h1 (decide_eq_true z)), hnum] at this
      exact this hbd
theorem mt_zfill {X : Cx} : MtR X "str.zfill" (fun x xs H Q => ∃ (a : Str) (i : Int), x = .str a ∧ xs = [.int i] ∧ 0 ≤ i ∧ i ≤ 1000 ∧ Q (.str (Txt.zfill a i)) H) := by
  intro pins s σ H x xs v us Q I rx rs h
  obtain ⟨a, i, rfl, rfl, h1, h2, h⟩ := h
  obtain ⟨t, rfl⟩ := rx
  cases rs with
  | cons r1 rs =>
    cases rs
    obtain ⟨u, rfl⟩ := r1
    exact PySem.SC.zfill (padOk_of (by lia) (by lia)) fun t' k => ⟨.str _, H, I.tok k, ⟨t', rfl⟩, h⟩
theorem codes_range : ∀ m : Nat, ∀ c ∈ codes m, 48 ≤ c ∧ c ≤ 57 := by
  intro m
  induction m using Nat.strongRecOn with
  | _ m ih =>
    by_cases h : m < 10
    · rw [codes_small h]
      intro c hc
      have : c = 48 + m := by simpa using hc
      lia
    · rw [codes_big (by lia)]
      intro c hc
      rcases List.mem_append.mp hc with h1 | h1
      · exact ih (m / 10) (by lia) c h1
      · have : c = 48 + m % 10 := by simpa using h1
        lia
theorem str_codes (m : Nat) : (Str.ofString (toString ((m : Nat) : Int))).cps.toList = codes m := by
  rw [Str.ofString_eq_toList]
  show ((Nat.repr m).toList.map Char.toNat) = _
  rw [Nat.toList_repr]
  rfl
theorem zfill_wide (m n : Nat) : (Txt.zfill (Str.ofString (toString ((m : Nat) : Int))) ((n : Int) + 1)).cps.toList = wide n m := by
  have hc := str_codes m
  generalize Str.ofString (toString ((m : Nat) : Int)) = x at *
  have hl : x.length = (codes m).length := by
    rw [← hc]
    rfl
  rw [← pad_wide]
  unfold Txt.zfill
  by_cases h : (n : Int) + 1 ≤ (x.length : Int)
  · rw [if_pos h, hc, show n + 1 - (codes m).length = 0 by lia]
    rfl
  · rw [if_neg h]
    have e1 : ((n : Int) + 1).toNat - x.length = n + 1 - (codes m).length := by lia
    rw [e1]
    have h0 : x.cps[0]? = (codes m)[0]? := by rw [← hc]; simp
    obtain ⟨c, r, hcr⟩ : ∃ c r, codes m = c :: r := by
      cases e : codes m with
      | nil =>
        have := codes_pos m
        rw [e] at this
        simp at this
      | cons c r => exact ⟨c, r, rfl⟩
    have hrg := codes_range m c (by rw [hcr]; simp)
    rw [hcr] at h0
    have h0' : x.cps[0]? = some c := h0
    have ez : ∀ k, zfilled x k = Builtin.Str.padded x k 0 48 := fun k => by
      unfold zfilled
      rw [h0']
      split
      · rename_i e
        have := Option.some.inj e
        lia
      · rename_i e
        have := Option.some.inj e
        lia
      · rfl
    rw [ez]
    unfold Builtin.Str.padded
    simp [hc]
theorem wide_length (n m : Nat) : (wide n m).length = (codes (m / 10 ^ n)).length + n := by
  rw [wide_split, List.length_append, List.length_map, List.length_reverse, List.length_range]
theorem cutS_front (z : Str) (n : Nat) (h : 1 ≤ n) (h2 : n ≤ z.length) : (cutS z none (some (-(n : Int)))).cps.toList = z.cps.toList.take (z.length - n) := by
  unfold cutS
  have e1 : HT.sIx z.length z.length (some (-(n : Int))) = z.length - n := by
    unfold HT.sIx
    dsimp only
    rw [if_pos (by lia)]
    lia
  rw [e1, HT.sIx_none, List.drop_zero, Nat.sub_zero]
theorem cutS_back (z : Str) (n : Nat) (h : 1 ≤ n) (h2 : n ≤ z.length) : (cutS z (some (-(n : Int))) none).cps.toList = z.cps.toList.drop (z.length - n) := by
  unfold cutS
  have e1 : HT.sIx z.length 0 (some (-(n : Int))) = z.length - n := by
    unfold HT.sIx
    dsimp only
    rw [if_pos (by lia)]
    lia
  rw [e1, HT.sIx_none]
  show List.take _ (List.drop _ _) = _
  rw [List.take_of_length_le]
  rw [List.length_drop]
  show z.cps.toList.length - _ ≤ z.length - _
  exact Nat.le_refl _
noncomputable def cds (x : Str) : List Nat := x.cps.toList
theorem cds_add (x y : Str) : cds (x ++ y) = cds x ++ cds y := by
  show (x.cps ++ y.cps).toList = _
  simp [cds]
theorem len_cds (x : Str) : x.length = (cds x).length := rfl
noncomputable def decTxt (z : Int) (n : Nat) : List Nat := ((if z < 0 then [45] else []) ++ codes (z.natAbs / 10 ^ n)) ++ (if n = 0 then [] else 46 :: (List.range n).reverse.map fun (i : Nat) => 48 + z.natAbs / 10 ^ i % 10)
theorem codes_len : ∀ (f m : Nat), m < 10 ^ f → 1 ≤ f → (codes m).length ≤ f
  | 0, _, _, h => by lia
  | f + 1, m, h, _ => by
    by_cases hm : m < 10
    · rw [codes_small hm]
      exact Nat.le_add_left _ _
    · have hf : 1 ≤ f := by
        false_or_by_contra
        have : f = 0 := by lia
        subst this
        lia
      rw [codes_big (by lia), List.length_append]
      have := codes_len f (m / 10) (by rw [Nat.pow_succ] at h; lia) hf
      exact Nat.add_le_add_right this 1
noncomputable def sp_decimal_text : Sp := fun vs H Q _ => ∃ (z : Int) (n : Nat), vs = [.int z, .int n] ∧ z.natAbs < 10 ^ 100 ∧ n ≤ 20 ∧ ∀ (H' : Hp) (x : Str), Same H H' → cds x = decTxt z n → Q (.str x) H'
theorem sc_decimal_text : FnScope ["number", "n", "front", "text"] ["number", "n"] (defScope s_decimal_text) := ⟨rfl, rfl, rfl, by decide +kernel, rfl, by decide +kernel, by decide +kernel⟩
theorem ok_decimal_text {P : Program} {w : World} {K : PySem.W.Frag} {mg : Str → Option Value} {base : Heap} {f : Addr} {fd : FuncData} (F : Fun K "decimal_text" "decimal_text" s_decimal_text f fd) (O : Own mg) :
    FnOk P w K mg base CX0 1 f fd ["number", "n"] sp_decimal_text := by
  refine F.ok sc_decimal_text (fun vs H Q E h => ?_) (fun cdv A outer s H vs Q E hr h => ?_)
  · obtain ⟨z, n, rfl, _⟩ := h
    rfl
  · obtain ⟨z, n, rfl, hz, hn, k⟩ := h
    refine ⟨_, (pss_cons (ps_set (i := 2) sc_decimal_text.nd rfl (by first | exact Or.inl rfl | exact Or.inr rfl) (pe_ifExp (pt_cmpR op_lt (pv 0) pe_int (nomark _)) pe_str pe_str))
      (pss_cons (ps_set (i := 3) sc_decimal_text.nd rfl (by first | exact Or.inl rfl | exact Or.inr rfl) (pe_m1 PySem.F.slot_str_zfill PySem.F.type_str_zfill mt_zfill (pe_callTy call_str_int (by rfl) O.str_ bt_str (pa_cons (pe_callB call_abs (by rfl) O.abs_ bt_abs (pa_cons (pv 0) pa_nil)) pa_nil)) (pe_op op_add (pv 1) pe_int)))
      (pss_cons (ps_if (pt_cmpR op_eq (pv 1) pe_int (nomark _)) (pss_one (ps_ret (pe_op op_add_str (pv 2) (pv 3)))) pss_nil)
      (pss_one (ps_ret (pe_op op_add_str (pe_op op_add_str (pe_op op_add_str (pv 2) (pe_slice sl_str (pv 3) po_none (po_some (pe_un un_neg (pv 1))))) pe_str) (pe_slice sl_str (pv 3) (po_some (pe_un un_neg (pv 1))) po_none))))))), ?_⟩
    obtain ⟨fr, hfr⟩ : ∃ fr : Str, fr = if z < 0 then Str.ofString "-" else Str.ofString "" := ⟨_, rfl⟩
    have hfc : cds fr = if z < 0 then [45] else [] := by
      rw [hfr]
      split <;> rfl
    have hfl : fr.length ≤ 1 := by
      rw [len_cds, hfc]
      split <;> decide
    refine asg_if (x := .str fr) (fun R hR => ?_) ?_
    · refine ⟨_, rfl, _, _, rfl, rfl, _, rfl, ?_⟩
      refine ite2 (fun h1 => ?_) (fun h1 => ?_)
      · rw [hfr, if_pos (of_decide_eq_true h1)] at hR
        exact hR
      · rw [hfr, if_neg (fun w => h1 (decide_eq_true w))] at hR
        exact hR
    have hlog : ((if z < 0 then -z else z) : Int).natAbs.log2 < 1920 := by
      rw [abs_is, Int.natAbs_natCast]
      rcases Nat.eq_zero_or_pos z.natAbs with h0 | h0
      · rw [h0]; decide
      · refine (Nat.log2_lt (by lia)).mpr (Nat.lt_trans hz ?_)
        exact Nat.lt_of_lt_of_le (show 10 ^ 100 < 2 ^ 400 by decide) (Nat.pow_le_pow_right (by decide) (by decide))
    refine ⟨_, rfl, z, rfl, _, rfl, hlog, ⟨_, rfl⟩, _, rfl, _, _, rfl, rfl, _, _, rfl, rfl, by lia, by lia, ?_⟩
    rw [abs_is]
    have hw := zfill_wide z.natAbs n
    generalize Txt.zfill (Str.ofString (toString ((z.natAbs : Nat) : Int))) ((n : Int) + 1) = tx at *
    have hw' : cds tx = wide n z.natAbs := hw
    have htl : tx.length = (codes (z.natAbs / 10 ^ n)).length + n := by rw [len_cds, hw', wide_length]
    have hcl : (codes (z.natAbs / 10 ^ n)).length ≤ 100 := codes_len 100 _ (Nat.lt_of_le_of_lt (Nat.div_le_self _ _) hz) (by decide)
    refine ⟨_, rfl, rfl, _, rfl, ?_⟩
    refine ite2 (fun h1 => ?_) (fun h1 => ?_)
    · have h0 : n = 0 := by
        have := int_eq h1
        lia
      subst h0
      refine ⟨_, rfl, _, rfl, _, _, rfl, rfl, ?_, k H _ (Same.refl H) ?_⟩
      · exact Nat.le_trans (show fr.length + tx.length ≤ 200 by lia) (by decide)
      · rw [cds_add, hfc, hw']
        unfold decTxt
        rw [if_pos rfl, List.append_nil, Nat.pow_zero, Nat.div_one]
        rfl
    · have h0 : 1 ≤ n := by
        have := int_ne h1
        lia
      have hs1 := cutS_front tx n h0 (by lia)
      have hs2 := cutS_back tx n h0 (by lia)
      have hsp := wide_split n z.natAbs
      have hA : cds (cutS tx none (some (-(n : Int)))) = codes (z.natAbs / 10 ^ n) := by
        show (cutS tx none (some (-(n : Int)))).cps.toList = _
        rw [hs1]
        show (cds tx).take _ = _
        rw [hw', hsp, htl, Nat.add_sub_cancel]
        exact List.take_left' rfl
      have hB : cds (cutS tx (some (-(n : Int))) none) = (List.range n).reverse.map fun (i : Nat) => 48 + z.natAbs / 10 ^ i % 10 := by
        show (cutS tx (some (-(n : Int))) none).cps.toList = _
        rw [hs2]
        show (cds tx).drop _ = _
        rw [hw', hsp, htl, Nat.add_sub_cancel]
        exact List.drop_left' rfl
      have hla : (cutS tx none (some (-(n : Int)))).length ≤ 100 := by rw [len_cds, hA]; exact hcl
      have hlb : (cutS tx (some (-(n : Int))) none).length ≤ 20 := by
        rw [len_cds, hB, List.length_map, List.length_reverse, List.length_range]
        exact hn
      have hlt : tx.length ≤ sizeLine := Nat.le_trans (show tx.length ≤ 200 by lia) (by decide)
      have hd1 : (Str.ofString ".").length = 1 := rfl
      have ha1 : ∀ x y : Str, (x ++ y).length = x.length + y.length := fun x y => by rw [len_cds, cds_add, List.length_append]; rfl
      refine ⟨_, rfl, _, rfl, _, rfl, _, rfl, _, rfl, tx, rfl, hlt, _, _, rfl, rfl, ?_, _, _, rfl, rfl, ?_, _, rfl, _, rfl, _, rfl, _, rfl, tx, rfl, hlt, _, _, rfl, rfl, ?_, k H _ (Same.refl H) ?_⟩
      · exact Nat.le_trans (show fr.length + (cutS tx none (some (-(n : Int)))).length ≤ 200 by lia) (by decide)
      · rw [ha1, hd1]
        exact Nat.le_trans (show fr.length + (cutS tx none (some (-(n : Int)))).length + 1 ≤ 200 by lia) (by decide)
      · rw [ha1, ha1, hd1]
        exact Nat.le_trans (show fr.length + (cutS tx none (some (-(n : Int)))).length + 1 + (cutS tx (some (-(n : Int))) none).length ≤ 200 by lia) (by decide)
      · rw [cds_add, cds_add, cds_add, hfc, hA, hB, show cds (Str.ofString ".") = [46] from rfl]
        unfold decTxt
        rw [if_neg (show ¬ n = 0 by lia), List.append_assoc]
        rfl
theorem lc_text {x : Str} {j : Nat} {tt : TT} {te : TE} {vs : List Nat} {σ : L2.St} {H1 : Hp} {D : Addr} {Q : Hp → Prop} (g : Nat → V)
    (hn : x.cps.size < sizeLine) (hD : H1 D = none) (hw : ∀ z : V, wipe ((wipe σ vs).set j (some z)) vs = wipe σ vs)
    (step : ∀ c ∈ x.cps.toList, ∀ (H : Hp) (R : V → Hp → Prop), Same H1 H → (∀ H', Same H H' → R (g c) H') →
      tt ((wipe σ vs).set j (some (.str ⟨#[c]⟩))) H fun b H3 => b = true ∧ te ((wipe σ vs).set j (some (.str ⟨#[c]⟩))) H3 R)
    (fin : ∀ H' : Hp, Same H1 H' → H' D = some (.lst (x.cps.toList.map g)) → Q H')
    (mono : ∀ σ H (P P' : Bool → Hp → Prop), (∀ b H1, P b H1 → P' b H1) → tt σ H P → tt σ H P') :
    ∃ W : Nat → Nat → Hp → Prop, (∃ m, W 0 m (upd H1 D (.lst []))) ∧ ∀ i m H, W i m H →
      ((Its x).stop i H ∧ Q H) ∨ ((Its x).go i H ∧ ∃ Nx : Hp → Prop, (∀ H', Nx H' → ∃ m', m' < m ∧ W (i + 1) m' H') ∧ ∀ y H', (Its x).yld i H y H' → gName j y (wipe σ vs) H' fun σ2 H2 => wipe σ2 vs = wipe σ vs ∧ tt σ2 H2 fun b H3 =>
        if b = true then te σ2 H3 fun y H4 => ∃ acc, H4 D = some (.lst acc) ∧ acc.length < sizeLine ∧ Nx (upd H4 D (.lst (acc ++ [y]))) else Nx H3) := by
  refine ⟨fun i m H => m = x.cps.size - i ∧ i ≤ x.cps.size ∧ Same H1 H ∧ H D = some (.lst ((x.cps.toList.take i).map g)), ⟨x.cps.size, by simp, Nat.zero_le _, same_upd hD, upd_same⟩, ?_⟩
  rintro i m H ⟨rfl, hi, s1, hrs⟩
  by_cases hlt : i < x.cps.size
  · refine .inr ⟨hlt, fun H => i + 1 ≤ x.cps.size ∧ Same H1 H ∧ H D = some (.lst ((x.cps.toList.take (i + 1)).map g)), fun H' h' => ⟨x.cps.size - (i + 1), by lia, rfl, h'.1, h'.2⟩, fun y H' hy => ?_⟩
    obtain ⟨e, c, hc, e2⟩ := hy
    subst e e2
    have hc' : x.cps.toList[i]? = some c := by simpa using hc
    refine ⟨hw _, mono _ _ _ _ (fun b H3 hb => ?_) (step c (List.mem_of_getElem? hc') H' (fun y H4 => ∃ acc, H4 D = some (.lst acc) ∧ acc.length < sizeLine ∧ (i + 1 ≤ x.cps.size ∧ Same H1 (upd H4 D (.lst (acc ++ [y]))) ∧ (upd H4 D (.lst (acc ++ [y]))) D = some (.lst ((x.cps.toList.take (i + 1)).map g)))) s1 fun H4 s4 => ?_)⟩
    · rw [if_pos hb.1]
      exact hb.2
    · refine ⟨_, s4 _ _ hrs, ?_, hlt, same_upd2 (s1.trans s4) hD, ?_⟩
      · rw [List.length_map, List.length_take]
        exact Nat.lt_of_le_of_lt (Nat.min_le_left _ _) (by lia)
      · rw [upd_same, take_snoc' hc', List.map_append]
        rfl
  · have e : i = x.cps.size := by lia
    subst e
    refine .inl ⟨Nat.le_refl _, fin H s1 ?_⟩
    rw [hrs, List.take_of_length_le (by simp)]
noncomputable def sp_digits (K : PySem.W.Frag) : Sp := fun vs H Q _ => ∃ (v u : V) (c a : List Int) (k n : Int), vs = [.int k, .int n, v, u] ∧ IL K H v c ∧ IL K H u a ∧ c.length ≤ 10 ∧ a.length ≤ 10 ∧ (0 ≤ k ∧ k ≤ 4294967295) ∧ (0 ≤ n ∧ n ≤ 4294967295) ∧ (∀ z ∈ a, z.natAbs < 2 ^ 63) ∧
  ∀ (H' : Hp) (y : V), OL H' y (PyWqaqaw.digits k n c a) → Q y H'
theorem sc_digits : FnScope ["k", "n", "field", "a", "refusal", "scale", "step", "scaled", "number", "mark"] ["k", "n", "field", "a"] (defScope s_digits) := ⟨rfl, rfl, rfl, by decide +kernel, rfl, by decide +kernel, by decide +kernel⟩
theorem ok_digits {P : Program} {w : World} {K : PySem.W.Frag} {mg : Str → Option Value} {base : Heap} {f : Addr} {fd : FuncData} (F : Fun K "digits" "digits" s_digits f fd) (O : Own mg) (c_MOST_DECIMALS : Kst mg "MOST_DECIMALS" 20) (C_refusal_at : Cal P w K mg base 7 "refusal_at" ["k", "field", "a"] (sp_refusal_at K)) (C_nearest_at : Cal P w K mg base 9 "nearest_at" ["k", "field", "a"] (sp_nearest_at K)) (C_decimal_text : Cal P w K mg base 1 "decimal_text" ["number", "n"] sp_decimal_text) :
    FnOk P w K mg base CX0 10 f fd ["k", "n", "field", "a"] (sp_digits K) := by
  refine F.ok sc_digits (fun vs H Q E h => ?_) (fun cdv A outer s H vs Q E hr h => ?_)
  · obtain ⟨v, u, c, a, k, n, rfl, _⟩ := h
    rfl
  · obtain ⟨v, u, c, r, k, n, rfl, ⟨ca, rfl, hc⟩, ⟨b, rfl, hb⟩, hl, hl1, hk, hn, hz, kk⟩ := h
    refine ⟨_, (pss_cons (ps_set (i := 4) sc_digits.nd rfl (by first | exact Or.inl rfl | exact Or.inr rfl) (pe_cal C_refusal_at (hr.mono (by decide)) (by rfl) (pa_cons (pv 0) (pa_cons (pv 2) (pa_cons (pv 3) pa_nil)))))
      (pss_cons (ps_if (pt_cmpR op_ne (pv 4) pe_int (nomark _)) (pss_one (ps_ret (pe_lst (pa_cons (pv 4) pa_nil)))) pss_nil)
      (pss_cons (ps_if (pt_cmpR op_gt (pv 1) (pe_globK (by rfl) c_MOST_DECIMALS) (nomark _)) (pss_one (ps_ret (pe_lst (pa_cons (pe_un un_neg pe_int) pa_nil)))) pss_nil)
      (pss_cons (ps_set (i := 5) sc_digits.nd rfl (by first | exact Or.inl rfl | exact Or.inr rfl) pe_int)
      (pss_cons (ps_for PassesOwn.never rfl (pi_range1 (by rfl) O.range_ (pa_cons (pv 1) pa_nil)) (pg_name (i := 6) sc_digits.nd rfl (by first | exact Or.inl rfl | exact Or.inr rfl)) (pss_one (ps_set (i := 5) sc_digits.nd rfl (by first | exact Or.inl rfl | exact Or.inr rfl) (pe_op op_mul (pv 5) pe_int))))
      (pss_cons (ps_set (i := 7) sc_digits.nd rfl (by first | exact Or.inl rfl | exact Or.inr rfl) (pe_op op_cat (pe_lc (own := [("number", 8)]) rfl sc_digits.nd (pi_list (pe_slice (sl_listK (K := K) rfl) (pv 3) po_none (po_some (pe_un un_neg pe_int)))) (show BlkOk ["k", "n", "field", "a", "refusal", "scale", "step", "scaled", "number", "mark"] (defScope s_digits) _ _ from ⟨rfl, by decide +kernel, by decide +kernel, by decide +kernel, by decide +kernel⟩) (fun _ _ _ _ _ => (pg_name (i := 8) sc_digits.nd rfl (by first | exact Or.inl rfl | exact Or.inr rfl))) (fun _ _ _ _ _ => pts_nil) (fun _ _ _ _ _ => (pe_op op_mul (pv 8) (pv 5)))) (pe_lst (pa_cons (pe_ix (ix_listK (K := K) rfl) (pv 3) (pe_un un_neg pe_int) (fun _ _ => rfl)) pa_nil))))
      (pss_one (ps_ret (pe_op op_cat (pe_lst (pa_cons pe_int pa_nil)) (pe_lc (own := [("mark", 9)]) rfl sc_digits.nd (pi_str (pe_cal C_decimal_text (hr.mono (by decide)) (by rfl) (pa_cons (pe_cal C_nearest_at (hr.mono (by decide)) (by rfl) (pa_cons (pv 0) (pa_cons (pv 2) (pa_cons (pv 7) pa_nil)))) (pa_cons (pv 1) pa_nil)))) (show BlkOk ["k", "n", "field", "a", "refusal", "scale", "step", "scaled", "number", "mark"] (defScope s_digits) _ _ from ⟨rfl, by decide +kernel, by decide +kernel, by decide +kernel, by decide +kernel⟩) (fun _ _ _ _ _ => (pg_name (i := 9) sc_digits.nd rfl (by first | exact Or.inl rfl | exact Or.inr rfl))) (fun _ _ _ _ _ => pts_nil) (fun _ _ _ _ _ => (pe_callB call_ord (by rfl) O.ord_ bt_ord (pa_cons (pv 9) pa_nil))))))))))))), ?_⟩
    refine ⟨_, rfl, _, rfl, _, rfl, k, _, _, c, r, rfl, ⟨ca, rfl, hc⟩, ⟨b, rfl, hb⟩, hk.1, by lia, fun H1 s1 => ?_⟩
    refine ⟨_, rfl, rfl, _, rfl, ?_⟩
    have e0 := digits_is k n c r
    refine ite2 (fun h1 => ?_) (fun h1 => ?_)
    · have h1' := nq_ne h1
      refine ⟨_, rfl, (by show 1 ≤ sizeLine; decide), fun q hq => kk _ _ ⟨q, rfl, ?_⟩⟩
      rw [upd_same, e0]
      by_cases h2 : rowsRefusal c [r] = 0
      · rw [if_pos h2] at h1' ⊢
        rw [if_pos h2]
        by_cases h3 : Root.places c ≤ k.toNat
        · rw [if_pos h3, if_pos h3]; rfl
        · rw [if_neg h3] at h1'
          exact absurd rfl h1'
      · rw [if_neg h2, if_neg h2]; rfl
    have h1' := nq_eq h1
    have h2 : rowsRefusal c [r] = 0 := by
      false_or_by_contra
      rename_i h2
      rw [if_neg h2] at h1'
      exact h2 h1'
    rw [if_pos h2] at h1' e0
    have h3 : ¬ Root.places c ≤ k.toNat := fun z => by
      rw [if_pos z] at h1'
      cases h1'
    rw [if_neg h3] at e0
    refine ⟨_, rfl, _, _, rfl, rfl, _, rfl, ?_⟩
    refine ite2 (fun h4 => ?_) (fun h4 => ?_)
    · have h4' := of_decide_eq_true h4
      rw [if_pos (by lia)] at e0
      refine ⟨_, rfl, (by show 1 ≤ sizeLine; decide), fun q hq => kk _ _ ⟨q, rfl, ?_⟩⟩
      rw [upd_same, e0]
      rfl
    have h4' : ¬ 20 < n := fun z => h4 (decide_eq_true z)
    rw [if_neg (by lia)] at e0
    obtain ⟨i0, i1⟩ := rows1 h2
    obtain ⟨ms, m, rfl, hm1, hm2⟩ := row_split i1
    rw [num_snoc, digits_near i0 (by lia) hm2 hm1 (Nat.pow_pos (by decide))] at e0
    have hkn : k = ((k.toNat : Nat) : Int) := by lia
    have hnn : n = ((n.toNat : Nat) : Int) := by lia
    generalize hN : n.toNat = N at *
    subst hnn
    have hN20 : N ≤ 20 := by lia
    refine ⟨_, rfl, _, rfl, by lia, by lia, ?_⟩
    refine for_range (lo := 0) (n := ((N : Int)).toNat) (fun i σ H' => ∃ v4 v6 : Option V, σ = [some (.int k), some (.int N), some (.ref ca), some (.ref b), v4, some (.int ((10 ^ i : Nat) : Int)), v6, none, none, none] ∧ Same H1 H')
      ⟨_, none, rfl, Same.refl _⟩ ?_ ?_
    · rintro i σ H3 hi ⟨v4, v6, rfl, s3⟩
      refine ⟨_, rfl, _, _, rfl, rfl, .inr ⟨by decide, by decide⟩, v4, some (.int (0 + (i : Int))), ?_, s3⟩
      have e : ((10 ^ i : Nat) : Int) * 10 = ((10 ^ (i + 1) : Nat) : Int) := by
        rw [Nat.pow_succ]
        push_cast
        rfl
      rw [← e]
      rfl
    · rintro σ H3 ⟨v4, v6, rfl, s3⟩
      rw [hN]
      have hT : (((10 ^ N : Nat) : Int)).natAbs < 2 ^ 67 := by
        rw [Int.natAbs_natCast]
        exact Nat.lt_of_le_of_lt (Nat.pow_le_pow_right (by decide) hN20) (by decide)
      generalize hTT : ((10 ^ N : Nat) : Int) = T at *
      refine ⟨_, rfl, _, rfl, _, rfl, b, _, rfl, (s1.trans s3).seq hb, fun x hx => ?_⟩
      rw [cut_last]
      have s4 : Same H3 (upd H3 x (.lst (ms.map V.int))) := same_upd hx
      refine ⟨x, rfl, ⟨_, SqL.of upd_same⟩, fun D hD => ?_⟩
      refine lc_ints (K := K) (a := x) (ns := ms) (fun _ => true) (fun z => V.int (z * T)) (SqL.of upd_same) (small1000 (by simp at hl1; lia)) hD (fun z => rfl) (fun z hz' H5 Rv R s5 hR => ?_) (fun H5 s5 e5 => ?_)
      · have hR' := hR H5 (Same.refl H5)
        rw [if_pos rfl] at hR'
        have := hz z (by simp [hz'])
        exact ⟨_, rfl, _, rfl, _, _, rfl, rfl, .inl ⟨by lia, by lia⟩, hR'⟩
      rw [filter_yes] at e5
      have s6 := (s1.trans s3).trans (s4.trans s5)
      refine ⟨_, rfl, _, rfl, b, _, _, _, rfl, rfl, s6.seq hb, at_end _ _, (by show 1 ≤ sizeLine; decide), fun t ht => ?_⟩
      have s7 : Same H5 (upd H5 t (.lst [V.int m])) := same_upd ht
      refine ⟨D, t, _, _, rfl, rfl, s7 _ _ e5, upd_same, ?_, fun sc hsc => ?_⟩
      · rw [List.length_map]
        exact Nat.le_trans (show ms.length + 1 ≤ 20 by simp at hl1; lia) (by decide)
      have s8 := s7.trans (same_upd (o := .lst (ms.map (fun (z : Int) => V.int (z * T)) ++ [V.int m])) hsc)
      have s9 := s6.trans s8
      generalize hHH : upd _ sc (.lst (ms.map (fun (z : Int) => V.int (z * T)) ++ [V.int m])) = HH at *
      have hscl : HH sc = some (.lst (((ms.map fun (z : Int) => z * T) ++ [m]).map V.int)) := by
        rw [← hHH, upd_same, List.map_append, List.map_map]
        rfl
      have hfew : FewI 130 ((ms.map fun (z : Int) => z * T) ++ [m]) := fun z hz' => by
        rcases List.mem_append.mp hz' with h5 | h5
        · obtain ⟨y, hy, rfl⟩ := List.mem_map.mp h5
          exact mul_lt2 (hz y (by simp [hy])) hT
        · have : z = m := by simpa using h5
          rw [this]
          exact lt_up (hz m (by simp)) (by decide)
      refine ⟨(by show 1 ≤ sizeLine; decide), fun q hq => ?_⟩
      have s10 := same_upd (o := .lst [V.int 0]) hq
      have s11 := s9.trans s10
      refine ⟨_, rfl, _, rfl, _, rfl, k.toNat, _, _, c, ms.map fun (z : Int) => z * T, m, 130, ?_, ⟨ca, rfl, s11.seq hc⟩, ⟨sc, rfl, SqL.of (s10 _ _ hscl)⟩, i0, by lia, by rw [List.length_map]; exact hm1, hm2, hfew, by decide, fun H12 s12 hbd => ?_⟩
      · rw [← hkn]
        rfl
      generalize near c (dv m (ms.map fun (z : Int) => z * T)) k.toNat = z at *
      have hz100 : z.natAbs < 10 ^ 100 := Nat.lt_of_le_of_lt hbd (by decide)
      refine ⟨_, rfl, z, N, rfl, hz100, hN20, fun H13 tx s13 htx => ?_⟩
      have hcl : (codes (z.natAbs / 10 ^ N)).length ≤ 100 := codes_len 100 _ (Nat.lt_of_le_of_lt (Nat.div_le_self _ _) hz100) (by decide)
      have htl : tx.cps.size ≤ 200 := by
        have e1 : tx.cps.size = (cds tx).length := by simp [cds]
        rw [e1, htx]
        unfold decTxt
        rw [List.length_append, List.length_append]
        have h5 : (if z < 0 then [45] else [] : List Nat).length ≤ 1 := by split <;> decide
        have h6 : (if N = 0 then [] else 46 :: (List.range N).reverse.map fun (i : Nat) => 48 + z.natAbs / 10 ^ i % 10 : List Nat).length ≤ 21 := by
          split
          · exact Nat.zero_le _
          · rw [List.length_cons, List.length_map, List.length_reverse, List.length_range]
            lia
        lia
      refine ⟨tx, rfl, fun G hG => ?_⟩
      refine lc_text (x := tx) (fun c => V.int (c : Int)) (Nat.lt_of_le_of_lt htl (by decide)) hG (fun z => rfl) (fun c hc' H14 R s14 hR => ?_) (fun H14 s14 e14 => ?_) (fun σ H P P' h h' => h _ _ h')
      · exact ⟨rfl, _, rfl, _, rfl, rfl, hR H14 (Same.refl H14)⟩
      · have hq14 := s14 _ _ (s13 _ _ (s12 _ _ upd_same))
        refine ⟨q, G, _, _, rfl, rfl, hq14, e14, ?_, fun w hw => kk _ _ ⟨w, rfl, ?_⟩⟩
        · rw [List.length_map, Array.length_toList]
          exact Nat.le_trans (show 1 + tx.cps.size ≤ 300 by lia) (by decide)
        · rw [upd_same, e0, decimals_is z N (Nat.lt_trans hz100 (Nat.pow_lt_pow_right (by decide) (by decide)))]
          have htx' : tx.cps.toList = decTxt z N := htx
          rw [htx', List.map_cons, List.map_map]
          rfl
theorem all_mk {P : Program} {w : World} {K : PySem.W.Frag} {h : Heap} {mg : Str → Option Value} {fa : Addr} (X : K.In h) (G : h.Ns mainGlobals mg) (hfa : mg "digits" = some (.ref fa))
    {f0 : Addr} {od0 an0 : Option Addr} {sl0 : Array (Option Value)} {oc0 kV0 dc0 pm0 cd0 ct0 : Value}
    (a0 : PySem.W.nsIn K mainGlobals "is_told_rightly" = some (some (.ref f0))) (l0 : K.lookup f0 = some ⟨oc0, od0, .func (PySem.W.fnOf "is_told_rightly" "is_told_rightly" (defArgs s_is_told_rightly) (defBody s_is_told_rightly) (defScope s_is_told_rightly) .none kV0 dc0 pm0 an0 cd0 ct0), sl0⟩) (c0 : PySem.W.codeIn K cd0 "is_told_rightly" = true) (k0 : PySem.W.keepIn K (.ref f0) = true)
    {f1 : Addr} {od1 an1 : Option Addr} {sl1 : Array (Option Value)} {oc1 kV1 dc1 pm1 cd1 ct1 : Value}
    (a1 : PySem.W.nsIn K mainGlobals "polynomial_of" = some (some (.ref f1))) (l1 : K.lookup f1 = some ⟨oc1, od1, .func (PySem.W.fnOf "polynomial_of" "polynomial_of" (defArgs s_polynomial_of) (defBody s_polynomial_of) (defScope s_polynomial_of) .none kV1 dc1 pm1 an1 cd1 ct1), sl1⟩) (c1 : PySem.W.codeIn K cd1 "polynomial_of" = true) (k1 : PySem.W.keepIn K (.ref f1) = true)
    {f2 : Addr} {od2 an2 : Option Addr} {sl2 : Array (Option Value)} {oc2 kV2 dc2 pm2 cd2 ct2 : Value}
    (a2 : PySem.W.nsIn K mainGlobals "divisors_of" = some (some (.ref f2))) (l2 : K.lookup f2 = some ⟨oc2, od2, .func (PySem.W.fnOf "divisors_of" "divisors_of" (defArgs s_divisors_of) (defBody s_divisors_of) (defScope s_divisors_of) .none kV2 dc2 pm2 an2 cd2 ct2), sl2⟩) (c2 : PySem.W.codeIn K cd2 "divisors_of" = true) (k2 : PySem.W.keepIn K (.ref f2) = true)
    {f3 : Addr} {od3 an3 : Option Addr} {sl3 : Array (Option Value)} {oc3 kV3 dc3 pm3 cd3 ct3 : Value}
    (a3 : PySem.W.nsIn K mainGlobals "value_at" = some (some (.ref f3))) (l3 : K.lookup f3 = some ⟨oc3, od3, .func (PySem.W.fnOf "value_at" "value_at" (defArgs s_value_at) (defBody s_value_at) (defScope s_value_at) .none kV3 dc3 pm3 an3 cd3 ct3), sl3⟩) (c3 : PySem.W.codeIn K cd3 "value_at" = true) (k3 : PySem.W.keepIn K (.ref f3) = true)
    {f4 : Addr} {od4 an4 : Option Addr} {sl4 : Array (Option Value)} {oc4 kV4 dc4 pm4 cd4 ct4 : Value}
    (a4 : PySem.W.nsIn K mainGlobals "has_whole_root" = some (some (.ref f4))) (l4 : K.lookup f4 = some ⟨oc4, od4, .func (PySem.W.fnOf "has_whole_root" "has_whole_root" (defArgs s_has_whole_root) (defBody s_has_whole_root) (defScope s_has_whole_root) .none kV4 dc4 pm4 an4 cd4 ct4), sl4⟩) (c4 : PySem.W.codeIn K cd4 "has_whole_root" = true) (k4 : PySem.W.keepIn K (.ref f4) = true)
    {f5 : Addr} {od5 an5 : Option Addr} {sl5 : Array (Option Value)} {oc5 kV5 dc5 pm5 cd5 ct5 : Value}
    (a5 : PySem.W.nsIn K mainGlobals "square_root_floor" = some (some (.ref f5))) (l5 : K.lookup f5 = some ⟨oc5, od5, .func (PySem.W.fnOf "square_root_floor" "square_root_floor" (defArgs s_square_root_floor) (defBody s_square_root_floor) (defScope s_square_root_floor) .none kV5 dc5 pm5 an5 cd5 ct5), sl5⟩) (c5 : PySem.W.codeIn K cd5 "square_root_floor" = true) (k5 : PySem.W.keepIn K (.ref f5) = true)
    {f6 : Addr} {od6 an6 : Option Addr} {sl6 : Array (Option Value)} {oc6 kV6 dc6 pm6 cd6 ct6 : Value}
    (a6 : PySem.W.nsIn K mainGlobals "is_product_of_quadratics" = some (some (.ref f6))) (l6 : K.lookup f6 = some ⟨oc6, od6, .func (PySem.W.fnOf "is_product_of_quadratics" "is_product_of_quadratics" (defArgs s_is_product_of_quadratics) (defBody s_is_product_of_quadratics) (defScope s_is_product_of_quadratics) .none kV6 dc6 pm6 an6 cd6 ct6), sl6⟩) (c6 : PySem.W.codeIn K cd6 "is_product_of_quadratics" = true) (k6 : PySem.W.keepIn K (.ref f6) = true)
    {f7 : Addr} {od7 an7 : Option Addr} {sl7 : Array (Option Value)} {oc7 kV7 dc7 pm7 cd7 ct7 : Value}
    (a7 : PySem.W.nsIn K mainGlobals "is_product" = some (some (.ref f7))) (l7 : K.lookup f7 = some ⟨oc7, od7, .func (PySem.W.fnOf "is_product" "is_product" (defArgs s_is_product) (defBody s_is_product) (defScope s_is_product) .none kV7 dc7 pm7 an7 cd7 ct7), sl7⟩) (c7 : PySem.W.codeIn K cd7 "is_product" = true) (k7 : PySem.W.keepIn K (.ref f7) = true)
    {f8 : Addr} {od8 an8 : Option Addr} {sl8 : Array (Option Value)} {oc8 kV8 dc8 pm8 cd8 ct8 : Value}
    (a8 : PySem.W.nsIn K mainGlobals "field_refusal" = some (some (.ref f8))) (l8 : K.lookup f8 = some ⟨oc8, od8, .func (PySem.W.fnOf "field_refusal" "field_refusal" (defArgs s_field_refusal) (defBody s_field_refusal) (defScope s_field_refusal) .none kV8 dc8 pm8 an8 cd8 ct8), sl8⟩) (c8 : PySem.W.codeIn K cd8 "field_refusal" = true) (k8 : PySem.W.keepIn K (.ref f8) = true)
    {f9 : Addr} {od9 an9 : Option Addr} {sl9 : Array (Option Value)} {oc9 kV9 dc9 pm9 cd9 ct9 : Value}
    (a9 : PySem.W.nsIn K mainGlobals "is_row" = some (some (.ref f9))) (l9 : K.lookup f9 = some ⟨oc9, od9, .func (PySem.W.fnOf "is_row" "is_row" (defArgs s_is_row) (defBody s_is_row) (defScope s_is_row) .none kV9 dc9 pm9 an9 cd9 ct9), sl9⟩) (c9 : PySem.W.codeIn K cd9 "is_row" = true) (k9 : PySem.W.keepIn K (.ref f9) = true)
    {f10 : Addr} {od10 an10 : Option Addr} {sl10 : Array (Option Value)} {oc10 kV10 dc10 pm10 cd10 ct10 : Value}
    (a10 : PySem.W.nsIn K mainGlobals "are_rows" = some (some (.ref f10))) (l10 : K.lookup f10 = some ⟨oc10, od10, .func (PySem.W.fnOf "are_rows" "are_rows" (defArgs s_are_rows) (defBody s_are_rows) (defScope s_are_rows) .none kV10 dc10 pm10 an10 cd10 ct10), sl10⟩) (c10 : PySem.W.codeIn K cd10 "are_rows" = true) (k10 : PySem.W.keepIn K (.ref f10) = true)
    {f11 : Addr} {od11 an11 : Option Addr} {sl11 : Array (Option Value)} {oc11 kV11 dc11 pm11 cd11 ct11 : Value}
    (a11 : PySem.W.nsIn K mainGlobals "refusal_of" = some (some (.ref f11))) (l11 : K.lookup f11 = some ⟨oc11, od11, .func (PySem.W.fnOf "refusal_of" "refusal_of" (defArgs s_refusal_of) (defBody s_refusal_of) (defScope s_refusal_of) .none kV11 dc11 pm11 an11 cd11 ct11), sl11⟩) (c11 : PySem.W.codeIn K cd11 "refusal_of" = true) (k11 : PySem.W.keepIn K (.ref f11) = true)
    {f12 : Addr} {od12 an12 : Option Addr} {sl12 : Array (Option Value)} {oc12 kV12 dc12 pm12 cd12 ct12 : Value}
    (a12 : PySem.W.nsIn K mainGlobals "derivative_of" = some (some (.ref f12))) (l12 : K.lookup f12 = some ⟨oc12, od12, .func (PySem.W.fnOf "derivative_of" "derivative_of" (defArgs s_derivative_of) (defBody s_derivative_of) (defScope s_derivative_of) .none kV12 dc12 pm12 an12 cd12 ct12), sl12⟩) (c12 : PySem.W.codeIn K cd12 "derivative_of" = true) (k12 : PySem.W.keepIn K (.ref f12) = true)
    {f13 : Addr} {od13 an13 : Option Addr} {sl13 : Array (Option Value)} {oc13 kV13 dc13 pm13 cd13 ct13 : Value}
    (a13 : PySem.W.nsIn K mainGlobals "without_end_zeros" = some (some (.ref f13))) (l13 : K.lookup f13 = some ⟨oc13, od13, .func (PySem.W.fnOf "without_end_zeros" "without_end_zeros" (defArgs s_without_end_zeros) (defBody s_without_end_zeros) (defScope s_without_end_zeros) .none kV13 dc13 pm13 an13 cd13 ct13), sl13⟩) (c13 : PySem.W.codeIn K cd13 "without_end_zeros" = true) (k13 : PySem.W.keepIn K (.ref f13) = true)
    {f14 : Addr} {od14 an14 : Option Addr} {sl14 : Array (Option Value)} {oc14 kV14 dc14 pm14 cd14 ct14 : Value}
    (a14 : PySem.W.nsIn K mainGlobals "halved" = some (some (.ref f14))) (l14 : K.lookup f14 = some ⟨oc14, od14, .func (PySem.W.fnOf "halved" "halved" (defArgs s_halved) (defBody s_halved) (defScope s_halved) .none kV14 dc14 pm14 an14 cd14 ct14), sl14⟩) (c14 : PySem.W.codeIn K cd14 "halved" = true) (k14 : PySem.W.keepIn K (.ref f14) = true)
    {f15 : Addr} {od15 an15 : Option Addr} {sl15 : Array (Option Value)} {oc15 kV15 dc15 pm15 cd15 ct15 : Value}
    (a15 : PySem.W.nsIn K mainGlobals "common_divisor" = some (some (.ref f15))) (l15 : K.lookup f15 = some ⟨oc15, od15, .func (PySem.W.fnOf "common_divisor" "common_divisor" (defArgs s_common_divisor) (defBody s_common_divisor) (defScope s_common_divisor) .none kV15 dc15 pm15 an15 cd15 ct15), sl15⟩) (c15 : PySem.W.codeIn K cd15 "common_divisor" = true) (k15 : PySem.W.keepIn K (.ref f15) = true)
    {f16 : Addr} {od16 an16 : Option Addr} {sl16 : Array (Option Value)} {oc16 kV16 dc16 pm16 cd16 ct16 : Value}
    (a16 : PySem.W.nsIn K mainGlobals "without_divisor" = some (some (.ref f16))) (l16 : K.lookup f16 = some ⟨oc16, od16, .func (PySem.W.fnOf "without_divisor" "without_divisor" (defArgs s_without_divisor) (defBody s_without_divisor) (defScope s_without_divisor) .none kV16 dc16 pm16 an16 cd16 ct16), sl16⟩) (c16 : PySem.W.codeIn K cd16 "without_divisor" = true) (k16 : PySem.W.keepIn K (.ref f16) = true)
    {f17 : Addr} {od17 an17 : Option Addr} {sl17 : Array (Option Value)} {oc17 kV17 dc17 pm17 cd17 ct17 : Value}
    (a17 : PySem.W.nsIn K mainGlobals "scaled_remainder" = some (some (.ref f17))) (l17 : K.lookup f17 = some ⟨oc17, od17, .func (PySem.W.fnOf "scaled_remainder" "scaled_remainder" (defArgs s_scaled_remainder) (defBody s_scaled_remainder) (defScope s_scaled_remainder) .none kV17 dc17 pm17 an17 cd17 ct17), sl17⟩) (c17 : PySem.W.codeIn K cd17 "scaled_remainder" = true) (k17 : PySem.W.keepIn K (.ref f17) = true)
    {f18 : Addr} {od18 an18 : Option Addr} {sl18 : Array (Option Value)} {oc18 kV18 dc18 pm18 cd18 ct18 : Value}
    (a18 : PySem.W.nsIn K mainGlobals "sturm_chain" = some (some (.ref f18))) (l18 : K.lookup f18 = some ⟨oc18, od18, .func (PySem.W.fnOf "sturm_chain" "sturm_chain" (defArgs s_sturm_chain) (defBody s_sturm_chain) (defScope s_sturm_chain) .none kV18 dc18 pm18 an18 cd18 ct18), sl18⟩) (c18 : PySem.W.codeIn K cd18 "sturm_chain" = true) (k18 : PySem.W.keepIn K (.ref f18) = true)
    {f19 : Addr} {od19 an19 : Option Addr} {sl19 : Array (Option Value)} {oc19 kV19 dc19 pm19 cd19 ct19 : Value}
    (a19 : PySem.W.nsIn K mainGlobals "count_changes" = some (some (.ref f19))) (l19 : K.lookup f19 = some ⟨oc19, od19, .func (PySem.W.fnOf "count_changes" "count_changes" (defArgs s_count_changes) (defBody s_count_changes) (defScope s_count_changes) .none kV19 dc19 pm19 an19 cd19 ct19), sl19⟩) (c19 : PySem.W.codeIn K cd19 "count_changes" = true) (k19 : PySem.W.keepIn K (.ref f19) = true)
    {f20 : Addr} {od20 an20 : Option Addr} {sl20 : Array (Option Value)} {oc20 kV20 dc20 pm20 cd20 ct20 : Value}
    (a20 : PySem.W.nsIn K mainGlobals "far_below" = some (some (.ref f20))) (l20 : K.lookup f20 = some ⟨oc20, od20, .func (PySem.W.fnOf "far_below" "far_below" (defArgs s_far_below) (defBody s_far_below) (defScope s_far_below) .none kV20 dc20 pm20 an20 cd20 ct20), sl20⟩) (c20 : PySem.W.codeIn K cd20 "far_below" = true) (k20 : PySem.W.keepIn K (.ref f20) = true)
    {f21 : Addr} {od21 an21 : Option Addr} {sl21 : Array (Option Value)} {oc21 kV21 dc21 pm21 cd21 ct21 : Value}
    (a21 : PySem.W.nsIn K mainGlobals "count_places" = some (some (.ref f21))) (l21 : K.lookup f21 = some ⟨oc21, od21, .func (PySem.W.fnOf "count_places" "count_places" (defArgs s_count_places) (defBody s_count_places) (defScope s_count_places) .none kV21 dc21 pm21 an21 cd21 ct21), sl21⟩) (c21 : PySem.W.codeIn K cd21 "count_places" = true) (k21 : PySem.W.keepIn K (.ref f21) = true)
    {f22 : Addr} {od22 an22 : Option Addr} {sl22 : Array (Option Value)} {oc22 kV22 dc22 pm22 cd22 ct22 : Value}
    (a22 : PySem.W.nsIn K mainGlobals "refusal_at" = some (some (.ref f22))) (l22 : K.lookup f22 = some ⟨oc22, od22, .func (PySem.W.fnOf "refusal_at" "refusal_at" (defArgs s_refusal_at) (defBody s_refusal_at) (defScope s_refusal_at) .none kV22 dc22 pm22 an22 cd22 ct22), sl22⟩) (c22 : PySem.W.codeIn K cd22 "refusal_at" = true) (k22 : PySem.W.keepIn K (.ref f22) = true)
    {f23 : Addr} {od23 an23 : Option Addr} {sl23 : Array (Option Value)} {oc23 kV23 dc23 pm23 cd23 ct23 : Value}
    (a23 : PySem.W.nsIn K mainGlobals "is_zero" = some (some (.ref f23))) (l23 : K.lookup f23 = some ⟨oc23, od23, .func (PySem.W.fnOf "is_zero" "is_zero" (defArgs s_is_zero) (defBody s_is_zero) (defScope s_is_zero) .none kV23 dc23 pm23 an23 cd23 ct23), sl23⟩) (c23 : PySem.W.codeIn K cd23 "is_zero" = true) (k23 : PySem.W.keepIn K (.ref f23) = true)
    {f24 : Addr} {od24 an24 : Option Addr} {sl24 : Array (Option Value)} {oc24 kV24 dc24 pm24 cd24 ct24 : Value}
    (a24 : PySem.W.nsIn K mainGlobals "fraction_parts" = some (some (.ref f24))) (l24 : K.lookup f24 = some ⟨oc24, od24, .func (PySem.W.fnOf "fraction_parts" "fraction_parts" (defArgs s_fraction_parts) (defBody s_fraction_parts) (defScope s_fraction_parts) .none kV24 dc24 pm24 an24 cd24 ct24), sl24⟩) (c24 : PySem.W.codeIn K cd24 "fraction_parts" = true) (k24 : PySem.W.keepIn K (.ref f24) = true)
    {f25 : Addr} {od25 an25 : Option Addr} {sl25 : Array (Option Value)} {oc25 kV25 dc25 pm25 cd25 ct25 : Value}
    (a25 : PySem.W.nsIn K mainGlobals "scaled_value" = some (some (.ref f25))) (l25 : K.lookup f25 = some ⟨oc25, od25, .func (PySem.W.fnOf "scaled_value" "scaled_value" (defArgs s_scaled_value) (defBody s_scaled_value) (defScope s_scaled_value) .none kV25 dc25 pm25 an25 cd25 ct25), sl25⟩) (c25 : PySem.W.codeIn K cd25 "scaled_value" = true) (k25 : PySem.W.keepIn K (.ref f25) = true)
    {f26 : Addr} {od26 an26 : Option Addr} {sl26 : Array (Option Value)} {oc26 kV26 dc26 pm26 cd26 ct26 : Value}
    (a26 : PySem.W.nsIn K mainGlobals "is_root_below" = some (some (.ref f26))) (l26 : K.lookup f26 = some ⟨oc26, od26, .func (PySem.W.fnOf "is_root_below" "is_root_below" (defArgs s_is_root_below) (defBody s_is_root_below) (defScope s_is_root_below) .none kV26 dc26 pm26 an26 cd26 ct26), sl26⟩) (c26 : PySem.W.codeIn K cd26 "is_root_below" = true) (k26 : PySem.W.keepIn K (.ref f26) = true)
    {f27 : Addr} {od27 an27 : Option Addr} {sl27 : Array (Option Value)} {oc27 kV27 dc27 pm27 cd27 ct27 : Value}
    (a27 : PySem.W.nsIn K mainGlobals "root_between" = some (some (.ref f27))) (l27 : K.lookup f27 = some ⟨oc27, od27, .func (PySem.W.fnOf "root_between" "root_between" (defArgs s_root_between) (defBody s_root_between) (defScope s_root_between) .none kV27 dc27 pm27 an27 cd27 ct27), sl27⟩) (c27 : PySem.W.codeIn K cd27 "root_between" = true) (k27 : PySem.W.keepIn K (.ref f27) = true)
    {f28 : Addr} {od28 an28 : Option Addr} {sl28 : Array (Option Value)} {oc28 kV28 dc28 pm28 cd28 ct28 : Value}
    (a28 : PySem.W.nsIn K mainGlobals "value_bounds" = some (some (.ref f28))) (l28 : K.lookup f28 = some ⟨oc28, od28, .func (PySem.W.fnOf "value_bounds" "value_bounds" (defArgs s_value_bounds) (defBody s_value_bounds) (defScope s_value_bounds) .none kV28 dc28 pm28 an28 cd28 ct28), sl28⟩) (c28 : PySem.W.codeIn K cd28 "value_bounds" = true) (k28 : PySem.W.keepIn K (.ref f28) = true)
    {f29 : Addr} {od29 an29 : Option Addr} {sl29 : Array (Option Value)} {oc29 kV29 dc29 pm29 cd29 ct29 : Value}
    (a29 : PySem.W.nsIn K mainGlobals "parts_within" = some (some (.ref f29))) (l29 : K.lookup f29 = some ⟨oc29, od29, .func (PySem.W.fnOf "parts_within" "parts_within" (defArgs s_parts_within) (defBody s_parts_within) (defScope s_parts_within) .none kV29 dc29 pm29 an29 cd29 ct29), sl29⟩) (c29 : PySem.W.codeIn K cd29 "parts_within" = true) (k29 : PySem.W.keepIn K (.ref f29) = true)
    {f30 : Addr} {od30 an30 : Option Addr} {sl30 : Array (Option Value)} {oc30 kV30 dc30 pm30 cd30 ct30 : Value}
    (a30 : PySem.W.nsIn K mainGlobals "nearer_root" = some (some (.ref f30))) (l30 : K.lookup f30 = some ⟨oc30, od30, .func (PySem.W.fnOf "nearer_root" "nearer_root" (defArgs s_nearer_root) (defBody s_nearer_root) (defScope s_nearer_root) .none kV30 dc30 pm30 an30 cd30 ct30), sl30⟩) (c30 : PySem.W.codeIn K cd30 "nearer_root" = true) (k30 : PySem.W.keepIn K (.ref f30) = true)
    {f31 : Addr} {od31 an31 : Option Addr} {sl31 : Array (Option Value)} {oc31 kV31 dc31 pm31 cd31 ct31 : Value}
    (a31 : PySem.W.nsIn K mainGlobals "parts_at" = some (some (.ref f31))) (l31 : K.lookup f31 = some ⟨oc31, od31, .func (PySem.W.fnOf "parts_at" "parts_at" (defArgs s_parts_at) (defBody s_parts_at) (defScope s_parts_at) .none kV31 dc31 pm31 an31 cd31 ct31), sl31⟩) (c31 : PySem.W.codeIn K cd31 "parts_at" = true) (k31 : PySem.W.keepIn K (.ref f31) = true)
    {f32 : Addr} {od32 an32 : Option Addr} {sl32 : Array (Option Value)} {oc32 kV32 dc32 pm32 cd32 ct32 : Value}
    (a32 : PySem.W.nsIn K mainGlobals "floor_at" = some (some (.ref f32))) (l32 : K.lookup f32 = some ⟨oc32, od32, .func (PySem.W.fnOf "floor_at" "floor_at" (defArgs s_floor_at) (defBody s_floor_at) (defScope s_floor_at) .none kV32 dc32 pm32 an32 cd32 ct32), sl32⟩) (c32 : PySem.W.codeIn K cd32 "floor_at" = true) (k32 : PySem.W.keepIn K (.ref f32) = true)
    {f33 : Addr} {od33 an33 : Option Addr} {sl33 : Array (Option Value)} {oc33 kV33 dc33 pm33 cd33 ct33 : Value}
    (a33 : PySem.W.nsIn K mainGlobals "sign_at" = some (some (.ref f33))) (l33 : K.lookup f33 = some ⟨oc33, od33, .func (PySem.W.fnOf "sign_at" "sign_at" (defArgs s_sign_at) (defBody s_sign_at) (defScope s_sign_at) .none kV33 dc33 pm33 an33 cd33 ct33), sl33⟩) (c33 : PySem.W.codeIn K cd33 "sign_at" = true) (k33 : PySem.W.keepIn K (.ref f33) = true)
    {f34 : Addr} {od34 an34 : Option Addr} {sl34 : Array (Option Value)} {oc34 kV34 dc34 pm34 cd34 ct34 : Value}
    (a34 : PySem.W.nsIn K mainGlobals "added" = some (some (.ref f34))) (l34 : K.lookup f34 = some ⟨oc34, od34, .func (PySem.W.fnOf "added" "added" (defArgs s_added) (defBody s_added) (defScope s_added) .none kV34 dc34 pm34 an34 cd34 ct34), sl34⟩) (c34 : PySem.W.codeIn K cd34 "added" = true) (k34 : PySem.W.keepIn K (.ref f34) = true)
    {f35 : Addr} {od35 an35 : Option Addr} {sl35 : Array (Option Value)} {oc35 kV35 dc35 pm35 cd35 ct35 : Value}
    (a35 : PySem.W.nsIn K mainGlobals "negated" = some (some (.ref f35))) (l35 : K.lookup f35 = some ⟨oc35, od35, .func (PySem.W.fnOf "negated" "negated" (defArgs s_negated) (defBody s_negated) (defScope s_negated) .none kV35 dc35 pm35 an35 cd35 ct35), sl35⟩) (c35 : PySem.W.codeIn K cd35 "negated" = true) (k35 : PySem.W.keepIn K (.ref f35) = true)
    {f36 : Addr} {od36 an36 : Option Addr} {sl36 : Array (Option Value)} {oc36 kV36 dc36 pm36 cd36 ct36 : Value}
    (a36 : PySem.W.nsIn K mainGlobals "nearest_at" = some (some (.ref f36))) (l36 : K.lookup f36 = some ⟨oc36, od36, .func (PySem.W.fnOf "nearest_at" "nearest_at" (defArgs s_nearest_at) (defBody s_nearest_at) (defScope s_nearest_at) .none kV36 dc36 pm36 an36 cd36 ct36), sl36⟩) (c36 : PySem.W.codeIn K cd36 "nearest_at" = true) (k36 : PySem.W.keepIn K (.ref f36) = true)
    {f37 : Addr} {od37 an37 : Option Addr} {sl37 : Array (Option Value)} {oc37 kV37 dc37 pm37 cd37 ct37 : Value}
    (a37 : PySem.W.nsIn K mainGlobals "decimal_text" = some (some (.ref f37))) (l37 : K.lookup f37 = some ⟨oc37, od37, .func (PySem.W.fnOf "decimal_text" "decimal_text" (defArgs s_decimal_text) (defBody s_decimal_text) (defScope s_decimal_text) .none kV37 dc37 pm37 an37 cd37 ct37), sl37⟩) (c37 : PySem.W.codeIn K cd37 "decimal_text" = true) (k37 : PySem.W.keepIn K (.ref f37) = true)
    {f38 : Addr} {od38 an38 : Option Addr} {sl38 : Array (Option Value)} {oc38 kV38 dc38 pm38 cd38 ct38 : Value}
    (a38 : PySem.W.nsIn K mainGlobals "digits" = some (some (.ref f38))) (l38 : K.lookup f38 = some ⟨oc38, od38, .func (PySem.W.fnOf "digits" "digits" (defArgs s_digits) (defBody s_digits) (defScope s_digits) .none kV38 dc38 pm38 an38 cd38 ct38), sl38⟩) (c38 : PySem.W.codeIn K cd38 "digits" = true) (k38 : PySem.W.keepIn K (.ref f38) = true)
    (b_abs : PySem.W.nsIn K mainGlobals "abs" = some none)
    (b_len : PySem.W.nsIn K mainGlobals "len" = some none)
    (b_all : PySem.W.nsIn K mainGlobals "all" = some none)
    (b_any : PySem.W.nsIn K mainGlobals "any" = some none)
    (b_list : PySem.W.nsIn K mainGlobals "list" = some none)
    (b_reversed : PySem.W.nsIn K mainGlobals "reversed" = some none)
    (b_range : PySem.W.nsIn K mainGlobals "range" = some none)
    (b_max : PySem.W.nsIn K mainGlobals "max" = some none)
    (b_min : PySem.W.nsIn K mainGlobals "min" = some none)
    (b_zip : PySem.W.nsIn K mainGlobals "zip" = some none)
    (b_ord : PySem.W.nsIn K mainGlobals "ord" = some none)
    (b_str : PySem.W.nsIn K mainGlobals "str" = some none)
    {t_GREATEST_DEGREE : Tok} (g_GREATEST_DEGREE : PySem.W.nsIn K mainGlobals "GREATEST_DEGREE" = some (some (.int 4 t_GREATEST_DEGREE)))
    {t_GREATEST_SIZE : Tok} (g_GREATEST_SIZE : PySem.W.nsIn K mainGlobals "GREATEST_SIZE" = some (some (.int 1000 t_GREATEST_SIZE)))
    {t_SHORT_TO_DIVIDE : Tok} (g_SHORT_TO_DIVIDE : PySem.W.nsIn K mainGlobals "SHORT_TO_DIVIDE" = some (some (.int 2000 t_SHORT_TO_DIVIDE)))
    {t_ROOT_BOUND : Tok} (g_ROOT_BOUND : PySem.W.nsIn K mainGlobals "ROOT_BOUND" = some (some (.int 1001 t_ROOT_BOUND)))
    {t_FIRST_BITS : Tok} (g_FIRST_BITS : PySem.W.nsIn K mainGlobals "FIRST_BITS" = some (some (.int 64 t_FIRST_BITS)))
    {t_MOST_DECIMALS : Tok} (g_MOST_DECIMALS : PySem.W.nsIn K mainGlobals "MOST_DECIMALS" = some (some (.int 20 t_MOST_DECIMALS)))
    : ∃ fd : FuncData, (∀ (s : Shared) (us : List Value), us.length = (["k", "n", "field", "a"] : List Str).length → BindsTo s fd ⟨us, []⟩ ((["k", "n", "field", "a"] : List Str).zip us)) ∧ ∀ base : Heap, K.In base → base.Ns mainGlobals mg → FnOk P w K mg base CX0 10 fa fd ["k", "n", "field", "a"] (sp_digits K) := by
  have e := hfa.symm.trans (PySem.W.mg_of X G a38)
  cases e
  have O : Own mg := ⟨PySem.W.mg_none_of X G b_abs, PySem.W.mg_none_of X G b_len, PySem.W.mg_none_of X G b_all, PySem.W.mg_none_of X G b_any, PySem.W.mg_none_of X G b_list, PySem.W.mg_none_of X G b_reversed, PySem.W.mg_none_of X G b_range, PySem.W.mg_none_of X G b_max, PySem.W.mg_none_of X G b_min, PySem.W.mg_none_of X G b_zip, PySem.W.mg_none_of X G b_ord, PySem.W.mg_none_of X G b_str⟩
  have c_GREATEST_DEGREE : Kst mg "GREATEST_DEGREE" 4 := ⟨t_GREATEST_DEGREE, PySem.W.mg_of X G g_GREATEST_DEGREE⟩
  have c_GREATEST_SIZE : Kst mg "GREATEST_SIZE" 1000 := ⟨t_GREATEST_SIZE, PySem.W.mg_of X G g_GREATEST_SIZE⟩
  have c_SHORT_TO_DIVIDE : Kst mg "SHORT_TO_DIVIDE" 2000 := ⟨t_SHORT_TO_DIVIDE, PySem.W.mg_of X G g_SHORT_TO_DIVIDE⟩
  have c_ROOT_BOUND : Kst mg "ROOT_BOUND" 1001 := ⟨t_ROOT_BOUND, PySem.W.mg_of X G g_ROOT_BOUND⟩
  have c_FIRST_BITS : Kst mg "FIRST_BITS" 64 := ⟨t_FIRST_BITS, PySem.W.mg_of X G g_FIRST_BITS⟩
  have c_MOST_DECIMALS : Kst mg "MOST_DECIMALS" 20 := ⟨t_MOST_DECIMALS, PySem.W.mg_of X G g_MOST_DECIMALS⟩
  have F0 := fun_mk (st := s_is_told_rightly) l0 c0 k0
  have B0 := F0.binds (ps := ["field"]) fun _ _ _ _ _ _ us hl => by obtain ⟨_, rfl⟩ := args1 hl; rfl
  have F1 := fun_mk (st := s_polynomial_of) l1 c1 k1
  have B1 := F1.binds (ps := ["field"]) fun _ _ _ _ _ _ us hl => by obtain ⟨_, rfl⟩ := args1 hl; rfl
  have F2 := fun_mk (st := s_divisors_of) l2 c2 k2
  have B2 := F2.binds (ps := ["number"]) fun _ _ _ _ _ _ us hl => by obtain ⟨_, rfl⟩ := args1 hl; rfl
  have F3 := fun_mk (st := s_value_at) l3 c3 k3
  have B3 := F3.binds (ps := ["f", "number"]) fun _ _ _ _ _ _ us hl => by obtain ⟨_, _, rfl⟩ := args2 hl; rfl
  have F4 := fun_mk (st := s_has_whole_root) l4 c4 k4
  have B4 := F4.binds (ps := ["field"]) fun _ _ _ _ _ _ us hl => by obtain ⟨_, rfl⟩ := args1 hl; rfl
  have F5 := fun_mk (st := s_square_root_floor) l5 c5 k5
  have B5 := F5.binds (ps := ["number"]) fun _ _ _ _ _ _ us hl => by obtain ⟨_, rfl⟩ := args1 hl; rfl
  have F6 := fun_mk (st := s_is_product_of_quadratics) l6 c6 k6
  have B6 := F6.binds (ps := ["field"]) fun _ _ _ _ _ _ us hl => by obtain ⟨_, rfl⟩ := args1 hl; rfl
  have F7 := fun_mk (st := s_is_product) l7 c7 k7
  have B7 := F7.binds (ps := ["field"]) fun _ _ _ _ _ _ us hl => by obtain ⟨_, rfl⟩ := args1 hl; rfl
  have F8 := fun_mk (st := s_field_refusal) l8 c8 k8
  have B8 := F8.binds (ps := ["field"]) fun _ _ _ _ _ _ us hl => by obtain ⟨_, rfl⟩ := args1 hl; rfl
  have F9 := fun_mk (st := s_is_row) l9 c9 k9
  have B9 := F9.binds (ps := ["operand", "degree"]) fun _ _ _ _ _ _ us hl => by obtain ⟨_, _, rfl⟩ := args2 hl; rfl
  have F10 := fun_mk (st := s_are_rows) l10 c10 k10
  have B10 := F10.binds (ps := ["operands", "degree"]) fun _ _ _ _ _ _ us hl => by obtain ⟨_, _, rfl⟩ := args2 hl; rfl
  have F11 := fun_mk (st := s_refusal_of) l11 c11 k11
  have B11 := F11.binds (ps := ["field", "operands"]) fun _ _ _ _ _ _ us hl => by obtain ⟨_, _, rfl⟩ := args2 hl; rfl
  have F12 := fun_mk (st := s_derivative_of) l12 c12 k12
  have B12 := F12.binds (ps := ["f"]) fun _ _ _ _ _ _ us hl => by obtain ⟨_, rfl⟩ := args1 hl; rfl
  have F13 := fun_mk (st := s_without_end_zeros) l13 c13 k13
  have B13 := F13.binds (ps := ["values"]) fun _ _ _ _ _ _ us hl => by obtain ⟨_, rfl⟩ := args1 hl; rfl
  have F14 := fun_mk (st := s_halved) l14 c14 k14
  have B14 := F14.binds (ps := ["a", "b"]) fun _ _ _ _ _ _ us hl => by obtain ⟨_, _, rfl⟩ := args2 hl; rfl
  have F15 := fun_mk (st := s_common_divisor) l15 c15 k15
  have B15 := F15.binds (ps := ["m", "n"]) fun _ _ _ _ _ _ us hl => by obtain ⟨_, _, rfl⟩ := args2 hl; rfl
  have F16 := fun_mk (st := s_without_divisor) l16 c16 k16
  have B16 := F16.binds (ps := ["values"]) fun _ _ _ _ _ _ us hl => by obtain ⟨_, rfl⟩ := args1 hl; rfl
  have F17 := fun_mk (st := s_scaled_remainder) l17 c17 k17
  have B17 := F17.binds (ps := ["f", "g"]) fun _ _ _ _ _ _ us hl => by obtain ⟨_, _, rfl⟩ := args2 hl; rfl
  have F18 := fun_mk (st := s_sturm_chain) l18 c18 k18
  have B18 := F18.binds (ps := ["f"]) fun _ _ _ _ _ _ us hl => by obtain ⟨_, rfl⟩ := args1 hl; rfl
  have F19 := fun_mk (st := s_count_changes) l19 c19 k19
  have B19 := F19.binds (ps := ["values"]) fun _ _ _ _ _ _ us hl => by obtain ⟨_, rfl⟩ := args1 hl; rfl
  have F20 := fun_mk (st := s_far_below) l20 c20 k20
  have B20 := F20.binds (ps := ["chain"]) fun _ _ _ _ _ _ us hl => by obtain ⟨_, rfl⟩ := args1 hl; rfl
  have F21 := fun_mk (st := s_count_places) l21 c21 k21
  have B21 := F21.binds (ps := ["field"]) fun _ _ _ _ _ _ us hl => by obtain ⟨_, rfl⟩ := args1 hl; rfl
  have F22 := fun_mk (st := s_refusal_at) l22 c22 k22
  have B22 := F22.binds (ps := ["k", "field", "a"]) fun _ _ _ _ _ _ us hl => by obtain ⟨_, _, _, rfl⟩ := args3 hl; rfl
  have F23 := fun_mk (st := s_is_zero) l23 c23 k23
  have B23 := F23.binds (ps := ["a"]) fun _ _ _ _ _ _ us hl => by obtain ⟨_, rfl⟩ := args1 hl; rfl
  have F24 := fun_mk (st := s_fraction_parts) l24 c24 k24
  have B24 := F24.binds (ps := ["n", "top", "bottom"]) fun _ _ _ _ _ _ us hl => by obtain ⟨_, _, _, rfl⟩ := args3 hl; rfl
  have F25 := fun_mk (st := s_scaled_value) l25 c25 k25
  have B25 := F25.binds (ps := ["f", "top", "bottom"]) fun _ _ _ _ _ _ us hl => by obtain ⟨_, _, _, rfl⟩ := args3 hl; rfl
  have F26 := fun_mk (st := s_is_root_below) l26 c26 k26
  have B26 := F26.binds (ps := ["k", "chain", "number", "bits"]) fun _ _ _ _ _ _ us hl => by obtain ⟨_, _, _, _, rfl⟩ := args4 hl; rfl
  have F27 := fun_mk (st := s_root_between) l27 c27 k27
  have B27 := F27.binds (ps := ["k", "chain", "low", "high", "bits"]) fun _ _ _ _ _ _ us hl => by obtain ⟨_, _, _, _, _, rfl⟩ := args5 hl; rfl
  have F28 := fun_mk (st := s_value_bounds) l28 c28 k28
  have B28 := F28.binds (ps := ["a", "low", "bits"]) fun _ _ _ _ _ _ us hl => by obtain ⟨_, _, _, rfl⟩ := args3 hl; rfl
  have F29 := fun_mk (st := s_parts_within) l29 c29 k29
  have B29 := F29.binds (ps := ["n", "bounds"]) fun _ _ _ _ _ _ us hl => by obtain ⟨_, _, rfl⟩ := args2 hl; rfl
  have F30 := fun_mk (st := s_nearer_root) l30 c30 k30
  have B30 := F30.binds (ps := ["k", "chain", "low", "bits"]) fun _ _ _ _ _ _ us hl => by obtain ⟨_, _, _, _, rfl⟩ := args4 hl; rfl
  have F31 := fun_mk (st := s_parts_at) l31 c31 k31
  have B31 := F31.binds (ps := ["k", "n", "field", "a"]) fun _ _ _ _ _ _ us hl => by obtain ⟨_, _, _, _, rfl⟩ := args4 hl; rfl
  have F32 := fun_mk (st := s_floor_at) l32 c32 k32
  have B32 := F32.binds (ps := ["k", "field", "a"]) fun _ _ _ _ _ _ us hl => by obtain ⟨_, _, _, rfl⟩ := args3 hl; rfl
  have F33 := fun_mk (st := s_sign_at) l33 c33 k33
  have B33 := F33.binds (ps := ["k", "field", "a"]) fun _ _ _ _ _ _ us hl => by obtain ⟨_, _, _, rfl⟩ := args3 hl; rfl
  have F34 := fun_mk (st := s_added) l34 c34 k34
  have B34 := F34.binds (ps := ["a", "b"]) fun _ _ _ _ _ _ us hl => by obtain ⟨_, _, rfl⟩ := args2 hl; rfl
  have F35 := fun_mk (st := s_negated) l35 c35 k35
  have B35 := F35.binds (ps := ["a"]) fun _ _ _ _ _ _ us hl => by obtain ⟨_, rfl⟩ := args1 hl; rfl
  have F36 := fun_mk (st := s_nearest_at) l36 c36 k36
  have B36 := F36.binds (ps := ["k", "field", "a"]) fun _ _ _ _ _ _ us hl => by obtain ⟨_, _, _, rfl⟩ := args3 hl; rfl
  have F37 := fun_mk (st := s_decimal_text) l37 c37 k37
  have B37 := F37.binds (ps := ["number", "n"]) fun _ _ _ _ _ _ us hl => by obtain ⟨_, _, rfl⟩ := args2 hl; rfl
  have F38 := fun_mk (st := s_digits) l38 c38 k38
  have B38 := F38.binds (ps := ["k", "n", "field", "a"]) fun _ _ _ _ _ _ us hl => by obtain ⟨_, _, _, _, rfl⟩ := args4 hl; rfl
  refine ⟨PySem.W.fnOf "digits" "digits" (defArgs s_digits) (defBody s_digits) (defScope s_digits) .none kV38 dc38 pm38 an38 cd38 ct38, fun s us hu => by obtain ⟨_, _, _, _, rfl⟩ := args4 hu; exact .of_eq rfl, fun base _ _ => ?_⟩
  have C_is_told_rightly : Cal P w K mg base 1 "is_told_rightly" ["field"] (sp_is_told_rightly K) := ⟨_, _, ok_is_told_rightly F0 O c_GREATEST_DEGREE c_GREATEST_SIZE, PySem.W.mg_of X G a0, k0, B0⟩
  have C_polynomial_of : Cal P w K mg base 1 "polynomial_of" ["field"] (sp_polynomial_of K) := ⟨_, _, ok_polynomial_of F1 O, PySem.W.mg_of X G a1, k1, B1⟩
  have C_divisors_of : Cal P w K mg base 1 "divisors_of" ["number"] sp_divisors_of := ⟨_, _, ok_divisors_of F2 O, PySem.W.mg_of X G a2, k2, B2⟩
  have C_value_at : Cal P w K mg base 1 "value_at" ["f", "number"] (sp_value_at K) := ⟨_, _, ok_value_at F3 O, PySem.W.mg_of X G a3, k3, B3⟩
  have C_has_whole_root : Cal P w K mg base 2 "has_whole_root" ["field"] (sp_has_whole_root K) := ⟨_, _, ok_has_whole_root F4 O C_polynomial_of C_divisors_of C_value_at, PySem.W.mg_of X G a4, k4, B4⟩
  have C_square_root_floor : Cal P w K mg base 1 "square_root_floor" ["number"] sp_square_root_floor := ⟨_, _, ok_square_root_floor F5 O, PySem.W.mg_of X G a5, k5, B5⟩
  have C_is_product_of_quadratics : Cal P w K mg base 2 "is_product_of_quadratics" ["field"] (sp_is_product_of_quadratics K) := ⟨_, _, ok_is_product_of_quadratics F6 O C_divisors_of C_square_root_floor, PySem.W.mg_of X G a6, k6, B6⟩
  have C_is_product : Cal P w K mg base 3 "is_product" ["field"] (sp_is_product K) := ⟨_, _, ok_is_product F7 O C_has_whole_root C_is_product_of_quadratics, PySem.W.mg_of X G a7, k7, B7⟩
  have C_field_refusal : Cal P w K mg base 4 "field_refusal" ["field"] (sp_field_refusal K) := ⟨_, _, ok_field_refusal F8 O C_is_told_rightly C_is_product, PySem.W.mg_of X G a8, k8, B8⟩
  have C_is_row : Cal P w K mg base 1 "is_row" ["operand", "degree"] (sp_is_row K) := ⟨_, _, ok_is_row F9 O, PySem.W.mg_of X G a9, k9, B9⟩
  have C_are_rows : Cal P w K mg base 2 "are_rows" ["operands", "degree"] (sp_are_rows K) := ⟨_, _, ok_are_rows F10 O C_is_row, PySem.W.mg_of X G a10, k10, B10⟩
  have C_refusal_of : Cal P w K mg base 5 "refusal_of" ["field", "operands"] (sp_refusal_of K) := ⟨_, _, ok_refusal_of F11 O C_field_refusal C_are_rows, PySem.W.mg_of X G a11, k11, B11⟩
  have C_derivative_of : Cal P w K mg base 1 "derivative_of" ["f"] (sp_derivative_of K) := ⟨_, _, ok_derivative_of F12 O, PySem.W.mg_of X G a12, k12, B12⟩
  have C_without_end_zeros : Cal P w K mg base 1 "without_end_zeros" ["values"] (sp_without_end_zeros K) := ⟨_, _, ok_without_end_zeros F13 O, PySem.W.mg_of X G a13, k13, B13⟩
  have C_halved : Cal P w K mg base 1 "halved" ["a", "b"] sp_never := ⟨_, _, ok_halved F14 O, PySem.W.mg_of X G a14, k14, B14⟩
  have C_common_divisor : Cal P w K mg base 2 "common_divisor" ["m", "n"] sp_common_divisor := ⟨_, _, ok_common_divisor F15 O c_SHORT_TO_DIVIDE C_halved, PySem.W.mg_of X G a15, k15, B15⟩
  have C_without_divisor : Cal P w K mg base 3 "without_divisor" ["values"] (sp_without_divisor K) := ⟨_, _, ok_without_divisor F16 O C_common_divisor, PySem.W.mg_of X G a16, k16, B16⟩
  have C_scaled_remainder : Cal P w K mg base 4 "scaled_remainder" ["f", "g"] (sp_scaled_remainder K) := ⟨_, _, ok_scaled_remainder F17 O C_without_end_zeros C_without_divisor, PySem.W.mg_of X G a17, k17, B17⟩
  have C_sturm_chain : Cal P w K mg base 5 "sturm_chain" ["f"] (sp_sturm_chain K) := ⟨_, _, ok_sturm_chain F18 O C_derivative_of C_scaled_remainder, PySem.W.mg_of X G a18, k18, B18⟩
  have C_count_changes : Cal P w K mg base 1 "count_changes" ["values"] (sp_count_changes K) := ⟨_, _, ok_count_changes F19 O, PySem.W.mg_of X G a19, k19, B19⟩
  have C_far_below : Cal P w K mg base 1 "far_below" ["chain"] (sp_far_below K) := ⟨_, _, ok_far_below F20 O, PySem.W.mg_of X G a20, k20, B20⟩
  have C_count_places : Cal P w K mg base 6 "count_places" ["field"] (sp_count_places K) := ⟨_, _, ok_count_places F21 O C_sturm_chain C_polynomial_of C_count_changes C_far_below, PySem.W.mg_of X G a21, k21, B21⟩
  have C_refusal_at : Cal P w K mg base 7 "refusal_at" ["k", "field", "a"] (sp_refusal_at K) := ⟨_, _, ok_refusal_at F22 O C_refusal_of C_count_places, PySem.W.mg_of X G a22, k22, B22⟩
  have C_is_zero : Cal P w K mg base 1 "is_zero" ["a"] (sp_is_zero K) := ⟨_, _, ok_is_zero F23 O, PySem.W.mg_of X G a23, k23, B23⟩
  have C_fraction_parts : Cal P w K mg base 1 "fraction_parts" ["n", "top", "bottom"] sp_fraction_parts := ⟨_, _, ok_fraction_parts F24 O, PySem.W.mg_of X G a24, k24, B24⟩
  have C_scaled_value : Cal P w K mg base 1 "scaled_value" ["f", "top", "bottom"] (sp_scaled_value K) := ⟨_, _, ok_scaled_value F25 O, PySem.W.mg_of X G a25, k25, B25⟩
  have C_is_root_below : Cal P w K mg base 2 "is_root_below" ["k", "chain", "number", "bits"] (sp_is_root_below K) := ⟨_, _, ok_is_root_below F26 O C_scaled_value C_far_below C_count_changes, PySem.W.mg_of X G a26, k26, B26⟩
  have C_root_between : Cal P w K mg base 3 "root_between" ["k", "chain", "low", "high", "bits"] (sp_root_between K) := ⟨_, _, ok_root_between F27 O C_is_root_below, PySem.W.mg_of X G a27, k27, B27⟩
  have C_value_bounds : Cal P w K mg base 2 "value_bounds" ["a", "low", "bits"] (sp_value_bounds K) := ⟨_, _, ok_value_bounds F28 O c_ROOT_BOUND C_scaled_value, PySem.W.mg_of X G a28, k28, B28⟩
  have C_parts_within : Cal P w K mg base 2 "parts_within" ["n", "bounds"] (sp_parts_within K) := ⟨_, _, ok_parts_within F29 O C_fraction_parts, PySem.W.mg_of X G a29, k29, B29⟩
  have C_nearer_root : Cal P w K mg base 4 "nearer_root" ["k", "chain", "low", "bits"] (sp_nearer_root K) := ⟨_, _, ok_nearer_root F30 O C_scaled_value C_is_root_below C_root_between, PySem.W.mg_of X G a30, k30, B30⟩
  have C_parts_at : Cal P w K mg base 6 "parts_at" ["k", "n", "field", "a"] (sp_parts_at K) := ⟨_, _, ok_parts_at F31 O c_FIRST_BITS c_ROOT_BOUND C_fraction_parts C_sturm_chain C_polynomial_of C_root_between C_value_bounds C_parts_within C_nearer_root, PySem.W.mg_of X G a31, k31, B31⟩
  have C_floor_at : Cal P w K mg base 7 "floor_at" ["k", "field", "a"] (sp_floor_at K) := ⟨_, _, ok_floor_at F32 O C_parts_at, PySem.W.mg_of X G a32, k32, B32⟩
  have C_sign_at : Cal P w K mg base 8 "sign_at" ["k", "field", "a"] (sp_sign_at K) := ⟨_, _, ok_sign_at F33 O C_is_zero C_floor_at, PySem.W.mg_of X G a33, k33, B33⟩
  have C_added : Cal P w K mg base 1 "added" ["a", "b"] (sp_added K) := ⟨_, _, ok_added F34 O, PySem.W.mg_of X G a34, k34, B34⟩
  have C_negated : Cal P w K mg base 1 "negated" ["a"] (sp_negated K) := ⟨_, _, ok_negated F35 O, PySem.W.mg_of X G a35, k35, B35⟩
  have C_nearest_at : Cal P w K mg base 9 "nearest_at" ["k", "field", "a"] (sp_nearest_at K) := ⟨_, _, ok_nearest_at F36 O C_sign_at C_floor_at C_added C_negated, PySem.W.mg_of X G a36, k36, B36⟩
  have C_decimal_text : Cal P w K mg base 1 "decimal_text" ["number", "n"] sp_decimal_text := ⟨_, _, ok_decimal_text F37 O, PySem.W.mg_of X G a37, k37, B37⟩
  exact ok_digits F38 O c_MOST_DECIMALS C_refusal_at C_nearest_at C_decimal_text
end Rr
open PySem PySem.W PyProof.Rows
set_option maxRecDepth 100000 in
set_option maxHeartbeats 0 in
theorem PySem.Challenge.cw_rootrows_s12_digits_holds : PySem.Challenge.rw_rootrows_s12_digits.Holds := by
  w_on; k_headS; (case hw => exact ⟨[.int 0, .int 0, .list [], .list []], by decide +kernel, by decide +kernel⟩)
  k_fillS
  refine L2.walk_specK (r := PySem.Challenge.rw_rootrows_s12_digits) (k := 10) (CX := L2.CX0) (ps := ["k", "n", "field", "a"]) (sp := Rr.sp_digits) (by decide +kernel) rfl rfl ⟨rfl, by decide, by decide⟩ (fun w h Y => PySem.W.kIn_of Y) ?F ?S (fun _ _ _ _ z => z)
  case F =>
    intro w mg fa h Y KX G hmg
    refine' Rr.all_mk KX G hmg ?a0 ?l0 ?c0 ?k0 ?a1 ?l1 ?c1 ?k1 ?a2 ?l2 ?c2 ?k2 ?a3 ?l3 ?c3 ?k3 ?a4 ?l4 ?c4 ?k4 ?a5 ?l5 ?c5 ?k5 ?a6 ?l6 ?c6 ?k6 ?a7 ?l7 ?c7 ?k7 ?a8 ?l8 ?c8 ?k8 ?a9 ?l9 ?c9 ?k9 ?a10 ?l10 ?c10 ?k10 ?a11 ?l11 ?c11 ?k11 ?a12 ?l12 ?c12 ?k12 ?a13 ?l13 ?c13 ?k13 ?a14 ?l14 ?c14 ?k14 ?a15 ?l15 ?c15 ?k15 ?a16 ?l16 ?c16 ?k16 ?a17 ?l17 ?c17 ?k17 ?a18 ?l18 ?c18 ?k18 ?a19 ?l19 ?c19 ?k19 ?a20 ?l20 ?c20 ?k20 ?a21 ?l21 ?c21 ?k21 ?a22 ?l22 ?c22 ?k22 ?a23 ?l23 ?c23 ?k23 ?a24 ?l24 ?c24 ?k24 ?a25 ?l25 ?c25 ?k25 ?a26 ?l26 ?c26 ?k26 ?a27 ?l27 ?c27 ?k27 ?a28 ?l28 ?c28 ?k28 ?a29 ?l29 ?c29 ?k29 ?a30 ?l30 ?c30 ?k30 ?a31 ?l31 ?c31 ?k31 ?a32 ?l32 ?c32 ?k32 ?a33 ?l33 ?c33 ?k33 ?a34 ?l34 ?c34 ?k34 ?a35 ?l35 ?c35 ?k35 ?a36 ?l36 ?c36 ?k36 ?a37 ?l37 ?c37 ?k37 ?a38 ?l38 ?c38 ?k38 ?b_abs ?b_len ?b_all ?b_any ?b_list ?b_reversed ?b_range ?b_max ?b_min ?b_zip ?b_ord ?b_str ?g_GREATEST_DEGREE ?g_GREATEST_SIZE ?g_SHORT_TO_DIVIDE ?g_ROOT_BOUND ?g_FIRST_BITS ?g_MOST_DECIMALS
    (case a0 => k_is)
    (case l0 => k_is)
    (case c0 => k_is)
    (case k0 => k_is)
    (case a1 => k_is)
    (case l1 => k_is)
    (case c1 => k_is)
    (case k1 => k_is)
    (case a2 => k_is)
    (case l2 => k_is)
    (case c2 => k_is)
    (case k2 => k_is)
    (case a3 => k_is)
    (case l3 => k_is)
    (case c3 => k_is)
    (case k3 => k_is)
    (case a4 => k_is)
    (case l4 => k_is)
    (case c4 => k_is)
    (case k4 => k_is)
    (case a5 => k_is)
    (case l5 => k_is)
    (case c5 => k_is)
    (case k5 => k_is)
    (case a6 => k_is)
    (case l6 => k_is)
    (case c6 => k_is)
    (case k6 => k_is)
    (case a7 => k_is)
    (case l7 => k_is)
    (case c7 => k_is)
    (case k7 => k_is)
    (case a8 => k_is)
    (case l8 => k_is)
    (case c8 => k_is)
    (case k8 => k_is)
    (case a9 => k_is)
    (case l9 => k_is)
    (case c9 => k_is)
    (case k9 => k_is)
    (case a10 => k_is)
    (case l10 => k_is)
    (case c10 => k_is)
    (case k10 => k_is)
    (case a11 => k_is)
    (case l11 => k_is)
    (case c11 => k_is)
    (case k11 => k_is)
    (case a12 => k_is)
    (case l12 => k_is)
    (case c12 => k_is)
    (case k12 => k_is)
    (case a13 => k_is)
    (case l13 => k_is)
    (case c13 => k_is)
    (case k13 => k_is)
    (case a14 => k_is)
    (case l14 => k_is)
    (case c14 => k_is)
    (case k14 => k_is)
    (case a15 => k_is)
    (case l15 => k_is)
    (case c15 => k_is)
    (case k15 => k_is)
    (case a16 => k_is)
    (case l16 => k_is)
    (case c16 => k_is)
    (case k16 => k_is)
    (case a17 => k_is)
    (case l17 => k_is)
    (case c17 => k_is)
    (case k17 => k_is)
    (case a18 => k_is)
    (case l18 => k_is)
    (case c18 => k_is)
    (case k18 => k_is)
    (case a19 => k_is)
    (case l19 => k_is)
    (case c19 => k_is)
    (case k19 => k_is)
    (case a20 => k_is)
    (case l20 => k_is)
    (case c20 => k_is)
    (case k20 => k_is)
    (case a21 => k_is)
    (case l21 => k_is)
    (case c21 => k_is)
    (case k21 => k_is)
    (case a22 => k_is)
    (case l22 => k_is)
    (case c22 => k_is)
    (case k22 => k_is)
    (case a23 => k_is)
    (case l23 => k_is)
    (case c23 => k_is)
    (case k23 => k_is)
    (case a24 => k_is)
    (case l24 => k_is)
    (case c24 => k_is)
    (case k24 => k_is)
    (case a25 => k_is)
    (case l25 => k_is)
    (case c25 => k_is)
    (case k25 => k_is)
    (case a26 => k_is)
    (case l26 => k_is)
    (case c26 => k_is)
    (case k26 => k_is)
    (case a27 => k_is)
    (case l27 => k_is)
    (case c27 => k_is)
    (case k27 => k_is)
    (case a28 => k_is)
    (case l28 => k_is)
    (case c28 => k_is)
    (case k28 => k_is)
    (case a29 => k_is)
    (case l29 => k_is)
    (case c29 => k_is)
    (case k29 => k_is)
    (case a30 => k_is)
    (case l30 => k_is)
    (case c30 => k_is)
    (case k30 => k_is)
    (case a31 => k_is)
    (case l31 => k_is)
    (case c31 => k_is)
    (case k31 => k_is)
    (case a32 => k_is)
    (case l32 => k_is)
    (case c32 => k_is)
    (case k32 => k_is)
    (case a33 => k_is)
    (case l33 => k_is)
    (case c33 => k_is)
    (case k33 => k_is)
    (case a34 => k_is)
    (case l34 => k_is)
    (case c34 => k_is)
    (case k34 => k_is)
    (case a35 => k_is)
    (case l35 => k_is)
    (case c35 => k_is)
    (case k35 => k_is)
    (case a36 => k_is)
    (case l36 => k_is)
    (case c36 => k_is)
    (case k36 => k_is)
    (case a37 => k_is)
    (case l37 => k_is)
    (case c37 => k_is)
    (case k37 => k_is)
    (case a38 => k_is)
    (case l38 => k_is)
    (case c38 => k_is)
    (case k38 => k_is)
    (case b_abs => k_is)
    (case b_len => k_is)
    (case b_all => k_is)
    (case b_any => k_is)
    (case b_list => k_is)
    (case b_reversed => k_is)
    (case b_range => k_is)
    (case b_max => k_is)
    (case b_min => k_is)
    (case b_zip => k_is)
    (case b_ord => k_is)
    (case b_str => k_is)
    (case g_GREATEST_DEGREE => k_is)
    (case g_GREATEST_SIZE => k_is)
    (case g_SHORT_TO_DIVIDE => k_is)
    (case g_ROOT_BOUND => k_is)
    (case g_FIRST_BITS => k_is)
    (case g_MOST_DECIMALS => k_is)
  case S =>
    intro K H xs a hO hwi hask hx
    obtain ⟨l0, l1, l2, l3, _⟩ := a
    cases hx with
    | cons h0 r0 =>
      cases r0 with
      | cons h1 r1 =>
        cases r1 with
        | cons h2 r2 =>
          cases r2 with
          | cons h3 r3 =>
            cases r3
            cases h0
            cases h1
            cases h2 with
            | lst hs2 ha2 =>
              cases h3 with
              | lst hs3 ha3 =>
                have e2 := L2.ints_dw l2 _ ha2
                have e3 := L2.ints_dw l3 _ ha3
                subst e2 e3
                have q : (Codec.inInt 0 4294967295 l0 && (Codec.inInt 0 4294967295 l1 && ((Codec.inLen 0 10 l2 && l2.all (Codec.inInt (-9223372036854775807) 9223372036854775807)) && ((Codec.inLen 0 10 l3 && l3.all (Codec.inInt (-9223372036854775807) 9223372036854775807)) && true)))) = true := hwi
                simp only [Bool.and_eq_true] at q
                obtain ⟨q0, ⟨q1, ⟨⟨q2, p2⟩, ⟨⟨q3, p3⟩, _⟩⟩⟩⟩ := q
                refine ⟨_, _, l2, l3, l0, l1, rfl, ⟨_, rfl, hs2⟩, ⟨_, rfl, hs3⟩, (Codec.inNat_iff.mp q2).2, (Codec.inNat_iff.mp q3).2, (Codec.inInt_iff.mp q0), (Codec.inInt_iff.mp q1), fun z hz => ?_, fun H' y hy => ?_⟩
                · have := Codec.inInt_iff.mp (List.all_eq_true.mp p3 z hz)
                  lia
                · obtain ⟨p, rfl, hp⟩ := hy
                  exact .lst (L2.SqL.of hp) (L2.dw_ints _)
#print axioms PySem.Challenge.cw_rootrows_s12_digits_holds
